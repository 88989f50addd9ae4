import PyProof.Rows.All
import Wide.All
import OpenK.AllK
import Wide.FinOn
import Lean
import PyProof.EqAt
import PyProof.EqKinds
import PyProof.TupleCall
import KE.KTryMore
import PyProof.ExcAttrAll.ValueError
import PyProof.NsDelKeeps
import KE.KDictOf
import KE.KPairComp
import KE.KSortKey
import KE.KLam
import KE.KRevSl
import PyProof.ListRange
import KE.KSortTup
import KE.KDictSum
import KE.KIntText
import PySem.Challenge.RW_tintroads_k29_texts_refused
open PySem.W renaming Frag->Dd,nsIn->DG,fnOf->DY,findIn->Eb,mg_none_of->Ed,keepIn->EL,subIn->EY,kitOne->E5,codeIn->E_,emptyDict->Ff,Looks->Fz,typeIn->FJ,instObj->FR,mg_of->FZ,clsIn->Gp,cellsFrom_some->GB,callWith_K->GF,looks_findIn->G7,plainGet->Hi,excIn->HH,mroIn->HI,hasDictIn->HZ,specialIn->H_,isFn->Ij,hideAll_none->Iq,hideAll->IM,hideAll_get->IN,isClsIn->IP,makesIn->IQ,plainGet_of->IR,takesIn->IS,lookIn->Jq,methodObj->JD,plainOver->JE,OpenLaw->KC,kia_one->KD,methodCall_KW->KE,takerIn->KG,looks_mroIn->Lk,kitx_tuple->Ly,of_hideAll->Lz,kitx_dict->LV,kitx_list->LW,handedIn->Ml,kitMeta->Mx,exmOne->ME
open PySem renaming wpAny_bind->De,wpAny_pure->Dg,Value->Di,Shared->Dk,mainGlobals->Dr,sizeLine->Ds,Addr->Du,wpAny->Dy,model->DK,Program->DN,starEach->DO,wpAny_mono->DW,PyData->DZ,wpAny_holding->Em,wpAny_newObj_type->Es,bootBuiltins->Ey,World->Ez,wpAny_field->EC,wpAny_setState_of->EE,wpAny_callSpecial?_slot->EJ,Around->EK,wpAny_setField_rec->EQ,wpAny_call_entry->EU,sizeLine_eq->EZ,foldedSetIterable->E6,wpAny_setField->Fa,wpAny_truthy_bool->Fg,bindArgs->Fh,compareOp->Fk,wpAny_standAt->Fl,assignEach->Fn,Heap->Fp,Expr->Fs,mem_of_lookup->Fu,sysModules->Fv,wpAny_pyIter_list->Fw,wpAny_seqItems->FA,wpAny_typeNameOfWhole_itemiter->FC,wpAny_Call_Name_kw->FF,rawInt->FK,wpAny_dictEntries->FN,wpAny_attempt->F0,wpAny_typeNameOf_itemiter->F6,FuncData->F8,codeAny_builtin->Gg,letOwnedTupleGo->Gh,wpAny_comprehension_free->Gi,wpAny_passesOwn->Gj,Builtin->Gn,codeAny->Gq,intKind->Gs,Stmt->Gv,wpAny_pyIter_tuple->GH,eval->GI,codeAny_mono->GP,tupleKind->GR,NameKind->GV,SetTable->GZ,DictEntry->G9,Scope->He,firstArgMember->Hg,compEnvC->Hj,wpAny_askSetting->Hk,wpAny_isInstance->Hl,call_meets->Hv,wpAny_rule->Hw,Comprehension->Hy,backTo->HJ,cellsFrom->HK,wpAny_execs_nil->HL,wpAny_specialOf->HM,pyNext->HR,wpAny_isOneOf_itemiter->HS,IsItemIter->HX,builtinsNs->Ib,sliceBounds->Ic,binaryOp->Ie,newFunctionEnv->Ig,codeAny_call_builtin->Ir,wpAny_setFlight_none->Iu,wpAny_updateSeq_pair->Iv,attributeBase->Iz,typeIs_str->IB,wpAny_call->IC,noteFrame->IV,pickOrder->IW,wpAny_binaryOp_repeat_ref->Js,wpAny_fieldsOf->Jt,isInstance->JI,swapsWith->JJ,wpAny_pyIter_slot->JK,Keyword->JP,frameOf->JY,behindInMarks->J7,plainId_quiet->J',wpAny_letGo->J_,wpAny_of_eq->Ka,wpAny_onRaise->Kb,IsPair->Kc,wpAny_Call_method_late->Kl,wpAny_pyNext_list_item->Km,codeAny_of_tree->KJ,pushCells_keeps->KL,size_of_entries->KM,wpAny_dictEpoch->KN,setEntries->KQ,typeIs_int->KR,isSubtype_stop->K4,wpAny_newTuple->K6,setNext->Ll,wpAny_throw->Lm,IsItemIterOut->Ls,assignInOrder->LG,pyIter->LH,relayAll->LI,wpAny_handled->LK,standAt->L4,typeLookup->L5,valueAt->L6,Within->Mf,seqSlot_of->Mm,bindName->Mo,setField->Mp,BindsTo->Mr,callerA->MA,getItem->MB,IsZip->MD,call->MH
open PySem.Heap renaming get?_push_of_some->Df,lt_size->Dj,get?_push_size->Dl,get?_update_other->DV,get?_update_self->DX,SameBut->Ew,size_push->EA,ExtBut->IH,IsTuple->Kr,get?_none_of_le->KY,IsList->Ld
open List renaming length_map->Dh,mem_cons_of_mem->Do,getElem?_map->Dp,mem_append_right->Dq,mem_cons->Dx,replicate->Dz,getElem?_eq_getElem->DB,mem_singleton->DC,mem_of_getElem?->DF,getElem?_eq_some_iff->DH,size_toArray->DJ,mem_cons_self->DL,map_cons->DP,all_eq_true->DU,getElem?_zip_eq_some->Ea,not_mem_nil->Ef,length_take->Ei,mem_append->Ek,length_cons->Et,length_append->EF,mem_filterMap->EG,mem_map->EH,take_of_length_le->EM,getElem_of_mem->ER,mem_append_left->E7,getLast?_eq_getElem?->E8,nodup_cons->E9,mem_range->Fi,range->Fm,replicate_succ->Ft,map_append->FP,getElem_mem->FU,lookup_cons->FV,append_assoc->F',find?_cons->F_,of_mem_zip->Ga,map_map->Gk,pairwise_cons->GD,lookup->GM,all_cons->GS,flatten_cons->GU,getElem?_append_right->G5,mem_of_getLast?->G6,getElem?_append_left->G_,pairwise_iff_getElem->Hd,filterMap_cons->Hq,getElem?_replicate->HG,length_drop->Ik,getElem?_set_ne->Ip,flatMap_append->II,length_nil->IJ,length_zip->IK,range_succ->IL,length_eraseIdx_of_lt->IZ,getElem?_drop->Jc,getElem?_take->Jd,getElem?_eq_none_iff->Jn,nodup_nil->Jo,getElem_take->JB,take_sublist->JC,cons_append->Kd,mem_flatMap->Ke,getElem?_set_self->Ki,pairwise_lt_range->Kj,all_map->Kv,append_nil->Kw,forIn_cons->Kx,length_replicate->Ky,length_set->Kz,map_nil->KA,Nodup->KO,pairwise_append->KZ,forIn_nil->K3,length->Le,length_pos_iff->Lf,map_congr_left->Lh,any_cons->Lu,map_replicate->Lv,drop_sublist->LO,ext_getElem?->LP,getElem_drop->LQ,length_range->LR,nodup_append->LS,all_nil->Mc,getD->Mt,foldl->MG
open Option.some renaming inj->Dm
open Nat renaming le_refl->Dn,le_trans->Dt,lt_of_lt_of_le->DD,ne_of_lt->DI,lt_irrefl->Eh,not_lt->El,zero_le->ES,ne_of_gt->FB,lt_succ_self->FG,le_of_succ_le->Gf,le_of_lt->Gm,add_le_add->Gw,lt_succ_of_lt->GW,le_add_right->Hh,pow_le_pow_left->Hr,lt_of_le_of_lt->Je,succ_mul->Jf,mul_le_mul->Jp,le_mul_of_pos_right->JQ,le_succ->Lj,lt_trans->Md,mul_comm->Me,log2_lt->Mu
open Bool renaming and_eq_true->Dw,false_ne_true->DM,false_eq_true->EO,false_and->Fx,true_and->Fy,and_true->Hx,and_false->Jh,eq_false_iff->Ju,beq_eq_decide_eq->Kp
open Option renaming map_eq_some_iff->DA,isSome_iff_exists->FE,mem_toList->HY,isSome_some->Lw,getD_none->Mj
open PySem.Value renaming ref->DQ,none->D_,type->FM,int->Hf,bool->IA,isInt_shape->JG,str->KI,float->Mz
open PySem.Obj renaming data_mapFields->Ec,mapFields->Ev,isFreed_of_fields->EI,cls_mapFields->GX,mapSeq->GY,data_mapDictKeys->K0,putSet->LU
open Array renaming getElem?_eq_some_iff->Eg,getElem_toList->EW,length_toList->Fd,getElem?_toList->FW,getD->LL,toList_push->LM
open PySem.Builtin.SmallTypes renaming nextOf->Ej,ownedTupleIsFree->Fe,ownedTupleHandOut->G8
open PySem.PyData renaming int->Eo,bool->F5,str->Gx
open PySem.SetTable renaming below->Ep,grown->Gy,insertAt->JF,advance->Mn
open PySem.Heap.SameBut renaming update->Eu,refl->HW
open PySem.F renaming plainAttrs_str->EB,slot_dict_itemiterator_next->Fb,slot_str_split->Fo,slot_tuple_iterator_next->FT,type_str_split->Gz,called_set->GJ,slot_str_join->GN,type_str_join->GO,slot_int_rmul->HD,slot_tuple_mul->HQ,args_dict_itemiterator_next_1->HV,entry_dict_itemiterator_next->Ih,args_tuple_iterator_next_1->Ix,entry_tuple_iterator_next->IF,slot_zip_next->IG,excBase_ValueError->I_,args_str_split_2->Jb,entry_str_split->Jy,attr_ValueError->JS,plainAttrs_list->JT,slot_dict_items->JU,slot_list_count->JV,slot_list_index->JW,slot_tuple_rmul->JX,slot_dict_items_iter->Kh,args_int_rmul_2->KW,entry_int_rmul->K',slot_int_index->K_,fills_int_mul->Lr
open Int renaming toNat_natCast->ED,emod_lt_of_pos->FY,mul_nonneg->F4,mul_fdiv_cancel_left->F9,gcd->Go,emod_nonneg->GK,toNat->GL,mul_comm->Hu,eq_ofNat_of_zero_le->HE,mul_assoc->HF,gcd_pos_of_ne_zero_right->Iy,fdiv_eq_ediv_of_nonneg->IY,eq_of_mul_eq_mul_left->Jk,natAbs_mul->Jl,mul_left_comm->Jz,le_of_lt->Ks,natAbs_dvd_natAbs->Kt,zero_add->Ku,gcd_comm->Ma,zero_sub->Mb,mul_neg->Ms
open PySem.NameKind renaming cell->EX,free->Fc
open PyProof.Rows renaming callWith_type1->E3,IntsAre->Ho,callWith_builtin1->Ii,assignInOrder_cons->Jg,subscriptTail_builtinR->Kk,AllBare->Ko,seqObj->K5,subscriptTail->LJ,sortedHeap->LZ
open PySem.Str renaming ofString->E4,length_append->FI,length->G4
open Ne renaming symm->Fj
open PySem.Txt renaming split->Fq,startswith->Jr,replace->JZ,join->KP
open False renaming elim->FD
open PySem.Builtin.Str renaming occurrences->FH,partsBetween->Jx,strKind->K8
open ForInStep renaming yield->FO
open PySem.PassesOwn renaming never->FQ
open PySem.Calls renaming spliced_cons->FX,callWith_builtin->HP,spliced_nil->HU,evalArgs_plain->Io,Name_function_global->IX,Constant_str->Ja,call_function_entry->Jj
open PySem.Around renaming under_plainId->F7,under->L7
open PySem.Builtin.Dict_items renaming ownsTuple->GC,ownedTupleFields->Hm,ownedTupleIsFree->Hn,pairFromOwner->HN,newIterator->L8,dictOf->MC
open PySem.Shared renaming heap->Hs,TypeIs->LF
open PySem.Builtin.List renaming listTooLong->Ht,listExtendWith->ID,listLengthHint->IE,listSameRef->Jw
open PyProof.Rows.F renaming plain_set_update_loop->Hz,entry_set_update_loop->JO
open PySem.SetTable.below renaming go->Ia
open Sum renaming inl->Il,inr->LY
open PySem.Builtin.Dict renaming entriesForEmpty->Iw,updateFrom->JM,mergeDict->Kg,showsAll->Kq,quietEq->KS
open Rat renaming mul_lt_mul_of_pos_right->IT,intCast_nonneg->LA
open PySem.Builtin.ObjectAttr renaming bindTo->Ji,dataDescriptor?->Lp,takesStores->L',getOf->MF,find->MI
open List.Perm renaming refl->Jm
open PySem.Builtin.Frozenset renaming sizeOf->Jv
open List.Pairwise renaming nil->JA
open PySem.Builtin.Getset_descriptor renaming descrCheckInstance->JL,descrNameAndClass->JN,descrGetter->KU,descrGet->Ln
open PySem.Paired renaming length->JR
open PySem.W.Looks renaming ld->Kf,andThen->KB
open PySem.StrLaws renaming occ_length_le->KH
open PySem.Builtin.Int renaming intBits->K7
open PySem.EntryCells renaming newEntry->K9
open PySem.Code renaming quiet_builtin->Lq,isFrame->L_
open PySem.W.KF renaming slot_gs->Lx
open PySem.ScopeKind renaming function->LB
open PySem.SeqAt.EqAt renaming int_str->LC,str_int->LD
open PySem.Heap.IsTuple renaming push->LN
open PySem.SetTable.probe renaming go->LX
open PySem.Sem renaming wp_bind'->Mg
open PySem.pickOrder renaming go->Mh
open PySem.Heap.IsList renaming push->Mi
open And renaming intro->Mq
open Or renaming inr->Mw
open PySem.Value.ref renaming inj->MJ
abbrev DE:=@decide_eq_true
abbrev DR:=@decide_eq_false
abbrev DS:=@if_neg
abbrev Ee:=@if_pos
abbrev Er:=@of_decide_eq_true
abbrev EN:=@decide_eq_true_eq
abbrev ET:=@beq_eq_false_iff_ne
abbrev EV:=@beq_iff_eq
abbrev FS:=@congrArg
abbrev Gu:=@or_false
abbrev GG:=@if_false
abbrev GQ:=@if_true
abbrev Im:=@beq_self_eq_true
abbrev IU:=@ne_true_of_eq_false
abbrev JH:=@bne_self_eq_false
set_option autoImplicit true
set_option relaxedAutoImplicit true
set_option Elab.async false
set_option linter.all false
set_option maxRecDepth 100000
namespace L2
open PySem PySem.Spec PyProof.Rows
abbrev cU:=Sum Int Str
def lV:cU->Di->Bool
 |.inl k,v=>Value.isInt k v
 |.inr x,v=>Value.isStrOf x v
def BA (w:Ez):cU->Int
 |.inl k=>hashInt k
 |.inr x=>hashStr w x
theorem bD:∀ {k:cU}{v:Di},lV k v=true->(∃ i t,k=Il i/\v=Hf i t)\/(∃ x t,k=LY x/\v=KI x t)
 |.inl i,v,h=>by
  obtain⟨t,e⟩:=JG (k:=i) (v:=v) h;exact .inl ⟨i,t,rfl,e⟩
 |.inr x,v,h=>by
  obtain⟨t,e⟩:=Value.isStrOf_shape (x:=x) (v:=v) h;exact .inr ⟨x,t,rfl,e⟩
theorem sC (i:Int)(t:Tok):lV (.inl i) (.int i t)=true:=by simp[lV,Value.isInt]
theorem s_ (x:Str)(t:Tok):lV (.inr x) (.str x t)=true:=by simp[lV,Value.isStrOf]
theorem zy (a b:Int):decide ((Il a:cU)=Il b)=(a==b):=by
 by_cases e:a=b
 ·subst e;simp
 ·have h:¬ (Il a:cU)=Il b:=λq=>e (Sum.inl.inj q)
  rw[DR h];exact(ET.mpr e).symm
theorem zJ (a b:Str):decide ((LY a:cU)=LY b)=decide (a=b):=by
 by_cases e:a=b
 ·subst e;simp
 ·have h:¬ (LY a:cU)=LY b:=λq=>e (Sum.inr.inj q)
  rw[DR h,DR e]
theorem zg (a:Int)(b:Str):decide ((Il a:cU)=LY b)=false:=DR (λq=>nomatch q)
theorem y7 (a:Str)(b:Int):decide ((LY a:cU)=Il b)=false:=DR (λq=>nomatch q)
def bi (prog:DN)(w:Ez):PySem.KeyKind prog w cU where
 is:=lV
 hash:=BA w
 inj:=λv a b ha hb=>by
  rcases bD ha with ⟨i,t,rfl,rfl⟩|⟨x,t,rfl,rfl⟩
  ·rcases bD hb with ⟨j,u,rfl,e⟩|⟨y,u,rfl,e⟩
   ·injection e with e1 _;rw[e1]
   ·exact nomatch e
  ·rcases bD hb with ⟨j,u,rfl,e⟩|⟨y,u,rfl,e⟩
   ·exact nomatch e
   ·injection e with e1 _;rw[e1]
 byValue:=λk v h=>by
  rcases bD h with ⟨i,t,rfl,rfl⟩|⟨x,t,rfl,rfl⟩<;>rfl
 pyHash:=λhv h=>by
  rcases bD hv with ⟨i,t,rfl,rfl⟩|⟨x,t,rfl,rfl⟩
  ·exact wpAny_pyHash_int h
  ·exact wpAny_pyHash_str h
 eqBool:=λhu hv h=>by
  rcases bD hu with ⟨i,t,rfl,rfl⟩|⟨x,t,rfl,rfl⟩
  ·rcases bD hv with ⟨j,u,rfl,rfl⟩|⟨y,u,rfl,rfl⟩
   ·rw[zy] at h;exact wpAny_eqBool_int h
   ·rw[zg] at h;exact LC i t y u _ _ _ _ h
  ·rcases bD hv with ⟨j,u,rfl,rfl⟩|⟨y,u,rfl,rfl⟩
   ·rw[y7] at h;exact LD x t j u _ _ _ _ h
   ·rw[zJ] at h;exact wpAny_eqBool_str h
 «strs»:=λk x t v h=>by
  rcases bD h with ⟨i,u,rfl,e⟩|⟨y,u,rfl,e⟩
  ·exact nomatch e
  ·injection e with e1 _
   subst e1;cases v<;>rfl
theorem om (prog:DN)(w:Ez)(i:Int)(t:Tok):(bi prog w).is (.inl i) (.int i t)=true:=sC i t
theorem oW (prog:DN)(w:Ez)(x:Str)(t:Tok):(bi prog w).is (.inr x) (.str x t)=true:=s_ x t
inductive V where
 |non|bl (b:Bool)|int (i:Int)|str (x:Str)|byt (b:Array UInt8)|flt (b:UInt64)|ref (a:Du)|ty (n:String)
 deriving DecidableEq
def RelV:V->Di->Prop
 |.non,u=>u=D_
 |.bl b,u=>u=IA b
 |.int i,u=>∃ t,u=Hf i t
 |.str x,u=>∃ t,u=KI x t
 |.byt b,u=>∃ t,u=Value.bytes b t
 |.flt b,u=>∃ t,u=Mz b t
 |.ref a,u=>u=DQ a
 |.ty n,u=>u=FM n
abbrev aJ:List V->List Di->Prop:=Paired RelV
theorem aJ.length (r:aJ xs us):xs.length=us.length:=JR r
theorem aJ.get:∀ {xs:List V}{us:List Di}{i:Nat}{x:V},aJ xs us->xs[i]?=some x->∃ u,us[i]?=some u/\RelV x u
 |_,_,_,_,.nil,e=>by simp at e
 |_,_,0,_,.cons r _,e=>by simp at e;subst e;exact⟨_,rfl,r⟩
 |_,_,i+1,x,.cons _ t,e=>by
  obtain⟨u,h1,h2⟩:=aJ.get (i:=i) (x:=x) t (by simpa using e);exact⟨u,by simpa using h1,h2⟩
theorem aJ.set (r:RelV x u):∀ {xs:List V}{us:List Di} (i:Nat),aJ xs us->aJ (xs.set i x) (us.set i u)
 |_,_,_,.nil=>.nil
 |_,_,0,.cons _ t=>.cons r t
 |_,_,i+1,.cons q t=>.cons q (aJ.set r i t)
theorem aJ.append:∀ {xs ys:List V}{us ws:List Di},aJ xs us->aJ ys ws->aJ (xs++ys) (us++ws)
 |_,_,_,_,.nil,s=>s
 |_,_,_,_,.cons r t,s=>.cons r (aJ.append t s)
theorem aJ.take:∀ {xs:List V}{us:List Di} (n:Nat),aJ xs us->aJ (xs.take n) (us.take n)
 |_,_,0,_=>.nil
 |_,_,_+1,.nil=>.nil
 |_,_,n+1,.cons r t=>.cons r (aJ.take n t)
theorem aJ.drop:∀ {xs:List V}{us:List Di} (n:Nat),aJ xs us->aJ (xs.drop n) (us.drop n)
 |_,_,0,r=>r
 |_,_,_+1,.nil=>.nil
 |_,_,n+1,.cons _ t=>aJ.drop n t
def gu:Option V->Option Di->Prop
 |some v,some u=>RelV v u
 |none,none=>True
 |_,_=>False
def KV {κ:Type}:List (κ×V)->List (κ×Di)->Prop:=Paired λ(p:κ×V) (q:κ×Di)=>p.1=q.1/\RelV p.2 q.2
def kV:cU->V
 |.inl i=>.int i
 |.inr x=>.str x
inductive HO where
  |lst (xs:List V)
  |tup (xs:List V)
  |dK (kvs:List (cU×V))|dT (kvs:List (List cU×V))
  |set (S:Int->Bool) (n:Nat)
  |ins (C dx:Du) (fs:List (Str×V))
  |own (x:Du)
  |xd (fs:List (Str×V))
  |met (f x:Du)
  |rng (lo hi:Int)
  |frz (o:Obj) (u:HO)
  |tbl (ps:Array Di)
  |ext (φ:Fp->Prop)
abbrev Hp:=Du->Option HO
def upd (H:Hp)(a:Du)(o:HO):Hp:=λb=>if b=a then some o else H b
theorem ac:upd H a o a=some o:=by unfold upd;rw[Ee rfl]
theorem ap (h:b≠a):upd H a o b=H b:=by unfold upd;rw[DS h]
theorem tP {H:Hp}{a b:Du}{o u:HO}(h:H a=some o)(h':H b=some u)(d:o≠u):a≠b:=by
 intro e;subst e;rw[h] at h';exact d (Dm h')
theorem aK {H:Hp}{a b:Du}{o:HO}(h:H a=some o)(h':H b=none):a≠b:=by
 intro e;subst e;rw[h] at h';cases h'
section
variable (P:DN)(w:Ez)
def be (H:Hp)(h:Fp)(a:Du):HO->Prop
 |.lst xs=>xs.length<=Ds/\∃ (its:List Di) (n:Nat),aJ xs its/\h.get? a=some { cls:=.type "list",data:=.seq its.toArray n }
 |.tup xs=>xs.length<=Ds/\∃ its:List Di,aJ xs its/\IsTup h a its.toArray
 |.dK kvs=>kvs.length<=Ds/\(a==Fv)=false/\∃ vs,KV kvs vs/\h.DictOf (bi P w) a vs
 | .dT kvs=>kvs.length <= Ds/\(a == Fv)=false/\∃ xs:List (List cU × Du × Di),
   Paired (λ(p:List cU×V) (q:List cU×Du×Di)=>p.1=q.1/\H q.2.1=some (.tup (p.1.map kV))/\RelV p.2 q.2.2) kvs xs /\
   ∃ o es ep,h.get? a=some o/\o.ExactDict/\o.data=.dict es ep/\es.toList=xs.map (entryOfKey (GR (bi P w)))/\(xs.map (·.1)).Nodup
 |.set S n=>h.SetOf (Gs P w) a S n
 | .ins C dx fs=>H dx=some (.own a)/\fs.length <= 1000/\dx ≠ a/\h.get? a=some (FR C dx) /\
   ∃ mA,h.Ns1 dx mA/\(∀ f,gu (fs.lookup f) (mA f))/\Mf mA (fs.map (·.1))
 |.own _=>∃ o,h.get? a=some o
 |.xd fs=>∃ mA,h.Ns1 a mA/\∀ f,gu (fs.lookup f) (mA f)
 |.rng lo hi=>∃ t u v,h.get? a=some { cls:=.type "range",data:=.fields #[.int lo t,.int hi u,.int 1 v] }
 |.frz o u=>h.get? a=some o/\be H h a u
 |.tbl qs=>∃ ps:Array Di,h.get? a=some { cls:=.none,data:=.fields ps }/\TriplesOk ps.toList/\∃ (q:Str) (t:Nat),qs[0]?=some (.str q t)/\∀ pos cv,codeAmong pos ps.toList=some cv->∃ c o vs t',cv=.ref c/\H c=some (.own a)/\h.get? c=some o/\o.data=.fields vs/\vs[1]?=some (.str q t')
 |.met f x=>h.get? a=some (JD (.ref f) (.ref x))
 |.ext φ=>φ h/\(∃ o,h.get? a=some o)/\∀ h1 h2:Fp,φ h1->(∀ o,h1.get? a=some o->h2.get? a=some o)->φ h2
def gm (H:Hp)(h:Fp):Prop:=∀ a o,H a=some o->be P w H h a o
end
section
variable {P:DN}{w:Ez}{H H':Hp}{h h':Fp}{a:Du}{o:HO}
theorem be.lt (x:be P w H h a o):a<h.objs.size:=by
 cases o with
 |lst xs=>obtain⟨_,_,_,_,e⟩:=x;exact Dj e
 |tup xs=>obtain⟨_,_,_,p⟩:=x;exact p.lt
 |dK kvs=>obtain⟨_,_,_,_,o,_,_,e,_⟩:=x;exact Dj e
 |dT kvs=>obtain⟨_,_,_,_,o,_,_,e,_⟩:=x;exact Dj e
 |set S n=>obtain⟨o,_,_,_,e,_⟩:=x;exact Dj e
 |ins C dx fs=>obtain⟨_,_,_,e,_⟩:=x;exact Dj e
 |own y=>obtain⟨_,e⟩:=x;exact Dj e
 |xd fs=>obtain⟨_,⟨_,_,_,e,_⟩,_⟩:=x;exact Dj e
 |rng lo hi=>obtain⟨_,_,_,e⟩:=x;exact Dj e
 |frz ob u=>obtain⟨e,_⟩:=x;exact Dj e
 |tbl qs=>obtain⟨_,e,_⟩:=x;exact Dj e
 |met f y=>exact Dj (show h.get? a=some _ from x)
 |ext φ=>obtain⟨_,⟨_,e⟩,_⟩:=x;exact Dj e
theorem Paired.mapP:∀ {l₁:List α}{l₂:List β},Paired F l₁ l₂->(∀ a b,F a b->G a b)->Paired G l₁ l₂
 |_,_,.nil,_=>.nil
 |_,_,.cons r t,f=>.cons (f _ _ r) (Paired.mapP t f)
theorem be.stay (x:be P w H h a o) (k:∀ b u,(b=a\/H b=some (.own a))->h.get? b=some u->h'.get? b=some u)
  (ho:∀ b,H b=some (.own a)->H' b=some (.own a))(ht:∀ b xs,H b=some (.tup xs)->H' b=some (.tup xs)):be P w H' h' a o:=by
 induction o with
 |lst xs=>obtain⟨z,its,n,r,e⟩:=x;exact⟨z,its,n,r,k _ _ (.inl rfl) e⟩
 |tup xs=>obtain⟨z,its,r,ob,e,c⟩:=x;exact⟨z,its,r,ob,k _ _ (.inl rfl) e,c⟩
 |dK kvs=>obtain⟨z,y,vs,r,ob,es,ep,e,c⟩:=x;exact⟨z,y,vs,r,ob,es,ep,k _ _ (.inl rfl) e,c⟩
 |dT kvs=>
  obtain⟨z,y,xs,r,ob,es,ep,e,c⟩:=x;exact⟨z,y,xs,Paired.mapP r λp q z=>⟨z.1,ht _ _ z.2.1,z.2.2⟩,ob,es,ep,k _ _ (.inl rfl) e,c⟩
 |set S n=>obtain⟨ob,es,ep,t,e,c⟩:=x;exact⟨ob,es,ep,t,k _ _ (.inl rfl) e,c⟩
 |ins C dx fs=>
  obtain⟨d,z,ne,e,mA,⟨od,es,ep,e2,c⟩,r⟩:=x;exact⟨ho _ d,z,ne,k _ _ (.inl rfl) e,mA,⟨od,es,ep,k _ _ (.inr d) e2,c⟩,r⟩
 |own y=>obtain⟨ob,e⟩:=x;exact⟨ob,k _ _ (.inl rfl) e⟩
 |xd fs=>obtain⟨mA,⟨od,es,ep,e,c⟩,r⟩:=x;exact⟨mA,⟨od,es,ep,k _ _ (.inl rfl) e,c⟩,r⟩
 |rng lo hi=>obtain⟨t,u,v,e⟩:=x;exact⟨t,u,v,k _ _ (.inl rfl) e⟩
 |frz ob u ih=>obtain⟨e,q⟩:=x;exact⟨k _ _ (.inl rfl) e,ih q⟩
 |tbl qs=>
  obtain⟨ps,e,tr,q,tq,e0,f⟩:=x;refine⟨ps,k _ _ (.inl rfl) e,tr,q,tq,e0,λpos cv z=>?_⟩;obtain⟨c,oc,vs,tc,z1,z2,z3,z4⟩:=f pos cv z;exact⟨c,oc,vs,tc,z1,ho _ z2,k _ _ (.inr z2) z3,z4⟩
 |met f y=>
  have e:h.get? a=some (JD (.ref f) (.ref y)):=x;show h'.get? a=some (JD (.ref f) (.ref y));exact k a _ (.inl rfl) e
 |ext φ=>obtain⟨p,⟨o,e⟩,st⟩:=x;exact⟨st _ _ p λo q=>k _ _ (.inl rfl) q,⟨o,k _ _ (.inl rfl) e⟩,st⟩
theorem gm.lt (x:gm P w H h)(e:H a=some o):a<h.objs.size:=(x a o e).lt
theorem gm.fresh (x:gm P w H h)(e:h.objs.size<=a):H a=none:=by
 cases q:H a with
 |none=>rfl
 |some u=>exact absurd (DD (x.lt q) e) (Eh _)
theorem gm.kept (x:gm P w H h)(k:∀ b u,h.get? b=some u->h'.get? b=some u):gm P w H h':=λa o e=>
 (x a o e).stay (λb u _ q=>k b u q) (λ_ q=>q) λ_ _ q=>q
theorem gm.laid (x:gm P w H h)(k:∀ b u,h.get? b=some u->h'.get? b=some u)(hp:h.objs.size<=a)(new:be P w (upd H a o) h' a o):gm P w (upd H a o) h':=λb u e=>by
 have hn:=x.fresh hp
 by_cases hb:b=a
 ·subst hb;rw[ac] at e;cases e;exact new
 ·rw[ap hb] at e;exact(x b u e).stay (λc v _ q=>k c v q) (λc q=>by rw[ap (aK q hn)];exact q) λc xs q=>by rw[ap (aK q hn)];exact q
end
def Rd (H:Hp)(a:Du)(u:HO):Prop:=H a=some u\/∃ o,H a=some (.frz o u)
theorem Rd.ok (r:Rd H a u)(x:gm P w H h):be P w H h a u:=by
 rcases r with r|⟨o,r⟩
 ·exact x a u r
 ·obtain⟨_,q⟩:=x a _ r;exact q
def AY:Option HO->Prop
 |some (.lst _)=>True
 |some (.dK _)=>True
 |some (.dT _)=>True
 |some (.set _ _)=>True
 |some (.ins _ _ _)=>True
 |some (.ext _)=>True
 |_=>False
section
variable {P:DN}{w:Ez}{H:Hp}{h h':Fp}{x e:Du}{o':HO}
theorem gm.write (ok:gm P w H h) (mu:AY (H x)) (he:e=x\/H e=some (.own x)) (k:∀ b u,b ≠ e->h.get? b=some u->h'.get? b=some u) (heo:∃ u,h'.get? e=some u)
  (new:be P w (upd H x o') h' x o'):gm P w (upd H x o') h':=λb u q=>by
 have nown:∀ c y,H c=some (.own y)->c≠x:=λc y r z=>by subst z;rw[r] at mu;exact mu
 have ntup:∀ c xs,H c=some (.tup xs)->c≠x:=λc xs r z=>by subst z;rw[r] at mu;exact mu
 by_cases hb:b=x
 ·subst hb;rw[ac] at q;cases q;exact new
 ·rw[ap hb] at q
  by_cases hbe:b=e
  ·have q':H b=some (.own x):=by
    rcases he with z|z
    ·exact absurd (hbe.trans z) hb
    ·rw[hbe];exact z
   rw[q] at q';cases q';obtain⟨v,hv⟩:=heo;exact⟨v,by rw[hbe];exact hv⟩
  ·refine(ok b u q).stay (λc v hc r=>k c v ?_ r) (λc r=>by rw[ap (nown c b r)];exact r) λc xs r=>by rw[ap (ntup c xs r)];exact r
   rcases hc with rfl|hc
   ·exact hbe
   ·rintro rfl;rcases he with z|z
    ·exact nown c b hc z
    ·rw[hc] at z;cases z;exact hb rfl
end
structure Un (fs ex:List Du)(H H':Hp)(h h':Fp):Prop where
 keep:∀ b o,h.get? b=some o->H b=none->b∉fs->b∉ex->h'.get? b=some o
 slot:∀ b o,h.get? b=some o->H b=none->b∈fs->b∉ex->∃ sl,h'.get? b=some { o with slots:=sl }
 free:∀ b o,h.get? b=some o->H b=none->b∉ex->H' b=none
 there:∀ b o,h.get? b=some o->b∉ex->∃ o',h'.get? b=some o'
 tups:∀ b xs,H b=some (.tup xs)->H' b=some (.tup xs)
 frzs:∀ b o u,H b=some (.frz o u)->H' b=some (.frz o u)
 tbls:∀ b ps,H b=some (.tbl ps)->∃ more,H' b=some (.tbl (ps++more))
section
variable {fs fs' ex ex':List Du}{H H1 H2:Hp}{h h1 h2 h':Fp}{a x e:Du}{o:HO}
theorem Un.any (u:Un fs ex H H1 h h1)(q:h.get? b=some ob)(n:H b=none)(hx:b∉ex):∃ sl,h1.get? b=some { ob with slots:=sl }:=by
 by_cases hb:b∈fs
 ·exact u.slot b ob q n hb hx
 ·exact⟨ob.slots,u.keep b ob q n hb hx⟩
theorem Un.kept (k:∀ b u,h.get? b=some u->h'.get? b=some u):Un fs ex H H h h':=
 ⟨λb ob q _ _ _=>k b ob q,λb ob q _ _ _=>⟨ob.slots,k b ob q⟩,λ_ _ _ n _=>n,λb ob q _=>⟨ob,k b ob q⟩,λ_ _ q=>q,λ_ _ _ q=>q,λ_ ps q=>⟨#[],by rw[q];simp⟩⟩
theorem Un.refl:Un fs ex H H h h:=Un.kept λ_ _ q=>q
theorem Un.laid (k:∀ b u,h.get? b=some u->h'.get? b=some u)(hp:h.objs.size<=a)(hn:H a=none):Un fs ex H (upd H a o) h h' where
 keep:=λb u q _ _ _=>k b u q
 slot:=λb u q _ _ _=>⟨u.slots,k b u q⟩
 free:=λb u q n _=>by rw[ap (DI (DD (Dj q) hp))];exact n
 there:=λb u q _=>⟨u,k b u q⟩
 tups:=λb xs q=>by rw[ap (aK q hn)];exact q
 frzs:=λb u xs q=>by rw[ap (aK q hn)];exact q
 tbls:=λb ps q=>⟨#[],by rw[ap (aK q hn),q];simp⟩
theorem Un.write (mu:AY (H x))(he:e=x\/H e=some (.own x))(k:∀ b u,b≠e->h.get? b=some u->h'.get? b=some u)(heo:∃ u,h'.get? e=some u):Un fs ex H (upd H x o) h h':=by
 have hx:∀ b,H b=none->b≠x:=λb n z=>by subst z;rw[n] at mu;exact mu
 have hb:∀ b,H b=none->b≠e:=λb n z=>by
  subst z;rcases he with r|r
  ·exact hx b n r
  ·rw[n] at r;cases r
 have hm:∀ b u,H b=some u->¬ AY (some u)->b≠x:=λb u q nm z=>by subst z;rw[q] at mu;exact nm mu
 refine⟨λb u q n _ _=>k b u (hb b n) q,λb u q n _ _=>⟨u.slots,k b u (hb b n) q⟩,λb u q n _=>by rw[ap (hx b n)];exact n,λb u q _=>?_,
  λb xs q=>by rw[ap (hm b _ q λz=>z)];exact q,λb u xs q=>by rw[ap (hm b _ q λz=>z)];exact q,λb ps q=>⟨#[],by rw[ap (hm b _ q λz=>z),q];simp⟩⟩
 by_cases hbe:b=e
 ·subst hbe;exact heo
 ·exact⟨u,k b u hbe q⟩
end
def Bv (h:Fp)(H:Hp):List Du:=(Fm h.objs.size).filter λa=>(H a).isSome
def oR (h:Fp)(H:Hp):Fp:=IM h (Bv h H)
theorem sV (h:Fp)(H:Hp):(oR h H).objs.size=h.objs.size:=PySem.W.hideAll_size _ _
theorem kS (e:h.get? b=some o)(n:H b=none):(oR h H).get? b=some o:=
 IN _ e λhm=>by
  have q:(H b).isSome=true:=(List.mem_filter.mp hm).2;rw[n] at q;simp at q
theorem wX (e:(oR h H).get? b=some o):h.get? b=some o/\H b=none:=by
 have e':h.get? b=some o:=Lz (Bv h H) e;refine⟨e',?_⟩;cases q:H b with
 |none=>rfl
 |some x=>
  have hm:b∈Bv h H:=List.mem_filter.mpr ⟨Fi.mpr (Dj e'),by simp[q]⟩;have z:(oR h H).get? b=none:=Iq (Bv h H) hm;rw[z] at e;cases e
def wO (g h:Fp)(L:Du):List (Du×Obj):=(Fm h.objs.size).filterMap λa=>if a=L\/(g.get? a).isSome=true then none else(h.get? a).map λo=>(a,o)
def cD (g h:Fp)(L d:Du):List (Du×Obj):=(wO g h L).filter λp=>decide (p.1≠d)
structure Mod (K:Dd)(mg:Str->Option Di)(base:Fp):Prop where
 kin:K.In base
 glob:base.Ns Dr mg
 blt:∃ mb,base.Ns Ib mb/\∀ x:Str,x≠"__name__"->mb x=Ey x
 nolimit:base.NoLimit
 bm:∃ bm o,mg "__builtins__"=some (.ref bm)/\bm≠Ib/\base.get? bm=some o/\o.cls=.type "module"/\o.dict=some Ib/\o.data=.plain
structure Cx where
 prog:DN
 w:Ez
 K:Dd
 mg:Str->Option Di
 base:Fp
 A:EK
 N:List Str
 s₀:Dk
 H₀:Hp
 env:Env
 outer:List Env
 stack:List Env
 ex:List Du
 fn:Str->Bool
 calm:Bool
 pn:List (Du×Obj)
 xe:Di->Dk->Prop
def dB (l:List Env):List Du:=l.filterMap (·.frame)
abbrev Cx.fs (X:Cx):List Du:=dB X.outer
def z9 (sc:He)(x:Str):Prop:=sc.names.lookup x=some .local\/sc.names.lookup x=some .cell\/sc.names.lookup x=some .free
def Ae (sc:He)(x:Str):Prop:=sc.names.lookup x=some .local\/sc.names.lookup x=some .cell
def BF (env:Env)(h:Fp)(m:Str->Option Di)(x:Str)(u:Di):Prop:=
 (env.kindOf x=some .local/\m x=some u)\/((env.kindOf x=some .cell\/env.kindOf x=some .free)/\∃ c,env.cells.lookup x=some c/\h.IsCell c (some u))
structure Cx.Ok (X:Cx):Prop where
 mod:Mod X.K X.mg X.base
 kind:X.env.scope.kind=.function
 glob:X.env.globals=Dr
 blt:X.env.builtins=Ib
 above:X.s₀.heap.objs.size<=X.env.locals
 inj:∀ x y c,X.env.cells.lookup x=some c->X.env.cells.lookup y=some c->x=y
 has:∀ x,(X.env.kindOf x=some .cell\/X.env.kindOf x=some .free)->∃ c,X.env.cells.lookup x=some c
 cab:∀ x c,X.fn x=true->X.env.cells.lookup x=some c->X.s₀.heap.objs.size<=c
 hd:X.calm=true->X.A.handled=none
 frames:X.A.frames=some X.stack
 stk:X.stack=X.outer\/(X.stack=X.env::X.outer/\X.env.frame=some X.env.locals)
 exf:∀ b∈X.ex,b≠X.env.locals/\∀ x c,X.env.cells.lookup x=some c->c≠b
 bs:∀ b o,X.base.get? b=some o->X.s₀.heap.get? b=some o/\X.H₀ b=none
 bsz:X.base.objs.size<=X.s₀.heap.objs.size
 noex:∀ b o,X.base.get? b=some o->b∉X.ex
 exfs:∀ b∈X.ex,b∉X.fs
 funs:X.s₀.heap.FunFrames X.base X.outer
 frf:∀ b∈X.fs,X.H₀ b=none
structure av (X:Cx)(pins:List (Du×Obj))(σ:List (Option V))(H:Hp)(s:Dk):Prop where
 ok:X.Ok
 os:s.os=X.s₀.os
 bare:Ko s.gens
 base:Un X.fs X.ex X.H₀ H X.s₀.heap s.heap
 loc:∃ m,s.heap.Ns X.env.locals m/\∀ (i:Nat) (x:Str) (v:V),X.N[i]?=some x->σ[i]?=some (some v)->z9 X.env.scope x->∃ u,RelV v u/\BF X.env s.heap m x u
 cell:∀ x c,X.env.cells.lookup x=some c->∃ v,s.heap.IsCell c v
 free:H X.env.locals=none
 freeC:∀ x c,X.env.cells.lookup x=some c->H c=none
 pin:∀ p∈X.pn++pins,s.heap.get? p.1=some p.2/\H p.1=none/\p.1≠X.env.locals/\p.1∉X.fs/\∀ v,p.2.data≠.cell v
 hok:gm X.prog X.w H s.heap
 len:σ.length=X.N.length
section
variable {X:Cx}{pins:List (Du×Obj)}{σ:List (Option V)}{H H':Hp}{s:Dk}{h':Fp}
theorem Cx.Ok.nofr (ok:X.Ok)(e:X.base.get? b=some o):b∉X.fs:=λhb=>by
 have:=(ok.funs.mem hb).1;rw[e] at this;cases this
theorem av.bs (I:av X pins σ H s):∀ b o,X.base.get? b=some o->s.heap.get? b=some o/\H b=none:=λb o e=>
 ⟨I.base.keep b o (I.ok.bs b o e).1 (I.ok.bs b o e).2 (I.ok.nofr e) (I.ok.noex b o e),I.base.free b o (I.ok.bs b o e).1 (I.ok.bs b o e).2 (I.ok.noex b o e)⟩
theorem av.bk (I:av X pins σ H s):∀ b o,X.base.get? b=some o->s.heap.get? b=some o:=λb o e=>(I.bs b o e).1
theorem av.mod (I:av X pins σ H s):Mod X.K X.mg X.base:=I.ok.mod
theorem av.kIn (I:av X pins σ H s):X.K.In s.heap:=I.ok.mod.kin.keeps I.bk
theorem av.lt (I:av X pins σ H s):X.env.locals<s.heap.objs.size:=let ⟨_,hn,_⟩:=I.loc;hn.lt
theorem av.sz (I:av X pins σ H s):X.s₀.heap.objs.size<=s.heap.objs.size:=Dt I.ok.above (Gm I.lt)
theorem av.nofs (I:av X pins σ H s)(h:s.heap.objs.size<=a):a∉X.fs:=λhb=>by
 obtain⟨_,o,ho,_⟩:=I.ok.funs.mem hb;exact absurd (DD (Dj ho) (Dt I.sz h)) (Eh _)
theorem av.cne (I:av X pins σ H s):∀ x c,X.env.cells.lookup x=some c->c≠X.env.locals:=λx c e z=>by
 obtain⟨v,o,ho,hd⟩:=I.cell x c e;obtain⟨m,⟨o',es,ep,ho',hd',_⟩,_⟩:=I.loc;rw[z,ho'] at ho;cases ho;rw[hd'] at hd;cases hd
theorem av.funs (I:av X pins σ H s):s.heap.FunFrames X.base X.outer:=by
 have all:∀ (l:List Env),(∀ b∈dB l,b∈X.fs)->X.s₀.heap.FunFrames X.base l->s.heap.FunFrames X.base l:=by
  intro l
  induction l with
  |nil=>intro _ _;trivial
  |cons env r ih=>
   intro hs hl;obtain⟨hk,⟨L,o,hf,hn,ho,hd⟩,hr⟩:=hl;have hL:L∈X.fs:=hs L (by unfold dB;rw[Hq,hf];exact DL);obtain⟨sl,e⟩:=I.base.slot L o ho (I.ok.frf L hL) hL λz=>I.ok.exfs L z hL
   exact⟨hk,⟨L,_,hf,hn,e,hd⟩,ih (λb hb=>hs b (by unfold dB;rw[Hq,hf];exact Do _ hb)) hr⟩
 exact all X.outer (λ_ hb=>hb) I.ok.funs
theorem av.stack (I:av X pins σ H s):s.heap.FunFrames X.base X.stack:=by
 rcases I.ok.stk with e|⟨e,hf⟩
 ·rw[e];exact I.funs
 ·rw[e];obtain⟨m,hn,_⟩:=I.loc;refine .cons (by rw[I.ok.kind];decide) hf hn ?_ I.funs;exact KY (Dt I.ok.bsz I.ok.above)
theorem av.stkSub (I:av X pins σ H s):∀ b∈dB X.stack,b∈X.env.locals::X.fs:=λb hb=>by
 rcases I.ok.stk with e|⟨e,hf⟩
 ·rw[e] at hb;exact Do _ hb
 ·rw[e] at hb;unfold dB at hb;rw[Hq,hf] at hb;exact hb
theorem av.stkFree (I:av X pins σ H s):∀ b∈dB X.stack,H b=none:=λb hb=>by
 rcases Dx.mp (I.stkSub b hb) with e|hb
 ·rw[e];exact I.free
 ·obtain⟨_,o,ho,_⟩:=I.ok.funs.mem hb;exact I.base.free b o ho (I.ok.frf b hb) λz=>I.ok.exfs b z hb
theorem av.step {g':Array GenState}{t':Nat}{d':Drawn}{ch:List Du} (I:av X pins σ H s)
  (hch:∀ b∈ch,(b∈X.ex\/X.s₀.heap.objs.size<=b)/\b≠X.env.locals/\(∀ x c,X.env.cells.lookup x=some c->c≠b)/\∀ p∈X.pn++pins,p.1≠b)
  (keep:∀ b o,b≠X.env.locals->b∉X.fs->b∉ch->s.heap.get? b=some o->H b=none->h'.get? b=some o)
  (slot:∀ b o,b≠X.env.locals->b∈X.fs->b∉ch->s.heap.get? b=some o->H b=none->∃ sl,h'.get? b=some { o with slots:=sl })(free:∀ b o,b∉ch->s.heap.get? b=some o->H b=none->H' b=none)
  (there:∀ b o,b∉ch->s.heap.get? b=some o->∃ o',h'.get? b=some o')
  (tups:∀ b xs,H b=some (.tup xs)->H' b=some (.tup xs))(frzs:∀ b o u,H b=some (.frz o u)->H' b=some (.frz o u))(tbls:∀ b ps,H b=some (.tbl ps)->∃ more,H' b=some (.tbl (ps++more)))
  (ns:∀ m,s.heap.Ns X.env.locals m->h'.Ns X.env.locals m)(hok:gm X.prog X.w H' h')(hg:Ko g'):
  av X pins σ H' { s with heap:=h',gens:=g',drawn:=d',toks:=t' }:=by
 have neL:∀ b o,X.s₀.heap.get? b=some o->b≠X.env.locals:=λb o e=>DI (DD (Dj e) I.ok.above)
 have neC:∀ b o,X.s₀.heap.get? b=some o->b∉X.ex->b∉ch:=λb o e hx hb=>by
  rcases(hch b hb).1 with z|z
  ·exact hx z
  ·exact absurd (DD (Dj e) z) (Eh _)
 have cellK:∀ x c,X.env.cells.lookup x=some c->∀ v,s.heap.IsCell c v->h'.IsCell c v:=λx c e v ⟨o,ho,hd⟩=>by
  have nch:c∉ch:=λz=>(hch c z).2.2.1 x c e rfl
  by_cases hc:c∈X.fs
  ·obtain⟨sl,q⟩:=slot c o (I.cne x c e) hc nch ho (I.freeC x c e);exact⟨_,q,hd⟩
  ·exact⟨o,keep c o (I.cne x c e) hc nch ho (I.freeC x c e),hd⟩
 refine⟨I.ok,I.os,hg,⟨λb o e n hb hx=>?_,λb o e n hb hx=>?_,λb o e n hx=>?_,λb o e hx=>?_,λb xs e=>tups b xs (I.base.tups b xs e),λb o xs e=>frzs b o xs (I.base.frzs b o xs e),λb ps e=>?_⟩,?_,λx c e=>?_,?_,λx c e=>?_,λp hp=>?_,hok,I.len⟩
 ·exact keep b o (neL b o e) hb (neC b o e hx) (I.base.keep b o e n hb hx) (I.base.free b o e n hx)
 ·obtain⟨sl,e1⟩:=I.base.slot b o e n hb hx;obtain⟨sl',e2⟩:=slot b _ (neL b o e) hb (neC b o e hx) e1 (I.base.free b o e n hx);exact⟨sl',e2⟩
 ·obtain⟨o',e1⟩:=I.base.there b o e hx;exact free b o' (neC b o e hx) e1 (I.base.free b o e n hx)
 ·obtain⟨o',e1⟩:=I.base.there b o e hx;exact there b o' (neC b o e hx) e1
 ·obtain⟨m1,e1⟩:=I.base.tbls b ps e;obtain⟨m2,e2⟩:=tbls b _ e1;exact⟨m1++m2,by rw[e2,Array.append_assoc]⟩
 ·obtain⟨m,hn,hl⟩:=I.loc;refine⟨m,ns m hn,λi x v e1 e2 e3=>?_⟩;obtain⟨u,r,l⟩:=hl i x v e1 e2 e3;refine⟨u,r,?_⟩;rcases l with l|⟨k,c,e,z⟩
  ·exact .inl l
  ·exact .inr ⟨k,c,e,cellK x c e _ z⟩
 ·obtain⟨v,z⟩:=I.cell x c e;exact⟨v,cellK x c e v z⟩
 ·obtain⟨m,⟨o,_,_,ho,_⟩,_⟩:=I.loc;exact free _ o (λz=>(hch _ z).2.1 rfl) ho I.free
 ·obtain⟨v,o,ho,hd⟩:=I.cell x c e;exact free c o (λz=>(hch c z).2.2.1 x c e rfl) ho (I.freeC x c e)
 ·obtain⟨e,n,ne,nf,d⟩:=I.pin p hp;have nch:p.1∉ch:=λz=>(hch p.1 z).2.2.2 p hp rfl
  exact⟨keep p.1 p.2 ne nf nch e n,free p.1 p.2 nch e n,ne,nf,d⟩
theorem av.un {t':Nat}(I:av X pins σ H s)(u:Un X.fs [] H H' s.heap h')(hok:gm X.prog X.w H' h'):av X pins σ H' { s with heap:=h',toks:=t' }:=by
 obtain⟨m,⟨o,es,ep,ho,r⟩,_⟩:=id I.loc;obtain⟨sl,hL⟩:=u.any ho I.free (by simp);exact I.step (g':=s.gens) (d':=s.drawn) (ch:=[]) (λ_ z=>nomatch z) (λb o _ hb _ e n=>u.keep b o e n hb (by simp)) (λb o _ hb _ e n=>u.slot b o e n hb (by simp)) (λb o _ e n=>u.free b o e n (by simp)) (λb o _ e=>u.there b o e (by simp)) u.tups u.frzs u.tbls (λm' hm=>by
  obtain⟨o',es',ep',ho',r'⟩:=hm;rw[ho] at ho';cases ho';exact⟨_,es',ep',hL,r'⟩) hok I.bare
theorem av.call {g':Array GenState}{t':Nat}{d':Drawn}{ch:List Du} (I:av X pins σ H s) (u:Un (dB X.stack) ch H H' s.heap h') (hok:gm X.prog X.w H' h') (hg:Ko g')
  (hch:∀ b∈ch,(b∈X.ex\/X.s₀.heap.objs.size<=b)/\b≠X.env.locals/\(∀ x c,X.env.cells.lookup x=some c->c≠b)/\∀ p∈X.pn++pins,p.1≠b):
  av X pins σ H' { s with heap:=h',gens:=g',drawn:=d',toks:=t' }:=by
 obtain⟨m,⟨o,es,ep,ho,r⟩,_⟩:=id I.loc;obtain⟨sl,hL⟩:=u.any ho I.free λz=>(hch _ z).2.1 rfl
 exact I.step (ch:=ch) hch (λb o hL hb hc e n=>u.keep b o e n (λz=>(Dx.mp (I.stkSub b z)).elim hL hb) hc) (λb o _ _ hc e n=>u.any e n hc) (λb o hc e n=>u.free b o e n hc) (λb o hc e=>u.there b o e hc) u.tups u.frzs u.tbls (λm' hm=>by
  obtain⟨o',es',ep',ho',r'⟩:=hm;rw[ho] at ho';cases ho';exact⟨_,es',ep',hL,r'⟩) hok hg
theorem av.turned {t':Nat}{it:Du} (I:av X pins σ H s) (k:∀ b o,b ≠ it->s.heap.get? b=some o->h'.get? b=some o) (hn:H it=none) (hL:it ≠ X.env.locals)
  (h1:it∈X.ex\/X.s₀.heap.objs.size<=it)(h2:∀ x c,X.env.cells.lookup x=some c->c≠it)(h3:∀ p∈X.pn++pins,p.1≠it):av X pins σ H { s with heap:=h',toks:=t' }:=by
 have nit:∀ b u,H b=some u->b≠it:=λb u e z=>by rw[z,hn] at e;cases e
 refine I.step (g':=s.gens) (d':=s.drawn) (ch:=[it]) (λb hb=>?_) (λb o _ _ hc e _=>k b o (λz=>hc (by simp[z])) e) (λb o _ _ hc e _=>⟨o.slots,k b o (λz=>hc (by simp[z])) e⟩) (λ_ _ _ _ n=>n)
  (λb o hc e=>⟨o,k b o (λz=>hc (by simp[z])) e⟩) (λ_ _ e=>e) (λ_ _ _ e=>e) (λb ps e=>⟨#[],by rw[e];simp⟩) (λm hm=>?_) (λb u e=>?_) I.bare
 ·have e:b=it:=by simpa using hb
  subst e;exact⟨h1,hL,h2,h3⟩
 ·obtain⟨o,es,ep,ho,r⟩:=hm;exact⟨o,es,ep,k _ o (Fj hL) ho,r⟩
 ·refine(I.hok b u e).stay (λc v hc q=>k c v ?_ q) (λ_ q=>q) λ_ _ q=>q
  rcases hc with z|z
  ·rw[z];exact nit b u e
  ·exact nit c _ z
theorem av.tok (I:av X pins σ H s)(t:Nat):av X pins σ H { s with toks:=t }:=I.un (h':=s.heap) (t':=t) Un.refl I.hok
theorem av.kept {t':Nat}(I:av X pins σ H s)(k:∀ b u,s.heap.get? b=some u->h'.get? b=some u):av X pins σ H { s with heap:=h',toks:=t' }:=I.un (Un.kept k) (I.hok.kept k)
theorem av.laid {t':Nat} (I:av X pins σ H s) (k:∀ b u,s.heap.get? b=some u->h'.get? b=some u) (hp:s.heap.objs.size <= a) (new:be X.prog X.w (upd H a o) h' a o) :
  av X pins σ (upd H a o) { s with heap:=h',toks:=t' }:=I.un (Un.laid k hp (I.hok.fresh hp)) (I.hok.laid k hp new)
theorem av.write {t':Nat} (I:av X pins σ H s) (mu:AY (H x)) (he:e=x\/H e=some (.own x)) (k:∀ b u,b ≠ e->s.heap.get? b=some u->h'.get? b=some u) (heo:∃ u,h'.get? e=some u)
  (new:be X.prog X.w (upd H x o) h' x o):av X pins σ (upd H x o) { s with heap:=h',toks:=t' }:=I.un (Un.write mu he k heo) (I.hok.write mu he k heo new)
theorem av.pins_of (I:av X pins σ H s)(h:∀ p∈pins',s.heap.get? p.1=some p.2/\H p.1=none/\p.1≠X.env.locals/\p.1∉X.fs/\∀ v,p.2.data≠.cell v):av X pins' σ H s:=
 ⟨I.ok,I.os,I.bare,I.base,I.loc,I.cell,I.free,I.freeC,λp hp=>(Ek.mp hp).elim (λz=>I.pin p (E7 _ z)) (h p),I.hok,I.len⟩
theorem lf {N:List Str}(hN:N.Nodup){i j:Nat}{x:Str}(a:N[i]?=some x)(b:N[j]?=some x):i=j:=by
 obtain⟨h1,e1⟩:=DH.mp a;obtain⟨h2,e2⟩:=DH.mp b;exact(List.getElem_inj hN).mp (e1.trans e2.symm)
theorem l8 {M:Model}{A:EK}{E:Di->Dk->Prop}{i:Nat}{x:Str}{v:V}{u:Di}{Q:Unit->Dk->Prop} (I:av X pins σ H s) (hN:X.N.Nodup) (hi:X.N[i]?=some x) (hx:Ae X.env.scope x) (r:RelV v u)
  (h:∀ s',av X pins (σ.set i (some v)) H s'->(∃ a,Ew a s.heap s'.heap/\(a=X.env.locals\/X.env.cells.lookup x=some a))->Q () s')(hf:X.fn x=true\/X.env.scope.names.lookup x=some .local:=by first|exact .inl rfl|exact .inr rfl|assumption):Dy M A (storeName X.env x u) Q E s:=by
 obtain⟨m,hn,hl⟩:=id I.loc;have hcls:(X.env.scope.kind==.class||(X.env.scope.kind==.module&&X.env.locals != X.env.globals))=false:=by rw[I.ok.kind];rfl
 have hiσ:i<σ.length:=by rw[I.len];exact(DH.mp hi).1
 have cne:=I.cne;have tracked:∀ {a:Du}{h':Fp},(∃ o,s.heap.get? a=some o/\H a=none)->Ew a s.heap h'->gm X.prog X.w H h':=λ{a h'} ha hs b ob e=>by
  obtain⟨_,_,hfree⟩:=ha;refine(I.hok b ob e).stay (λc w' hc q=>(hs.2 c ?_).trans q) (λ_ q=>q) λ_ _ q=>q
  rintro rfl;rcases hc with rfl|hc
  ·rw[hfree] at e;cases e
  ·rw[hfree] at hc;cases hc
 rcases hx with hk|hk
 ·refine wpAny_storeName_local hk hn (λh' hn' hs=>?_) hcls;obtain⟨oL,_,_,hoL,_⟩:=id hn;refine h _ ⟨I.ok,I.os,I.bare,⟨λb o e n hb hx=>?_,λb o e n hb hx=>?_,I.base.free,λb o e hx=>?_,I.base.tups,I.base.frzs,I.base.tbls⟩,⟨_,hn',λj y v' e1 e2 e3=>?_⟩,λy c e=>?_,I.free,I.freeC,λp hp=>?_,tracked ⟨oL,hoL,I.free⟩ hs,by simpa using I.len⟩ ⟨_,hs,.inl rfl⟩
  ·exact(hs.2 b (DI (DD (Dj e) I.ok.above))).trans (I.base.keep b o e n hb hx)
  ·obtain⟨sl,e1⟩:=I.base.slot b o e n hb hx;exact⟨sl,(hs.2 b (DI (DD (Dj e) I.ok.above))).trans e1⟩
  ·obtain⟨o',e1⟩:=I.base.there b o e hx;exact⟨o',(hs.2 b (DI (DD (Dj e) I.ok.above))).trans e1⟩
  ·by_cases hj:j=i
   ·subst hj;rw[hi] at e1;cases e1;rw[Ki hiσ] at e2;cases e2;exact⟨u,r,.inl ⟨hk,by simp⟩⟩
   ·rw[Ip (Fj hj)] at e2;obtain⟨u',r',q⟩:=hl j y v' e1 e2 e3;refine⟨u',r',?_⟩;rcases q with ⟨k,e⟩|⟨k,c,e,z⟩
    ·refine .inl ⟨k,?_⟩;have:y≠x:=λe=>hj (lf hN e1 (e▸hi))
     simp[this,e]
    ·exact .inr ⟨k,c,e,z.sameBut hs (cne y c e)⟩
  ·obtain⟨w',z⟩:=I.cell y c e;exact⟨w',z.sameBut hs (cne y c e)⟩
  ·obtain⟨e,n,ne,nf,d⟩:=I.pin p hp;exact⟨(hs.2 p.1 ne).trans e,n,ne,nf,d⟩
 ·have hfn:X.fn x=true:=by
   rcases hf with z|z
   ·exact z
   ·rw[z] at hk;cases hk
  obtain⟨c,hc⟩:=I.ok.has x (.inl hk);obtain⟨w',z⟩:=I.cell x c hc;refine wpAny_storeName_cell I.ok.kind hk hc z (λh' hc' hs=>?_);obtain⟨oc,hoc,hocd⟩:=id z;refine h { s with heap:=h' } ⟨I.ok,I.os,I.bare,⟨λb o e n hb hx=>?_,λb o e n hb hx=>?_,I.base.free,λb o e hx=>?_,I.base.tups,I.base.frzs,I.base.tbls⟩,⟨m,hn.sameBut hs (Fj (cne x c hc)),λj y v' e1 e2 e3=>?_⟩,λy c' e=>?_,I.free,I.freeC,λp hp=>?_,tracked ⟨oc,hoc,I.freeC x c hc⟩ hs,by simpa using I.len⟩ ⟨c,hs,.inr hc⟩
  ·exact(hs.2 b (DI (DD (Dj e) (I.ok.cab x c hfn hc)))).trans (I.base.keep b o e n hb hx)
  ·obtain⟨sl,e1⟩:=I.base.slot b o e n hb hx;exact⟨sl,(hs.2 b (DI (DD (Dj e) (I.ok.cab x c hfn hc)))).trans e1⟩
  ·obtain⟨o',e1⟩:=I.base.there b o e hx;exact⟨o',(hs.2 b (DI (DD (Dj e) (I.ok.cab x c hfn hc)))).trans e1⟩
  ·by_cases hj:j=i
   ·subst hj;rw[hi] at e1;cases e1;rw[Ki hiσ] at e2;cases e2;exact⟨u,r,.inr ⟨.inl hk,c,hc,hc'⟩⟩
   ·rw[Ip (Fj hj)] at e2;obtain⟨u',r',q⟩:=hl j y v' e1 e2 e3;refine⟨u',r',?_⟩;rcases q with q|⟨k,c',e,z'⟩
    ·exact .inl q
    ·refine .inr ⟨k,c',e,z'.sameBut hs ?_⟩;rintro rfl;exact hj (lf hN e1 (I.ok.inj _ _ _ e hc▸hi))
  ·by_cases hcc:c'=c
   ·subst hcc;exact⟨_,hc'⟩
   ·obtain⟨w2,z2⟩:=I.cell y c' e;exact⟨w2,z2.sameBut hs hcc⟩
  ·obtain⟨e,n,ne,nf,d⟩:=I.pin p hp;refine⟨(hs.2 p.1 ?_).trans e,n,ne,nf,d⟩;intro q;rw[q,hoc] at e;have q':oc=p.2:=Dm e;exact d w' (by rw[<- q'];exact hocd)
theorem fm {i:Nat} (I:av X pins σ H s) (hN:X.N.Nodup) (hi:X.N[i]?=some x) (hx:Ae X.env.scope x) (r:RelV v u)
  (h:∀ s',av X pins (σ.set i (some v)) H s'->Q () s')(hf:X.fn x=true\/X.env.scope.names.lookup x=some .local:=by first|exact .inl rfl|exact .inr rfl|assumption):Dy M A (storeName X.env x u) Q E s:=
 l8 I hN hi hx r (λs' I' _=>h s' I') hf
theorem av.call' (I:av X pins σ H s) (ho:s'.os=s.os) (u:Un (dB X.stack) ch H H' s.heap s'.heap) (hok:gm X.prog X.w H' s'.heap) (hg:Ko s'.gens)
  (hch:∀ b∈ch,(b∈X.ex\/X.s₀.heap.objs.size<=b)/\b≠X.env.locals/\(∀ x c,X.env.cells.lookup x=some c->c≠b)/\∀ p∈X.pn++pins,p.1≠b):av X pins σ H' s':=by
 obtain⟨h',g',d',t',o'⟩:=s';have e:o'=s.os:=ho;subst e;exact I.call (g':=g') (t':=t') (d':=d') u hok hg hch
end
abbrev XK:=Di->Option Du->Hp->Prop
abbrev St:=List (Option V)
abbrev VK:=V->Hp->Prop
abbrev TE:=St->Hp->VK->Prop
abbrev TT:=St->Hp->(Bool->Hp->Prop)->Prop
abbrev TA:=St->Hp->(List V->Hp->Prop)->Prop
structure ju where
 nx:St->Hp->Prop
 rt:VK
 bk:St->Hp->Prop:=λ_ _=>False
 ct:St->Hp->Prop:=λ_ _=>False
abbrev TS:=ju->St->Hp->Prop
def EP (X:Cx)(pins:List (Du×Obj))(σ:St)(Q:VK)(u:Di)(s':Dk):Prop:=∃ v H',av X pins σ H' s'/\RelV v u/\Q v H'
def TP (X:Cx)(pins:List (Du×Obj))(σ:St)(Q:Bool->Hp->Prop)(b:Bool)(s':Dk):Prop:=∃ H',av X pins σ H' s'/\Q b H'
def AP (X:Cx)(pins:List (Du×Obj))(σ:St)(Q:List V->Hp->Prop)(us:List Di)(s':Dk):Prop:=∃ vs H',av X pins σ H' s'/\aJ vs us/\Q vs H'
def SP (X:Cx)(pins:List (Du×Obj))(D:ju)(f:Flow)(s':Dk):Prop:=
 match f with
 |.next=>∃ σ' H',av X pins σ' H' s'/\D.nx σ' H'
 |.brk=>∃ σ' H',av X pins σ' H' s'/\D.bk σ' H'
 |.cont=>∃ σ' H',av X pins σ' H' s'/\D.ct σ' H'
 |.ret u=>∃ v σ' H',av X pins σ' H' s'/\RelV v u/\D.rt v H'
def PE (X:Cx)(e:Fs)(t:TE):Prop:=
 ∀ (pins:List (Du×Obj)) (s:Dk) (σ:St) (H:Hp) (Q:VK),av X pins σ H s->t σ H Q->Dy (DK X.prog X.w) X.A (GI e X.env) (EP X pins σ Q) X.xe s
structure WE (X:Cx)(e:Fs)(t:TE):Prop where
 go:PE X e t
def PT (X:Cx)(e:Fs)(t:TT):Prop:=
 ∀ (pins:List (Du×Obj)) (s:Dk) (σ:St) (H:Hp) (Q:Bool->Hp->Prop),av X pins σ H s->t σ H Q->Dy (DK X.prog X.w) X.A (isTrue e X.env (GI e X.env)) (TP X pins σ Q) X.xe s
structure WT (X:Cx)(e:Fs)(t:TT):Prop where
 go:PT X e t
def PW (X:Cx)(e:Fs)(t:TT):Prop:=
 ∀ (whole:Sem Di) (pins:List (Du×Obj)) (s:Dk) (σ:St) (H:Hp) (Q:Bool->Hp->Prop),av X pins σ H s->t σ H Q->Dy (DK X.prog X.w) X.A (isTrue e X.env whole) (TP X pins σ Q) X.xe s
structure WW (X:Cx)(e:Fs)(t:TT):Prop where
 go:PW X e t
theorem PW.pt (h:PW X e t):PT X e t:=h _
def PA (X:Cx)(es:List Fs)(t:TA):Prop:=
 ∀ (pos:Pos) (pins:List (Du×Obj)) (s:Dk) (σ:St) (H:Hp) (Q:List V->Hp->Prop),av X pins σ H s->t σ H Q->Dy (DK X.prog X.w) X.A (spliced (HJ pos (DO es X.env))) (AP X pins σ Q) X.xe s
structure WA (X:Cx)(e:List Fs)(t:TA):Prop where
 go:PA X e t
def PS (X:Cx)(st:Gv)(t:TS):Prop:=
 ∀ (pins:List (Du×Obj)) (s:Dk) (σ:St) (H:Hp) (D:ju),av X pins σ H s->t D σ H->Dy (DK X.prog X.w) X.A (exec st X.env) (SP X pins D) X.xe s
structure WS (X:Cx)(e:Gv)(t:TS):Prop where
 go:PS X e t
def vm (X:Cx)(st:List Gv)(t:TS):Prop:=
 ∀ (pins:List (Du×Obj)) (s:Dk) (σ:St) (H:Hp) (D:ju),av X pins σ H s->t D σ H->Dy (DK X.prog X.w) X.A (execs st X.env) (SP X pins D) X.xe s
structure cE (X:Cx)(e:List Gv)(t:TS):Prop where
 go:vm X e t
theorem bo (h:Dy M A t Q E s)(hQ:∀ a s,Q a s->Q' a s):Dy M A t Q' E s:=DW h hQ λ_ _ x=>x
section
variable {X:Cx}
inductive yD (i:Nat)(σ:St)(H:Hp)(Q:VK):Prop
 |mk (v:V) (_:σ[i]?=some (some v)) (_:Q v H)
def tC (v:V):TE:=λ_ H Q=>Q v H
theorem zn {i:Nat}(hN:X.N[i]?=some x)(hv:z9 X.env.scope x)(hd:(x==("__debug__":Str))=false:=by decide)(hcd:(x==("__classdict__":Str))=false:=by decide):PE X (.Name x pos) (yD i):=by
 intro pins s σ H Q I h;obtain⟨v,e,h⟩:=h;obtain⟨m,hn,hl⟩:=I.loc;obtain⟨u,r,l⟩:=hl i x v hN e hv;have fin:EP X pins σ Q u s:=⟨v,H,I,r,h⟩
 rcases l with ⟨hk,hm⟩|⟨hk,c,hc,hcell⟩
 ·exact wpAny_Name (wpAny_loadName_local I.ok.kind hk hn hm fin) hd
 ·rcases hk with hk|hk
  ·exact wpAny_Name (wpAny_loadName_cell I.ok.kind hk hc hcell fin) hd
  ·exact wpAny_Name (wpAny_loadName_free I.ok.kind hk hc hcell fin hcd) hd
theorem ah {i j pos}:WE X (.Constant (.int i) j pos) (tC (.int i)):=by
 exact⟨λ_ _ _ H _ I h=>wpAny_Constant_int ⟨.int i,H,I.tok _,⟨_,rfl⟩,h⟩⟩
theorem bQ {b j pos}:WE X (.Constant (.bool b) j pos) (tC (.bl b)):=by
 exact⟨λ_ _ _ H _ I h=>Constant_bool ⟨.bl b,H,I,rfl,h⟩⟩
theorem nr {j pos}:WE X (.Constant .none j pos) (tC .non):=by
 exact⟨λ_ _ _ H _ I h=>Constant_none ⟨.non,H,I,rfl,h⟩⟩
theorem ao {x j pos}:WE X (.Constant (.str x) j pos) (tC (.str x)):=by
 exact⟨λ_ _ _ H _ I h=>Ja ⟨.str x,H,I.tok _,⟨_,rfl⟩,h⟩⟩
def Gl (X:Cx)(x:Str):Prop:=X.env.kindOf x=some .globalImplicit
theorem dJ (I:av X pins σ H s) (hg:Gl X x) (hm:X.mg x=some u) (h:Q u s)
  (hd:(x==("__debug__":Str))=false:=by decide):Dy (DK X.prog X.w) X.A (GI (.Name x pos) X.env) Q E s:=
 IX I.ok.kind hg (Calls.loadGlobal_global (by rw[I.ok.glob];exact I.mod.glob.keeps I.bk) hm h) hd
theorem e6 (I:av X pins σ H s) (hg:Gl X x) (hm:X.mg x=none) (hv:Ey x=some u) (h:Q u s)
  (hn:x≠"__name__":=by decide)(hd:(x==("__debug__":Str))=false:=by decide):Dy (DK X.prog X.w) X.A (GI (.Name x pos) X.env) Q E s:=by
 obtain⟨mb,h1,h2⟩:=I.mod.blt;exact IX I.ok.kind hg (Calls.loadGlobal_builtin (by rw[I.ok.glob];exact I.mod.glob.keeps I.bk) hm (by rw[I.ok.blt];exact h1.keeps I.bk) ((h2 x hn).trans hv) h) hd
theorem rh (hg:Gl X x)(hm:X.mg x=some u)(r:RelV v u)(hd:(x==("__debug__":Str))=false:=by decide):PE X (.Name x pos) (tC v):=
 λ_ _ _ H _ I h=>dJ I hg hm ⟨v,H,I,r,h⟩ hd
theorem cu (hg:Gl X x)(hm:X.mg x=none)(hv:Ey x=some u)(r:RelV v u)(hn:x≠"__name__":=by decide)(hd:(x==("__debug__":Str))=false:=by decide):WE X (.Name x pos) (tC v):=by
 exact⟨λ_ _ _ H _ I h=>e6 I hg hm hv ⟨v,H,I,r,h⟩ hn hd⟩
variable {a b:Fs}{ta tb:TE}{pos:Pos}
inductive CL (x:V)(H:Hp)(Q:Bool->Hp->Prop):Prop
 |mk (c:Bool) (_:x=.bl c) (_:Q c H)
def tB (t:TE):TT:=λσ H Q=>t σ H λx H1=>CL x H1 Q
theorem bd (h:WE X e t)(he:∀ whole,isTrue e X.env whole=(do let v <- whole;L4 e.pos;holding [v] (truthy v)):=by intro _;rfl):WT X e (tB t):=by
 have h:=h.go;refine⟨?_⟩;intro pins s σ H Q I hw;refine isTrue_plain (bo (h pins s σ H _ I hw) λv s1 ⟨x,H1,I1,r1,q1⟩=>?_) (he _);obtain⟨d,rfl,q⟩:=q1;cases r1;exact Fg ⟨H1,I1,q⟩
variable {tA tB':TT}{cD:List Fs}
def Cd (t u:TT):TT:=λσ H Q=>t σ H λc H1=>if c=true then u σ H1 Q else Q false H1
def C0 (t u:TT):TT:=λσ H Q=>t σ H λc H1=>if c=true then Q true H1 else u σ H1 Q
def Ca (t:TT):TT:=λσ H Q=>t σ H λc H1=>Q (!c) H1
theorem uO (ha:WT X a tA):WW X (.BoolOp .And [a] pos) tA:=by
 have ha:=ha.go;refine⟨?_⟩;intro wh pins s σ H Q I h;refine isTrue_and (bo (ha pins s σ H Q I h) λc s1 e=>?_);cases c with
 |true=>exact isTrue_and_nil e
 |false=>exact e
theorem cy (ha:WT X a tA):WW X (.BoolOp .Or [a] pos) tA:=by
 have ha:=ha.go;refine⟨?_⟩;intro wh pins s σ H Q I h;refine isTrue_or (bo (ha pins s σ H Q I h) λc s1 e=>?_);cases c with
 |false=>exact isTrue_or_nil e
 |true=>exact e
theorem rl (ha:WT X a tA)(hb:WW X (.BoolOp .And (b::cD) pos) tB'):WW X (.BoolOp .And (a::b::cD) pos) (Cd tA tB'):=by
 have ha:=ha.go;have hb:=hb.go;refine⟨?_⟩;intro wh pins s σ H Q I h;refine isTrue_and (bo (ha pins s σ H _ I h) λc s1 ⟨H1,I1,q1⟩=>?_);cases c with
 |true=>exact hb wh pins s1 σ H1 Q I1 q1
 |false=>exact⟨H1,I1,q1⟩
theorem cG (ha:WT X a tA)(hb:WW X (.BoolOp .Or (b::cD) pos) tB'):WW X (.BoolOp .Or (a::b::cD) pos) (C0 tA tB'):=by
 have ha:=ha.go;have hb:=hb.go;refine⟨?_⟩;intro wh pins s σ H Q I h;refine isTrue_or (bo (ha pins s σ H _ I h) λc s1 ⟨H1,I1,q1⟩=>?_);cases c with
 |true=>exact⟨H1,I1,q1⟩
 |false=>exact hb wh pins s1 σ H1 Q I1 q1
theorem aY (ha:WT X a tA):WT X (.UnaryOp .Not a pos) (Ca tA):=by
 have ha:=ha.go;refine⟨?_⟩;intro pins s σ H Q I h;exact isTrue_not (ha pins s σ H (λc H1=>Q (!c) H1) I h)
def AC (ta tb:TE):TE:=λσ H Q=>ta σ H λx H1=>∃ c,x=.bl c/\if c=true then tb σ H1 Q else Q (.bl false) H1
def BG (ta tb:TE):TE:=λσ H Q=>ta σ H λx H1=>∃ c,x=.bl c/\if c=true then Q (.bl true) H1 else tb σ H1 Q
def Ax (ta:TE):TE:=λσ H Q=>ta σ H λx H1=>∃ c,x=.bl c/\Q (.bl (!c)) H1
theorem gk {op}(h:WE X a t):WE X (.BoolOp op [a] pos) t:=by
 have h:=h.go;exact⟨λpins s σ H Q I hw=>BoolOp_one (h pins s σ H Q I hw)⟩
theorem iA (ha:WE X a ta)(hb:WE X (.BoolOp .And (b::cD) pos) tb):WE X (.BoolOp .And (a::b::cD) pos) (AC ta tb):=by
 have ha:=ha.go;have hb:=hb.go;refine⟨?_⟩;intro pins s σ H Q I h;refine BoolOp_and (bo (ha pins s σ H _ I h) λv s1 ⟨x,H1,I1,r1,q1⟩=>?_);obtain⟨c,rfl,q1⟩:=q1;cases r1;refine Fg ?_;cases c with
 |true=>exact hb pins s1 σ H1 Q I1 q1
 |false=>exact⟨.bl false,H1,I1,rfl,q1⟩
theorem zK (ha:WE X a ta)(hb:WE X (.BoolOp .Or (b::cD) pos) tb):WE X (.BoolOp .Or (a::b::cD) pos) (BG ta tb):=by
 have ha:=ha.go;have hb:=hb.go;refine⟨?_⟩;intro pins s σ H Q I h;refine BoolOp_or (bo (ha pins s σ H _ I h) λv s1 ⟨x,H1,I1,r1,q1⟩=>?_);obtain⟨c,rfl,q1⟩:=q1;cases r1;refine Fg ?_;cases c with
 |false=>exact hb pins s1 σ H1 Q I1 q1
 |true=>exact⟨.bl true,H1,I1,rfl,q1⟩
theorem v9 (ha:WE X a ta):WE X (.UnaryOp .Not a pos) (Ax ta):=by
 have ha:=ha.go;refine⟨?_⟩;intro pins s σ H Q I h;refine UnaryOp_ (bo (ha pins s σ H _ I h) λv s1 ⟨x,H1,I1,r1,q1⟩=>?_);obtain⟨c,rfl,q1⟩:=q1;cases r1;exact not_of (Fg ⟨.bl (!c),H1,I1,rfl,q1⟩)
def C8 (t:TT)(ta tb:TE):TE:=λσ H Q=>t σ H λc H1=>if c=true then ta σ H1 Q else tb σ H1 Q
theorem dY (hc:WT X c tA)(ha:WE X a ta)(hb:WE X b tb):WE X (.IfExp c a b pos) (C8 tA ta tb):=by
 have hc:=hc.go;have ha:=ha.go;have hb:=hb.go;refine⟨?_⟩;intro pins s σ H Q I h;refine wpAny_IfExp (bo (hc pins s σ H _ I h) λd s1 ⟨H1,I1,q1⟩=>?_);cases d with
 |true=>exact ha pins s1 σ H1 Q I1 q1
 |false=>exact hb pins s1 σ H1 Q I1 q1
end
def bj (K:Dd)(H:Hp)(a:Du)(xs:List V):Prop:=
 Rd H a (.lst xs) \/
  ∃ (o:Obj) (its:Array Di) (n:Nat),K.lookup a=some o/\o.cls=.type "list"/\o.dict=none/\o.data=.seq its n/\its.size<=Ds/\aJ xs its.toList
def f7 (K:Dd)(H:Hp)(a:Du)(xs:List V):Prop:=
 Rd H a (.tup xs) \/
  ∃ (o:Obj) (its:Array Di) (n:Nat),K.lookup a=some o/\o.cls=.type "tuple"/\o.data=.seq its n/\its.size<=Ds/\aJ xs its.toList
def BL:Di->Option V
 |.none=>some .non
 |.bool b=>some (.bl b)
 |.int i _=>some (.int i)
 |.str x _=>some (.str x)
 |.bytes b _=>some (.byt b)
 |.float b _=>some (.flt b)
 |.ref a=>some (.ref a)
 |.type n=>some (.ty n)
 |_=>none
theorem RelV.abs (r:RelV x u):BL u=some x:=by
 cases x with
 |non=>cases r;rfl
 |bl _=>cases r;rfl
 |int _=>obtain⟨t,rfl⟩:=r;rfl
 |str _=>obtain⟨t,rfl⟩:=r;rfl
 |byt _=>obtain⟨t,rfl⟩:=r;rfl
 |flt _=>obtain⟨t,rfl⟩:=r;rfl
 |ref _=>cases r;rfl
 |ty _=>cases r;rfl
theorem RelV.inj (r:RelV x u)(q:RelV y u):x=y:=Dm (r.abs.symm.trans q.abs)
theorem aJ.inj:∀ {xs ys:List V}{us:List Di},aJ xs us->aJ ys us->xs=ys
 |_,_,_,.nil,.nil=>rfl
 |_,_,_,.cons r t,.cons r' t'=>by rw[r.inj r',aJ.inj t t']
section
variable {X:Cx}{pins:List (Du×Obj)}{σ:St}{H:Hp}{s:Dk}{a:Du}{xs ys:List V}
theorem bj.of {K:Dd}(h:H a=some (.lst xs)):bj K H a xs:=.inl (.inl h)
theorem f7.of {K:Dd}(h:H a=some (.tup xs)):f7 K H a xs:=.inl (.inl h)
theorem av.list (I:av X pins σ H s)(h:bj X.K H a xs):∃ its:List Di,aJ xs its/\PlainL s.heap a its.toArray/\xs.length<=Ds:=by
 rcases h with h|⟨o,its,n,hk,hc,hd,hs,hz,r⟩
 ·obtain⟨z,its,n,r,e⟩:=h.ok I.hok;exact⟨its,r,⟨_,n,e,rfl,rfl,rfl⟩,z⟩
 ·refine⟨its.toList,r,⟨o,n,I.kIn a o hk,hc,hd,by simpa using hs⟩,?_⟩;have e:=r.length;simp only[Fd] at e;omega
theorem av.tuple (I:av X pins σ H s)(h:f7 X.K H a xs):∃ its:List Di,aJ xs its/\IsTup s.heap a its.toArray/\xs.length<=Ds:=by
 rcases h with h|⟨o,its,n,hk,hc,hs,hz,r⟩
 ·obtain⟨z,its,r,p⟩:=h.ok I.hok;exact⟨its,r,p,z⟩
 ·refine⟨its.toList,r,⟨o,I.kIn a o hk,hc,n,by simpa using hs⟩,?_⟩;have e:=r.length;simp only[Fd] at e;omega
theorem av.list_inj (I:av X pins σ H s)(h:bj X.K H a xs)(h':bj X.K H a ys):xs=ys:=by
 obtain⟨its,r,⟨o,n,e,_,_,d⟩,_⟩:=I.list h;obtain⟨its',r',⟨o',n',e',_,_,d'⟩,_⟩:=I.list h';rw[e] at e';cases e';rw[d] at d';injection d' with d1 _
 have:its=its':=by simpa using FS Array.toList d1
 subst this;exact r.inj r'
theorem av.tuple_inj (I:av X pins σ H s)(h:f7 X.K H a xs)(h':f7 X.K H a ys):xs=ys:=by
 obtain⟨its,r,⟨o,e,_,n,d⟩,_⟩:=I.tuple h;obtain⟨its',r',⟨o',e',_,n',d'⟩,_⟩:=I.tuple h';rw[e] at e';cases e';rw[d] at d';injection d' with d1 _
 have:its=its':=by simpa using FS Array.toList d1
 subst this;exact r.inj r'
end
abbrev Cx.wish (X:Cx)(E:Di->Dk->Prop):Cx:={ X with xe:=E }
abbrev Cx.nox (X:Cx):Cx:=X.wish λ_ _=>False
theorem Cx.Ok.wish {X:Cx}(ok:X.Ok)(E:Di->Dk->Prop):(X.wish E).Ok:=
 ⟨ok.mod,ok.kind,ok.glob,ok.blt,ok.above,ok.inj,ok.has,ok.cab,ok.hd,ok.frames,ok.stk,ok.exf,ok.bs,ok.bsz,ok.noex,ok.exfs,ok.funs,ok.frf⟩
theorem Cx.Ok.unwish {X:Cx}{E:Di->Dk->Prop}(ok:(X.wish E).Ok):X.Ok:=
 ⟨ok.mod,ok.kind,ok.glob,ok.blt,ok.above,ok.inj,ok.has,ok.cab,ok.hd,ok.frames,ok.stk,ok.exf,ok.bs,ok.bsz,ok.noex,ok.exfs,ok.funs,ok.frf⟩
section
variable {X:Cx}{pins:List (Du×Obj)}{σ:St}{H:Hp}{s:Dk}{E:Di->Dk->Prop}
theorem av.wish (I:av X pins σ H s)(E:Di->Dk->Prop):av (X.wish E) pins σ H s:=⟨I.ok.wish E,I.os,I.bare,I.base,I.loc,I.cell,I.free,I.freeC,I.pin,I.hok,I.len⟩
theorem av.unwish (I:av (X.wish E) pins σ H s):av X pins σ H s:=⟨I.ok.unwish,I.os,I.bare,I.base,I.loc,I.cell,I.free,I.freeC,I.pin,I.hok,I.len⟩
theorem SP.unwish (h:SP (X.wish E) pins D f s'):SP X pins D f s':=by
 cases f with
 |next=>obtain⟨σ',H',I,q⟩:=h;exact⟨σ',H',I.unwish,q⟩
 |brk=>obtain⟨σ',H',I,q⟩:=h;exact⟨σ',H',I.unwish,q⟩
 |cont=>obtain⟨σ',H',I,q⟩:=h;exact⟨σ',H',I.unwish,q⟩
 |ret u=>obtain⟨v,σ',H',I,r,q⟩:=h;exact⟨v,σ',H',I.unwish,r,q⟩
theorem vm.nox {st:List Gv}{t:TS}(h:vm X.nox st t):vm X st t:=λpins s σ H D I hw=>
 DW (h pins s σ H D (I.wish _) hw) (λ_ _ q=>q.unwish) λ_ _ z=>FD z
end
section
variable {X:Cx}{st:Gv}{cD:List Gv}{t u:TS}{e:Fs}{te:TE}{pos:Pos}
def Al:TS:=λD σ H=>D.nx σ H
def A2 (t u:TS):TS:=λD σ H=>t { D with nx:=u D } σ H
theorem aD:cE X [] Al:=by
 exact⟨λ_ _ σ H _ I h=>HL ⟨σ,H,I,h⟩⟩
theorem af (h1:WS X st t)(h2:cE X cD u):cE X (st::cD) (A2 t u):=by
 have h1:=h1.go;have h2:=h2.go;refine⟨?_⟩;intro pins s σ H D I h;refine wpAny_execs_cons (bo (h1 pins s σ H { D with nx:=u D } I h) λf s1 q=>?_);cases f with
 |next=>
  obtain⟨σ',H',I',q⟩:=q;exact h2 pins s1 σ' H' D I' q
 |ret v=>exact q
 |brk=>exact q
 |cont=>exact q
theorem ag (h1:WS X st t):cE X [st] t:=by
 have h1:=h1.go;refine⟨?_⟩;intro pins s σ H D I h;refine wpAny_execs_cons (bo (h1 pins s σ H D I h) λf s1 q=>?_);cases f with
 |next=>exact HL q
 |ret v=>exact q
 |brk=>exact q
 |cont=>exact q
theorem av.quiet (I:av X pins σ H s):interactive X.env=false:=by simp[interactive,I.ok.kind]
def AK (te:TE):TS:=λD σ H=>te σ H λ_ H1=>D.nx σ H1
theorem iF (he:WE X e te)(hs:JJ e none pos.line X.env=pure false:=by rfl):WS X (.Expr e pos) (AK te):=by
 have he:=he.go;refine⟨?_⟩;intro pins s σ H D I h;exact wpAny_Expr_any (bo (he pins s σ H _ I h) λv s1 ⟨x,H1,I1,r1,q1⟩=>⟨σ,H1,I1,q1⟩) I.quiet hs
def BP (te:TE):TS:=λD σ H=>te σ H D.rt
theorem au (he:WE X e te):WS X (.Return (some e) pos) (BP te):=by
 have he:=he.go;refine⟨?_⟩;intro pins s σ H D I h;exact wpAny_Return_some (bo (he pins s σ H _ I h) λv s1 ⟨x,H1,I1,r1,q1⟩=>⟨x,σ,H1,I1,r1,q1⟩)
def Cy (c:TT)(t u:TS):TS:=λD σ H=>c σ H λb H1=>if b=true then t D σ H1 else u D σ H1
theorem aM (hc:WT X c tc)(ha:cE X a t)(hb:cE X b u):WS X (.If c a b pos) (Cy tc t u):=by
 have hc:=hc.go;have ha:=ha.go;have hb:=hb.go;refine⟨?_⟩;intro pins s σ H D I h;refine wpAny_If (bo (hc pins s σ H _ I h) λd s1 ⟨H1,I1,q1⟩=>?_);cases d with
 |true=>exact ha pins s1 σ H1 D I1 q1
 |false=>exact hb pins s1 σ H1 D I1 q1
def zS:TS:=λ_ _ _=>False
theorem cH:WS X st zS:=by
 exact⟨λ_ _ _ _ _ _ h=>h.elim⟩
end
abbrev TG:=V->St->Hp->(St->Hp->Prop)->Prop
abbrev wc:=List V->St->Hp->(St->Hp->Prop)->Prop
def PG (X:Cx)(target:Fs)(t:TG):Prop:=
 ∀ (pins:List (Du×Obj)) (s:Dk) (σ:St) (H:Hp) (v:V) (u:Di) (Q:St->Hp->Prop),av X pins σ H s->RelV v u->t v σ H Q ->
  Dy (DK X.prog X.w) X.A (assign target X.env u) (λ_ s'=>∃ σ' H',av X pins σ' H' s'/\Q σ' H') X.xe s
structure WG (X:Cx)(e:Fs)(t:TG):Prop where
 go:PG X e t
def Cr (X:Cx)(ts:List Fs)(t:wc):Prop:=
 ∀ (pins:List (Du×Obj)) (s:Dk) (σ:St) (H:Hp) (vs:List V) (us:List Di) (Q:St->Hp->Prop),av X pins σ H s->aJ vs us->t vs σ H Q ->
  Dy (DK X.prog X.w) X.A (LG ((Fn ts X.env).map (·.2)) us) (λ_ s'=>∃ σ' H',av X pins σ' H' s'/\Q σ' H') X.xe s
structure Ad (X:Cx)(e:List Fs)(t:wc):Prop where
 go:Cr X e t
abbrev A8:=V->V->V->Hp->(Hp->Prop)->Prop
def Bk (X:Cx)(t:A8):Prop:=
 ∀ (pins:List (Du×Obj)) (s:Dk) (σ:St) (H:Hp) (o i v:V) (ov iv u:Di) (Q:Hp->Prop),av X pins σ H s->RelV o ov->RelV i iv->RelV v u->t o i v H Q ->
  Dy (DK X.prog X.w) X.A (setItem ov iv u) (λ_ s'=>∃ H',av X pins σ H' s'/\Q H') X.xe s
section
variable {X:Cx}{pos:Pos}
def rJ (i:Nat):TG:=λv σ H Q=>Q (σ.set i (some v)) H
theorem t6 {i:Nat}(hN:X.N.Nodup)(hi:X.N[i]?=some x)(hx:Ae X.env.scope x)(hf:X.fn x=true\/X.env.scope.names.lookup x=some .local:=by first|exact .inl rfl|exact .inr rfl|assumption):WG X (.Name x pos) (rJ i):=by
 refine⟨?_⟩;intro pins s σ H v u Q I r h;exact wpAny_assign_Name (fm I hN hi hx r (λs' I'=>⟨_,H,I',h⟩) hf)
def Ce:wc:=λvs σ H Q=>vs=[]/\Q σ H
def A1 (t:TG)(u:wc):wc:=λvs σ H Q=>∃ v r,vs=v::r/\t v σ H λσ' H'=>u r σ' H' Q
theorem di:Ad X [] Ce:=by
 refine⟨?_⟩;intro pins s σ H vs us Q I r h;obtain⟨e,h⟩:=h;subst e;cases r;exact assignInOrder_nil ⟨σ,H,I,h⟩
theorem a_ (h1:WG X e t) (h2:Ad X es u)
  (hs:(Fn (e::es) X.env).map (·.2)=assign e X.env::(Fn es X.env).map (·.2):=by rfl):Ad X (e::es) (A1 t u):=by
 have h1:=h1.go;have h2:=h2.go;refine⟨?_⟩;intro pins s σ H vs us Q I r h;obtain⟨v,vr,e1,h⟩:=h;subst e1;cases r with
 |cons r rr=>
  rw[hs];refine Jg (bo (h1 pins s σ H _ _ _ I r h) λ_ s1 ⟨σ1,H1,I1,q1⟩=>?_);exact h2 pins s1 σ1 H1 _ _ Q I1 rr q1
def Bi (K:Dd)(n:Nat)(t:wc):TG:=λv σ H Q=>∃ a xs,v=.ref a/\f7 K H a xs/\xs.length=n/\t xs σ H Q
theorem zu {k:Nat}{n:Nat} (hc:X.calm=true) (h:Cr X es t)
  (hn:(Fn es X.env).length=n:=by rfl)(hst:(Fn es X.env).findIdx? (·.1)=none:=by rfl):PG X (.Tuple es k pos) (Bi X.K n t):=by
 intro pins s σ H v u Q I r hw;obtain⟨a,xs,e1,hq,hl,hw⟩:=hw;subst e1;cases r;obtain⟨its,rv,ht,hz⟩:=I.tuple hq;refine assign_Tuple_tuple (I.ok.hd hc) ht (by simp[hn,<- hl,rv.length]) hst λh' hx=>?_
 have I1:av X pins σ H { s with heap:=h' }:=I.kept (t':=s.toks) λb o e=>hx b o (DI (Dj e)) e
 exact h pins _ σ H xs _ Q I1 (by simpa using rv) hw
def B0 (to ti:TE)(t:A8):TG:=λv σ H Q=>to σ H λo H1=>ti σ H1 λi H2=>t o i v H2 λH3=>Q σ H3
theorem q_ (ho:WE X o to) (hi:WE X i ti) (hs:Bk X t)
  (ha:∀ v,assign (.Subscript o i pos) X.env v=(do
   let ov <- holding [v] (GI o X.env)
   let iv <- holding [v,ov] (GI i X.env)
   L4 pos
   holding [v,ov,iv] (setItem ov iv v)
   release [v,ov,iv] []):=by intro _;rfl):WG X (.Subscript o i pos) (B0 to ti t):=by
 have ho:=ho.go;have hi:=hi.go;refine⟨?_⟩;intro pins s σ H v u Q I r h;rw[ha];refine De (Em (bo (ho pins s σ H _ I h) λov s1 ⟨x,H1,I1,r1,q1⟩=>?_));refine De (Em (bo (hi pins s1 σ H1 _ I1 q1) λiv s2 ⟨y,H2,I2,r2,q2⟩=>?_));refine De (Fl (De (Em (bo (hs pins s2 σ H2 x y v ov iv u _ I2 r1 r2 r q2) λ_ s3 ⟨H3,I3,q3⟩=>?_))));exact wpAny_release ⟨σ,H3,I3,q3⟩
def zY (te:TE)(g:TG):TS:=λD σ H=>te σ H λx H1=>g x σ H1 D.nx
theorem nJ (he:WE X e te) (hg:WG X tg g) (hs:swapsWithSole [tg] e pos.line X.env=pure false:=by rfl) (hw:swappedStores [tg] e X.env=pure none:=by rfl)
  (h1:(Fn [tg] X.env).map (·.2)=[assign tg X.env]:=by rfl):WS X (.Assign [tg] e pos) (zY te g):=by
 have he:=he.go;have hg:=hg.go;refine⟨?_⟩;intro pins s σ H D I h;refine wpAny_Assign_stores (bo (he pins s σ H _ I h) λv s1 ⟨x,H1,I1,r1,q1⟩=>?_) hs hw;rw[h1];exact bo (hg pins s1 σ H1 x v _ I1 r1 q1) λ_ s2 q=>q
theorem v4 {i:Nat} (hN:X.N.Nodup) (hi:X.N[i]?=some x) (hx:Ae X.env.scope x) (he:WE X e te) (hs:JJ e (some (.Name x pos')) pos.line X.env=pure false:=by rfl) (hf:X.fn x=true\/X.env.scope.names.lookup x=some .local:=by first | exact .inl rfl | exact .inr rfl | assumption) :
  WS X (.Assign [.Name x pos'] e pos) (zY te (rJ i)):=by
 have he:=he.go;refine⟨?_⟩;intro pins s σ H D I h;refine wpAny_Assign_Name (bo (he pins s σ H _ I h) λv s1 ⟨y,H1,I1,r1,q1⟩=>?_) hs;exact fm I1 hN hi hx r1 (λs2 I2=>⟨_,H1,I2,q1⟩) hf
def Cu (i j:Nat)(ta:TA):TS:=λD σ H=>ta σ H λvs H1=>∃ v w,vs=[v,w]/\D.nx ((σ.set i (some v)).set j (some w)) H1
theorem nU {i j:Nat}{kt k2 pt2} (hc:X.calm=true) (hN:X.N.Nodup) (hi:X.N[i]?=some x) (hj:X.N[j]?=some y) (hij:i ≠ j)
  (hx:X.env.scope.names.lookup x=some .local)(hy:X.env.scope.names.lookup y=some .local)(ha:WA X [a,b] ta)
  (hw:swappedStores [.Tuple [.Name x px,.Name y py] kt pt] (.Tuple [a,b] k2 pt2) X.env=pure (some [x,y]))
  (hs:swapsWithSole [.Tuple [.Name x px,.Name y py] kt pt] (.Tuple [a,b] k2 pt2) pos.line X.env=pure false:=by rfl):
  WS X (.Assign [.Tuple [.Name x px,.Name y py] kt pt] (.Tuple [a,b] k2 pt2) pos) (Cu i j ta):=by
 have ha:=ha.go;refine⟨?_⟩;intro pins s σ H D I h;rw[exec_Assign_arm];refine De (Fl ?_);rw[hs];refine De (Dg ?_);rw[DS (by decide)];refine De (Tuple_ (bo (ha _ pins s σ H _ I h) λus s1 ⟨vs,H1,I1,r1,q1⟩=>?_));obtain⟨v,w,e1,q1⟩:=q1;subst e1;obtain⟨u1,u2,rfl,rv,rw'⟩:∃ u1 u2,us=[u1,u2]/\RelV v u1/\RelV w u2:=by
  cases r1 with
  |cons p q=>
   cases q with
   |cons p' q'=>
    cases q';exact⟨_,_,rfl,p,p'⟩
 refine Es ?_ (by show 2<=Ds;decide);have I2:av X pins σ H1 { s1 with heap:=s1.heap.push { cls:=.type "tuple",data:=.seq [u1,u2].toArray } }:=I1.kept (t':=s1.toks) λb o e=>Df _ e
 rw[hw];refine De (Dg ?_);show Dy (DK X.prog X.w) X.A (do rule "assign.swapped-stores";let items <- unpackItems (.ref s1.heap.objs.size) 2 none;LG [λv=>Mo X.env y v,λv=>Mo X.env x v] items.reverse;pure Flow.next) _ _ _;refine De (Hw (De (unpackItems_tuple (items:=#[u1,u2]) (I.ok.hd hc) (IsTup.new s1.heap _) λh' hx'=>?_)));have I3:=I2.kept (h':=h') (t':=s1.toks) λb o e=>hx' b o (DI (Dj e)) e
 show Dy _ _ (LG [λv=>Mo X.env y v,λv=>Mo X.env x v] [u2,u1]>>=λ_=>pure Flow.next) _ _ _;refine De (Jg (wpAny_bindName (fm I3 hN hj (.inl hy) rw' (λs2 I4=>?_) (.inr hy))));refine Jg (wpAny_bindName (fm I4 hN hi (.inl hx) rv (λs3 I5=>assignInOrder_nil (Dg ?_)) (.inr hx)));rw[List.set_comm _ _ (Fj hij)] at I5;exact⟨_,H1,I5,q1⟩
end
section
variable {X:Cx}{pos:Pos}
def y8 (c:TT)(tb:TS):TS:=λD σ H=>∃ W:Nat->St->Hp->Prop,(∃ m,W m σ H)/\∀ m σ H,W m σ H ->
 c σ H λb H1=>if b=true then ∃ N:St->Hp->Prop,(∀ σ' H',N σ' H'->∃ m',m'<m/\W m' σ' H')/\tb { D with nx:=N,ct:=N,bk:=D.nx } σ H1 else D.nx σ H1
theorem rT (hp:PassesOwn (DK X.prog X.w) X.A X.env X.xe)(hc:WT X c tc)(hb:cE X body tb):WS X (.While c body [] pos) (y8 tc tb):=by
 have hc:=hc.go;have hb:=hb.go;refine⟨?_⟩;intro pins s σ H D I h;obtain⟨W,⟨m0,w0⟩,fW⟩:=h;refine wpAny_While (codeAny_whileLoop (λn s'=>∃ σ' H',av X pins σ' H' s'/\W n σ' H') ?_ m0 ⟨σ,H,I,w0⟩);rintro n s1 ⟨σ1,H1,I1,w1⟩;refine Gj hp (bo (hc pins s1 σ1 H1 _ I1 (fW n σ1 H1 w1)) λb s2 ⟨H2,I2,q2⟩=>?_);cases b with
 |true=>
  obtain⟨N,hN,q2⟩:=q2;rw[Ee rfl];refine Gj hp (bo (hb pins s2 σ1 H2 _ I2 q2) λf s3 q3=>?_);cases f with
  |next=>
   obtain⟨σ3,H3,I3,n3⟩:=q3;obtain⟨m',hm,w3⟩:=hN σ3 H3 n3;exact⟨m',hm,σ3,H3,I3,w3⟩
  |cont=>
   obtain⟨σ3,H3,I3,n3⟩:=q3;obtain⟨m',hm,w3⟩:=hN σ3 H3 n3;exact⟨m',hm,σ3,H3,I3,w3⟩
  |brk=>exact q3
  |ret v=>exact q3
 |false=>
  rw[DS DM];exact HL ⟨σ1,H2,I2,q2⟩
end
structure It where
 go:Nat->Hp->Prop
 yld:Nat->Hp->V->Hp->Prop
 stop:Nat->Hp->Prop
def eV (X:Cx)(pins:List (Du×Obj))(H:Hp)(b:Du):Prop:=
 H b=none/\b≠X.env.locals/\b∉X.fs/\(b∈X.ex\/X.s₀.heap.objs.size<=b)/\(∀ x c,X.env.cells.lookup x=some c->c≠b)/\∀ p∈X.pn++pins,p.1≠b
theorem av.fpOk (I:av X pins σ H s)(hb:s.heap.objs.size<=b)(hn:H' b=none):eV X pins H' b:=by
 refine⟨hn,FB (DD I.lt hb),I.nofs hb,.inr (Dt I.sz hb),λx c e z=>?_,λp hp z=>?_⟩
 ·obtain⟨v,q⟩:=I.cell x c e;exact absurd (DD q.lt (by rw[z];exact hb)) (Eh _)
 ·exact absurd (DD (Dj (I.pin p hp).1) (by rw[z];exact hb)) (Eh _)
structure lB (P:DN)(w:Ez)(K:Dd)(tg:Fs)(J:It)(fp:List Du)(it:Du)(tn:Nat->Fp->Prop):Prop where
 mem:it∈fp
 obj:∀ i h,tn i h->∀ b∈fp,∃ o,h.get? b=some o/\∀ v,o.data≠.cell v
 keep:∀ i h h',tn i h->(∀ b∈fp,∀ o,h.get? b=some o->h'.get? b=some o)->tn i h'
 item:∀ (X:Cx),X.prog=P->X.w=w->X.K=K->X.calm=true->∀ (i:Nat) (pins:List (Du×Obj)) (s:Dk) (σ:St) (H:Hp) (E:Di->Dk->Prop),av X pins σ H s->(∀ b∈fp,eV X pins H b)->tn i s.heap->J.go i H ->
  Dy (DK P w) X.A (HR (.ref it)) (λr s1=>∃ u,r=some u /\
   Dy (DK P w) X.A (Gh tg (.ref it) u) (λ_ s2=>∃ x H',av X pins σ H' s2/\RelV x u/\J.yld i H x H'/\tn (i+1) s2.heap/\∀ b∈fp,H' b=none) E s1) E s
 done:∀ (X:Cx),X.prog=P->X.w=w->X.K=K->X.calm=true->∀ (i:Nat) (pins:List (Du×Obj)) (s:Dk) (σ:St) (H:Hp) (E:Di->Dk->Prop),av X pins σ H s->(∀ b∈fp,eV X pins H b)->tn i s.heap->J.stop i H ->
  Dy (DK P w) X.A (HR (.ref it)) (λr s1=>r=none/\av X pins σ H s1) E s
 self:∀ (A:EK) (i:Nat) (s:Dk) (Q:Di->Dk->Prop) (E:Di->Dk->Prop),tn i s.heap->Q (.ref it) s->Dy (DK P w) A (LH (.ref it)) Q E s
abbrev TI:=St->Hp->(It->Hp->Prop)->Prop
def CI (X:Cx)(pins:List (Du×Obj))(σ:St)(tg:Fs)(R:It->Hp->Prop)(itv:Di)(s2:Dk):Prop:=
 ∃ (it:Du) (fp:List Du) (tn:Nat->Fp->Prop) (J:It) (H':Hp),itv=.ref it/\av X pins σ H' s2/\lB X.prog X.w X.K tg J fp it tn/\tn 0 s2.heap/\(∀ b∈fp,eV X pins H' b)/\R J H'
def PI (X:Cx)(tg iter:Fs)(wi:TI):Prop:=
 ∀ (pins:List (Du×Obj)) (s:Dk) (σ:St) (H:Hp) (R:It->Hp->Prop),av X pins σ H s->wi σ H R ->
  Dy (DK X.prog X.w) X.A (GI iter X.env) (λv s1=>Dy (DK X.prog X.w) X.A (LH v) (CI X pins σ tg R) X.xe s1) X.xe s
structure WI (X:Cx)(tg e:Fs)(t:TI):Prop where
 go:PI X tg e t
theorem rp (ho:s.heap.get? it=some o) (hc:o.cls=.type n) (hd:o.data=.fields vs)
  (hn:["enumerate","zip","dict_itemiterator","dict_reverseitemiterator","odict_iterator","itertools.zip_longest","itertools.pairwise"].contains n=false)(hQ:Q () s):Dy M A (Gh tg (.ref it) u) Q E s:=by
 unfold Gh;cases tg<;>first
  |exact Dg hQ
  | (cases u <;> first
    |exact Dg hQ
    | (refine De (wpAny_load ho ?_)
       rw[hc,hd];show Dy M A (if(["enumerate","zip","dict_itemiterator","dict_reverseitemiterator","odict_iterator","itertools.zip_longest","itertools.pairwise"].contains n&&vs[0]?==some (FK _))=true then _ else _) Q E s;rw[DS (by intro h;rw[hn,Fx] at h;cases h)];exact Dg hQ))
def AA (K:Dd)(a:Du):It:=
 ⟨λi H=>∃ xs x,bj K H a xs/\xs[i]?=some x,λi H x H'=>H'=H/\∀ xs,bj K H a xs->xs[i]?=some x,λi H=>∃ xs,bj K H a xs/\xs.length<=i⟩
def Bl (K:Dd)(a:Du):It:=
 ⟨λi H=>∃ xs x,f7 K H a xs/\xs[i]?=some x,λi H x H'=>H'=H/\∀ xs,f7 K H a xs->xs[i]?=some x,λi H=>∃ xs,f7 K H a xs/\xs.length<=i⟩
def vn (lo:Int)(n:Nat):It:=⟨λi _=>i<n,λi H x H'=>H'=H/\x=.int (lo+i),λi _=>n<=i⟩
theorem sS {P:DN}{w:Ez}{K:Dd}{tg:Fs}(a it:Du):lB P w K tg (AA K a) [it] it (λi h=>h.IsListIter it a i) where
 mem:=by simp
 obj:=λi h st b hb=>by
  have e:b=it:=by simpa using hb
  subst e;obtain⟨o,e,c,d⟩:=st;exact⟨o,e,λv z=>by rw[d] at z;cases z⟩
 keep:=λi h h' st k=>st.at λo e=>k it (by simp) o e
 item:=by
  intro X hP hw hK hc i pins s σ H E I hf st hg;subst hP hw hK;obtain⟨xs,x,hq,hx⟩:=hg;obtain⟨its,rv,p,hz⟩:=I.list hq;obtain⟨u,hu,ru⟩:=rv.get hx;obtain⟨f0,f1,f2,f3,f4,f5⟩:=hf it (by simp);refine Km st p.isList (x:=u) (by simpa using hu) λh' st' sb=>?_
  have I1:av X pins σ H { s with heap:=h' }:=I.turned (t':=s.toks) (λb o hb e=>(sb.2 b hb).trans e) f0 f1 f3 f4 f5;obtain⟨o,e,c,d⟩:=id st';exact⟨u,rfl,rp (s:={ s with heap:=h' }) e c d (by decide) ⟨x,H,I1,ru,⟨rfl,λys hy=>by rw[I.list_inj hy hq];exact hx⟩,st',λb hb=>(hf b hb).1⟩⟩
 done:=by
  intro X hP hw hK hc i pins s σ H E I hf st hg;subst hP hw hK;obtain⟨xs,hq,hx⟩:=hg;obtain⟨its,rv,p,hz⟩:=I.list hq;obtain⟨f0,f1,f2,f3,f4,f5⟩:=hf it (by simp);have hl:=rv.length;exact wpAny_pyNext_list_end (I.ok.hd hc) st p.isList (by simp;omega) λh' eb=>⟨rfl,I.turned (t':=s.toks) (λb o hb e=>eb b o hb e) f0 f1 f3 f4 f5⟩
 self:=λ_ _ _ _ _ st h=>wpAny_pyIter_listiter st h
theorem qB {P:DN}{w:Ez}{K:Dd}{tg:Fs}(a it:Du):lB P w K tg (Bl K a) [it] it (λi h=>h.IsTupleIter it a i) where
 mem:=by simp
 obj:=λi h st b hb=>by
  have e:b=it:=by simpa using hb
  subst e;obtain⟨o,e,c,d⟩:=st;exact⟨o,e,λv z=>by rw[d] at z;cases z⟩
 keep:=λi h h' st k=>st.at λo e=>k it (by simp) o e
 item:=by
  intro X hP hw hK hc i pins s σ H E I hf st hg;subst hP hw hK;obtain⟨xs,x,hq,hx⟩:=hg;obtain⟨its,rv,p,hz⟩:=I.tuple hq;obtain⟨u,hu,ru⟩:=rv.get hx;obtain⟨f0,f1,f2,f3,f4,f5⟩:=hf it (by simp);refine wpAny_pyNext_tuple_item st (show s.heap.IsTuple a its.toArray from p) (x:=u) (by simpa using hu) λh' st' sb=>?_
  have I1:av X pins σ H { s with heap:=h' }:=I.turned (t':=s.toks) (λb o hb e=>(sb.2 b hb).trans e) f0 f1 f3 f4 f5;obtain⟨o,e,c,d⟩:=id st';exact⟨u,rfl,rp (s:={ s with heap:=h' }) e c d (by decide) ⟨x,H,I1,ru,⟨rfl,λys hy=>by rw[I.tuple_inj hy hq];exact hx⟩,st',λb hb=>(hf b hb).1⟩⟩
 done:=by
  intro X hP hw hK hc i pins s σ H E I hf st hg;subst hP hw hK;obtain⟨xs,hq,hx⟩:=hg;obtain⟨its,rv,p,hz⟩:=I.tuple hq;obtain⟨f0,f1,f2,f3,f4,f5⟩:=hf it (by simp);have hl:=rv.length;exact wpAny_pyNext_tuple_end (I.ok.hd hc) st (show s.heap.IsTuple a its.toArray from p) (by simp;omega) λh' eb=>⟨rfl,I.turned (t':=s.toks) (λb o hb e=>eb b o hb e) f0 f1 f3 f4 f5⟩
 self:=λ_ _ _ _ _ st h=>wpAny_pyIter_tupleiter st h
theorem qc {P:DN}{w:Ez}{K:Dd}{tg:Fs}(it:Du)(lo:Int)(n:Nat):lB P w K tg (vn lo n) [it] it (λi h=>IsRangeIter h it (lo+(i:Nat)*1) ((n:Int)-(i:Nat)) 1) where
 mem:=by simp
 obj:=λi h st b hb=>by
  have e:b=it:=by simpa using hb
  subst e;exact⟨_,st,λv z=>by
   have z':Data.fields _=Data.cell v:=z;cases z'⟩
 keep:=λi h h' st k=>k it (by simp) _ st
 item:=by
  intro X hP hw hK hc i pins s σ H E I hf st hg;subst hP hw hK;obtain⟨f0,f1,f2,f3,f4,f5⟩:=hf it (by simp);have W:=Walks.range (prog:=X.prog) (w:=X.w) (I.ok.hd hc) it lo 1 n;refine W.item i s _ _ hg st λv h' tk hv st' kk=>?_
  obtain⟨t,rfl⟩:=hv;have I1:av X pins σ H { s with heap:=h',toks:=tk }:=I.turned (λb o hb e=>kk b o (by simpa using hb) e) f0 f1 f3 f4 f5;refine⟨_,rfl,rp (s:={ s with heap:=h',toks:=tk }) (n:="range_iterator") st' rfl rfl (by decide) ⟨.int (lo+i),H,I1,⟨t,?_⟩,⟨rfl,rfl⟩,st',λb hb=>(hf b hb).1⟩⟩;rw[Int.mul_one]
 done:=by
  intro X hP hw hK hc i pins s σ H E I hf st hg;subst hP hw hK;obtain⟨f0,f1,f2,f3,f4,f5⟩:=hf it (by simp);exact wpAny_pyNext_range_end (I.ok.hd hc) st (by have:n<=i:=hg;omega) λh' eb=>⟨rfl,I.turned (t':=s.toks) (λb o hb e=>eb b o hb e) f0 f1 f3 f4 f5⟩
 self:=λ_ _ _ _ _ st h=>wpAny_pyIter_rangeiter st h
section
variable {X:Cx}{tg:Fs}
theorem pS {lo hi:Int}{tk:Nat} (I:av X pins σ H s) (h1:-(2 ^ 62) <= lo) (h2:lo < 2 ^ 62) (h3:-(2 ^ 62) <= hi) (h4:hi < 2 ^ 62)
  (q:R (vn lo (hi-lo).toNat) H):Dy (DK X.prog X.w) X.A (LH (.ref s.heap.objs.size)) (CI X pins σ tg R) E { s with heap:=s.heap.push { cls:=.type "range",data:=.fields #[.int lo t,.int hi u,.int 1 v] },toks:=tk }:=by
 refine wpAny_pyIter_range (IsRange.new ..) (small_one h1 h2 h3 h4) ?_;have I1:av X pins σ H { s with heap:=s.heap.push { cls:=.type "range",data:=.fields #[.int lo t,.int hi u,.int 1 v] },toks:=tk }:=I.kept λb o e=>Df _ e
 refine⟨(s.heap.push { cls:=.type "range",data:=.fields #[.int lo t,.int hi u,.int 1 v] }).objs.size,[(s.heap.push { cls:=.type "range",data:=.fields #[.int lo t,.int hi u,.int 1 v] }).objs.size],_,_,H,rfl,
  I1.kept (t':=tk) λb o e=>Df _ e,qc _ lo (hi-lo).toNat,?_,λb hb=>?_,q⟩
 ·have e1:lo+((0:Nat):Int)*1=lo:=by simp
  have e2:(((hi-lo).toNat:Nat):Int)-((0:Nat):Int)=Builtin.Range.rangeSize lo hi 1:=by rw[rangeSize_one];split<;>omega
  show IsRangeIter _ _ (lo+((0:Nat):Int)*1) ((((hi-lo).toNat:Nat):Int)-((0:Nat):Int)) 1;rw[e1,e2];exact Dl _ rfl
 ·have e:b=(s.heap.push { cls:=.type "range",data:=.fields #[.int lo t,.int hi u,.int 1 v] }).objs.size:=by simpa using hb
  subst e;exact I1.fpOk (Dn _) (I1.hok.fresh (Dn _))
def AJ (ta:TA):TI:=λσ H R=>ta σ H λvs H1=>∃ j:Int,vs=[.int j]/\-(2^62)<=j/\j<2^62/\R (vn 0 j.toNat) H1
def AH (ta:TA):TI:=λσ H R=>ta σ H λvs H1=>∃ i j:Int,vs=[.int i,.int j]/\(-(2^62)<=i/\i<2^62/\-(2^62)<=j/\j<2^62)/\R (vn i (j-i).toNat) H1
theorem bt (hg:Gl X "range")(hm:X.mg "range"=none)(ha:WA X [a] ta)(hs:DO [a] X.env=[(false,GI a X.env)]:=by rfl):WI X tg (.Call (.Name "range" p) [a] [] pos) (AJ ta):=by
 have ha:=ha.go;refine⟨?_⟩;intro pins s σ H R I h;refine Call_ (e6 I hg hm boot_range (E3 (bo (ha pos pins s σ H _ I h) λus s1 ⟨vs,H1,I1,r1,q1⟩=>?_) hs rfl));obtain⟨j,e,q1,q2,q⟩:=q1;subst e;cases r1 with
 |cons r rr=>
  cases rr;obtain⟨t,rfl⟩:=r;exact call_range_1 (pS I1 (by omega) (by omega) q1 q2 (by simpa using q))
theorem qG (hg:Gl X "range") (hm:X.mg "range"=none) (ha:WA X [a,b] ta) (hs:DO [a,b] X.env=[(false,GI a X.env),(false,GI b X.env)]:=by rfl) (hs2:DO [b] X.env=[(false,GI b X.env)]:=by rfl) :
  WI X tg (.Call (.Name "range" p) [a,b] [] pos) (AH ta):=by
 have ha:=ha.go;refine⟨?_⟩;intro pins s σ H R I h;refine Call_ (e6 I hg hm boot_range (E3 (bo (ha pos pins s σ H _ I h) λus s1 ⟨vs,H1,I1,r1,q1⟩=>?_) (by rw[hs,hs2]) (by rw[hs2];rfl)));obtain⟨i,j,e,⟨q1,q2,q3,q4⟩,q⟩:=q1;subst e;cases r1 with
 |cons r rr=>
  cases rr with
  |cons r' rr=>
   cases rr;obtain⟨t,rfl⟩:=r;obtain⟨t',rfl⟩:=r';exact call_range_2 (pS I1 q1 q2 q3 q4 q)
def B1 (wi:TI)(g:TG)(tb:TS):TS:=λD σ H=>wi σ H λJ H1=>∃ W:Nat->Nat->St->Hp->Prop,(∃ m,W 0 m σ H1)/\∀ i m σ H,W i m σ H ->
 (J.stop i H/\D.nx σ H)\/(J.go i H/\∃ N:St->Hp->Prop,(∀ σ' H',N σ' H'->∃ m',m'<m/\W (i+1) m' σ' H')/\∀ x H',J.yld i H x H'->g x σ H' λσ2 H2=>tb { D with nx:=N,ct:=N,bk:=D.nx } σ2 H2)
def du (fp:List Du)(h:Fp):List (Du×Obj):=fp.filterMap λb=>(h.get? b).map λo=>(b,o)
theorem bS (hb:b∈fp)(e:h.get? b=some o):(b,o)∈du fp h:=EG.mpr ⟨b,hb,by rw[e];rfl⟩
theorem i8 (hp:p∈du fp h):p.1∈fp/\h.get? p.1=some p.2:=by
 obtain⟨b,hb,e⟩:=EG.mp hp;cases q:h.get? b with
 |none=>rw[q] at e;cases e
 |some o=>
  rw[q] at e;have e':(b,o)=p:=Dm e;subst e';exact⟨hb,q⟩
theorem av.pinned (I:av X pins σ H s)(hf:∀ b∈fp,eV X pins H b)(ho:∀ b∈fp,∃ o,s.heap.get? b=some o/\∀ v,o.data≠.cell v):av X (pins++du fp s.heap) σ H s:=
 I.pins_of λp hp=>(Ek.mp hp).elim (λz=>I.pin p (Dq _ z)) λz=>by
  obtain⟨hb,e⟩:=i8 z;obtain⟨f0,f1,f2,_⟩:=hf p.1 hb;obtain⟨o,e',d⟩:=ho p.1 hb;rw[e] at e';cases e';exact⟨e,f0,f1,f2,d⟩
theorem av.unpinned (I:av X (pins++pl) σ H s):av X pins σ H s:=I.pins_of λp hp=>I.pin p (Dq _ (E7 _ hp))
theorem eM (hp:PassesOwn (DK X.prog X.w) X.A X.env X.xe) (hc:X.calm=true) (hi:WI X tg iter wi) (hg:WG X tg g) (hb:cE X body tb)
  (hs:∀ x,E6 iter X.env x=pure x:=by intro _;rfl):WS X (.For tg iter body [] pos) (B1 wi g tb):=by
 have hi:=hi.go;have hg:=hg.go;have hb:=hb.go;refine⟨?_⟩;intro pins s σ H D I h;refine wpAny_For (bo (hi pins s σ H _ I h) λv s1 h1=>bo h1 λitv s2 h2=>?_) hs;obtain⟨it,fp,tn,J,H2,e,I2,T,st2,f2,W,⟨m0,w0⟩,fW⟩:=h2;subst e;have stat:∀ {H':Hp},(∀ b∈fp,H' b=none)->∀ b∈fp,eV X pins H' b:=λhn b hb=>⟨hn b hb,(f2 b hb).2⟩
 refine codeAny_forLoop_any (λn s'=>∃ i σ' H',av X pins σ' H' s'/\tn i s'.heap/\(∀ b∈fp,H' b=none)/\W i n σ' H') ?_ m0 ⟨0,σ,H2,I2,st2,λb hb=>(f2 b hb).1,w0⟩;rintro n s3 ⟨i,σ3,H3,I3,st3,fr3,w3⟩;rcases fW i n σ3 H3 w3 with ⟨stop,qn⟩|⟨go,N,hN,step⟩
 ·refine Gj hp (bo (T.done X rfl rfl rfl hc i pins s3 σ3 H3 X.xe I3 (stat fr3) st3 stop) λr s4 ⟨hr,I4⟩=>?_);subst hr;exact HL ⟨σ3,H3,I4,qn⟩
 ·refine Gj hp (bo (T.item X rfl rfl rfl hc i pins s3 σ3 H3 X.xe I3 (stat fr3) st3 go) λr s4 ⟨u,hr,h4⟩=>?_);subst hr;refine Gj hp (bo h4 λ_ s5 ⟨x,H5,I5,r5,y5,st5,fr5⟩=>?_);have I5':=I5.pinned (stat fr5) (T.obj _ _ st5);refine Gj hp (bo (hg _ s5 σ3 H5 x u _ I5' r5 (step x H5 y5)) λ_ s6 ⟨σ6,H6,I6,q6⟩=>?_);refine Gj hp (bo (hb _ s6 σ6 H6 _ I6 q6) λf s7 q7=>?_);have again:∀ {σ7:St}{H7:Hp},av X (pins++du fp s5.heap) σ7 H7 s7->N σ7 H7->∃ m,m<n/\∃ i σ' H',av X pins σ' H' s7/\tn i s7.heap/\(∀ b∈fp,H' b=none)/\W i m σ' H':=λ{σ7 H7} I7 n7=>by
   obtain⟨m',hm,w7⟩:=hN σ7 H7 n7;refine⟨m',hm,i+1,σ7,H7,I7.unpinned,T.keep _ _ _ st5 λb hb o e=>(I7.pin (b,o) (Dq _ (Dq _ (bS hb e)))).1,λb hb=>?_,w7⟩;obtain⟨o,e,d⟩:=T.obj _ _ st5 b hb;exact(I7.pin (b,o) (Dq _ (Dq _ (bS hb e)))).2.1
  cases f with
  |next=>obtain⟨σ7,H7,I7,n7⟩:=q7;exact again I7 n7
  |cont=>obtain⟨σ7,H7,I7,n7⟩:=q7;exact again I7 n7
  |brk=>obtain⟨σ7,H7,I7,q7⟩:=q7;exact⟨σ7,H7,I7.unpinned,q7⟩
  |ret v=>obtain⟨x7,σ7,H7,I7,r7,q7⟩:=q7;exact⟨x7,σ7,H7,I7.unpinned,r7,q7⟩
end
theorem uH {K:Dd}{a:Du}{xs:List V}{g:TG}{tb:TS}{D:ju}{σ:St}{H:Hp} (Pv:Nat->St->Hp->Prop) (h0:Pv 0 σ H) (hl:∀ i σ H,i <= xs.length->Pv i σ H->bj K H a xs)
  (hs:∀ i x σ H,xs[i]?=some x->Pv i σ H->g x σ H λσ2 H2=>tb { D with nx:=Pv (i+1),ct:=Pv (i+1),bk:=D.nx } σ2 H2)(hd:∀ σ H,Pv xs.length σ H->D.nx σ H):
  ∃ W:Nat->Nat->St->Hp->Prop,(∃ m,W 0 m σ H)/\∀ i m σ H,W i m σ H ->
   ((AA K a).stop i H/\D.nx σ H)\/((AA K a).go i H/\∃ N:St->Hp->Prop,(∀ σ' H',N σ' H'->∃ m',m'<m/\W (i+1) m' σ' H')/\∀ x H',(AA K a).yld i H x H'->g x σ H' λσ2 H2=>tb { D with nx:=N,ct:=N,bk:=D.nx } σ2 H2):=by
 refine⟨λi m σ H=>m=xs.length-i/\i<=xs.length/\Pv i σ H,⟨xs.length,by simp,ES _,h0⟩,?_⟩;rintro i m σ H ⟨rfl,hi,p⟩;have q:=hl i σ H hi p
 by_cases hlt:i<xs.length
 ·refine .inr ⟨⟨xs,xs[i],q,by simp[hlt]⟩,Pv (i+1),λσ' H' p'=>⟨xs.length-(i+1),by omega,rfl,hlt,p'⟩,λx H' y=>?_⟩;obtain⟨e,y⟩:=y;subst e;exact hs i x σ _ (y xs q) p
 ·have e:i=xs.length:=by omega
  subst e;exact .inl ⟨⟨xs,q,Dn _⟩,hd σ H p⟩
theorem ww {K:Dd}{a:Du}{xs:List V}{g:TG}{tb:TS}{D:ju}{σ:St}{H:Hp} (Pv:Nat->St->Hp->Prop) (h0:Pv 0 σ H) (hl:∀ i σ H,i <= xs.length->Pv i σ H->f7 K H a xs)
  (hs:∀ i x σ H,xs[i]?=some x->Pv i σ H->g x σ H λσ2 H2=>tb { D with nx:=Pv (i+1),ct:=Pv (i+1),bk:=D.nx } σ2 H2)(hd:∀ σ H,Pv xs.length σ H->D.nx σ H):
  ∃ W:Nat->Nat->St->Hp->Prop,(∃ m,W 0 m σ H)/\∀ i m σ H,W i m σ H ->
   ((Bl K a).stop i H/\D.nx σ H)\/((Bl K a).go i H/\∃ N:St->Hp->Prop,(∀ σ' H',N σ' H'->∃ m',m'<m/\W (i+1) m' σ' H')/\∀ x H',(Bl K a).yld i H x H'->g x σ H' λσ2 H2=>tb { D with nx:=N,ct:=N,bk:=D.nx } σ2 H2):=by
 refine⟨λi m σ H=>m=xs.length-i/\i<=xs.length/\Pv i σ H,⟨xs.length,by simp,ES _,h0⟩,?_⟩;rintro i m σ H ⟨rfl,hi,p⟩;have q:=hl i σ H hi p
 by_cases hlt:i<xs.length
 ·refine .inr ⟨⟨xs,xs[i],q,by simp[hlt]⟩,Pv (i+1),λσ' H' p'=>⟨xs.length-(i+1),by omega,rfl,hlt,p'⟩,λx H' y=>?_⟩;obtain⟨e,y⟩:=y;subst e;exact hs i x σ _ (y xs q) p
 ·have e:i=xs.length:=by omega
  subst e;exact .inl ⟨⟨xs,q,Dn _⟩,hd σ H p⟩
theorem fY {lo:Int}{n:Nat}{g:TG}{tb:TS}{D:ju}{σ:St}{H:Hp} (Pv:Nat->St->Hp->Prop) (h0:Pv 0 σ H)
  (hs:∀ i σ H,i<n->Pv i σ H->g (.int (lo+i)) σ H λσ2 H2=>tb { D with nx:=Pv (i+1),ct:=Pv (i+1),bk:=D.nx } σ2 H2)(hd:∀ σ H,Pv n σ H->D.nx σ H):
  ∃ W:Nat->Nat->St->Hp->Prop,(∃ m,W 0 m σ H)/\∀ i m σ H,W i m σ H ->
   ((vn lo n).stop i H/\D.nx σ H)\/((vn lo n).go i H/\∃ N:St->Hp->Prop,(∀ σ' H',N σ' H'->∃ m',m'<m/\W (i+1) m' σ' H')/\∀ x H',(vn lo n).yld i H x H'->g x σ H' λσ2 H2=>tb { D with nx:=N,ct:=N,bk:=D.nx } σ2 H2):=by
 refine⟨λi m σ H=>m=n-i/\i<=n/\Pv i σ H,⟨n,by simp,ES _,h0⟩,?_⟩;rintro i m σ H ⟨rfl,hi,p⟩
 by_cases hlt:i<n
 ·refine .inr ⟨hlt,Pv (i+1),λσ' H' p'=>⟨n-(i+1),by omega,rfl,hlt,p'⟩,λx H' y=>?_⟩;obtain⟨e,y⟩:=y;subst e y;exact hs i σ _ hlt p
 ·have e:i=n:=by omega
  subst e;exact .inl ⟨Dn _,hd σ H p⟩
abbrev R2:=V->V->Hp->VK->Prop
def gg (X:Cx)(f:Di->Di->Sem Di)(r:R2):Prop:=
 ∀ (pins:List (Du×Obj)) (s:Dk) (σ:St) (H:Hp) (x y:V) (v u:Di) (Q:VK),av X pins σ H s->RelV x v->RelV y u->r x y H Q ->
  Dy (DK X.prog X.w) X.A (f v u) (EP X pins σ Q) X.xe s
def Cj (X:Cx)(f:Di->Sem Di)(r:V->Hp->VK->Prop):Prop:=
 ∀ (pins:List (Du×Obj)) (s:Dk) (σ:St) (H:Hp) (x:V) (v:Di) (Q:VK),av X pins σ H s->RelV x v->r x H Q ->
  Dy (DK X.prog X.w) X.A (f v) (EP X pins σ Q) X.xe s
def br (X:Cx)(f:Di)(r:List V->Hp->VK->Prop):Prop:=
 ∀ (pins:List (Du×Obj)) (s:Dk) (σ:St) (H:Hp) (xs:List V) (us:List Di) (Q:VK),av X pins σ H s->aJ xs us->r xs H Q ->
  Dy (DK X.prog X.w) X.A (call f us) (EP X pins σ Q) X.xe s
def Bf (r:R2)(ta tb:TE):TE:=λσ H Q=>ta σ H λx H1=>tb σ H1 λy H2=>r x y H2 Q
def CO (r:V->Hp->VK->Prop)(ta:TE):TE:=λσ H Q=>ta σ H λx H1=>r x H1 Q
inductive rI (C:Int->Int->Prop)(g:Int->Int->V)(x y:V)(H:Hp)(Q:VK):Prop
 |mk (i j:Int) (_:x=.int i) (_:y=.int j) (_:C i j) (_:Q (g i j) H)
inductive vR (g:Int->Int->V)(x y:V)(H:Hp)(Q:VK):Prop
 |mk (i j:Int) (_:x=.int i) (_:y=.int j) (_:Q (g i j) H)
def rU (g:Int->V):V->Hp->VK->Prop:=λx H Q=>∃ i,x=.int i/\Q (g i) H
section
variable {X:Cx}{a b c:Fs}{ta tb tc:TE}{pos:Pos}
theorem zM (ha:PE X a ta) (hb:PE X b tb) {pins:List (Du × Obj)}{s:Dk}{σ:St}{H:Hp}{R:V->V->Hp->Prop} (I:av X pins σ H s)
  (h:ta σ H λx H1=>tb σ H1 λy H2=>R x y H2){Q:Di->Dk->Prop}{f:Di->Di->Sem Di}
  (hf:∀ v u s2 x y H2,av X pins σ H2 s2->RelV x v->RelV y u->R x y H2->Dy (DK X.prog X.w) X.A (f v u) Q X.xe s2):
  Dy (DK X.prog X.w) X.A (GI a X.env) (λv s₁=>Dy (DK X.prog X.w) X.A (GI b X.env) (λu s₂=>Dy (DK X.prog X.w) X.A (f v u) Q X.xe s₂) X.xe s₁) X.xe s:=by
 refine bo (ha pins s σ H _ I h) λv s1 ⟨x,H1,I1,r1,q1⟩=>?_
 refine bo (hb pins s1 σ H1 _ I1 q1) λu s2 ⟨y,H2,I2,r2,q2⟩=>?_
 exact hf v u s2 x y H2 I2 r1 r2 q2
theorem aA {op:Operator}{r:R2}(ho:gg X (Ie op) r)(ha:WE X a ta)(hb:WE X b tb):WE X (.BinOp a op b pos) (Bf r ta tb):=by
 have ha:=ha.go;have hb:=hb.go;refine⟨?_⟩;intro pins s σ H Q I h;exact wpAny_BinOp (zM ha hb I h λv u s2 x y H2 I2 rx ry q=>ho pins s2 σ H2 x y v u Q I2 rx ry q)
theorem u4 (ho:Cj X (unaryOp op) r)(ha:WE X a ta):WE X (.UnaryOp op a pos) (CO r ta):=by
 have ha:=ha.go;refine⟨?_⟩;intro pins s σ H Q I h;exact UnaryOp_ (bo (ha pins s σ H _ I h) λv s1 ⟨x,H1,I1,r1,q1⟩=>ho pins s1 σ H1 x v Q I1 r1 q1)
theorem Bo {f:Di->Di->Sem Di}{C:Int->Int->Prop}{g:Int->Int->Int}
  (rule:∀ (i j:Int) (t u:Tok) (s:Dk) (Q:Di->Dk->Prop) (E:Di->Dk->Prop),C i j->Q (.int (g i j) s.toks) { s with toks:=s.toks+1 }->Dy (DK X.prog X.w) X.A (f (.int i t) (.int j u)) Q E s):
  gg X f (rI C λi j=>.int (g i j)):=by
 intro pins s σ H x y v u Q I rx ry h;obtain⟨i,j,rfl,rfl,hc,q⟩:=h;obtain⟨t,rfl⟩:=rx;obtain⟨t',rfl⟩:=ry;exact rule i j t t' s _ _ hc ⟨.int (g i j),H,I.tok _,⟨_,rfl⟩,q⟩
theorem A0 {f:Di->Di->Sem Di}{g:Int->Int->Int}
  (rule:∀ (i j:Int) (t u:Tok) (s:Dk) (Q:Di->Dk->Prop) (E:Di->Dk->Prop),Q (.int (g i j) s.toks) { s with toks:=s.toks+1 }->Dy (DK X.prog X.w) X.A (f (.int i t) (.int j u)) Q E s):
  gg X f (vR λi j=>.int (g i j)):=by
 intro pins s σ H x y v u Q I rx ry h;obtain⟨i,j,rfl,rfl,q⟩:=h;obtain⟨t,rfl⟩:=rx;obtain⟨t',rfl⟩:=ry;exact rule i j t t' s _ _ ⟨.int (g i j),H,I.tok _,⟨_,rfl⟩,q⟩
theorem sP {f:Di->Di->Sem Di}{g:Int->Int->Bool}
  (rule:∀ (i j:Int) (t u:Tok) (s:Dk) (Q:Di->Dk->Prop) (E:Di->Dk->Prop),Q (.bool (g i j)) s->Dy (DK X.prog X.w) X.A (f (.int i t) (.int j u)) Q E s):
  gg X f (vR λi j=>.bl (g i j)):=by
 intro pins s σ H x y v u Q I rx ry h;obtain⟨i,j,rfl,rfl,q⟩:=h;obtain⟨t,rfl⟩:=rx;obtain⟨t',rfl⟩:=ry;exact rule i j t t' s _ _ ⟨.bl (g i j),H,I,rfl,q⟩
def B' (i j:Int):Prop:=0<=j/\j<=1000000/\i.natAbs<2^64
theorem ce:gg X (Ie .Add) (vR λi j=>.int (i+j)):=A0 λ_ _ _ _ _ _ _ q=>add_int q
theorem kX:gg X (Ie .Sub) (vR λi j=>.int (i-j)):=A0 λ_ _ _ _ _ _ _ q=>sub_int q
theorem h_:gg X (Ie .Mod) (rI (λ_ j=>0<j) λi j=>.int (i%j)):=Bo λi j _ _ _ _ _ hc q=>by
 have h1:(0:Int)<j:=hc;exact mod_int' (by omega) (by rw[Int.fmod_eq_emod_of_nonneg i (by omega)];exact q)
theorem vQ:gg X (Ie .Pow) (rI B' λi j=>.int (i^j.toNat)):=Bo λ_ _ _ _ _ _ _ hc q=>pow_int_small hc.1 hc.2.1 hc.2.2 q
theorem CY {f:Di->Sem Di}{g:Int->Int}
  (rule:∀ (i:Int) (t:Tok) (s:Dk) (Q:Di->Dk->Prop) (E:Di->Dk->Prop),Q (.int (g i) s.toks) { s with toks:=s.toks+1 }->Dy (DK X.prog X.w) X.A (f (.int i t)) Q E s):
  Cj X f (rU λi=>.int (g i)):=by
 intro pins s σ H x v Q I rx h;obtain⟨i,rfl,q⟩:=h;obtain⟨t,rfl⟩:=rx;exact rule i t s _ _ ⟨.int (g i),H,I.tok _,⟨_,rfl⟩,q⟩
theorem uJ:Cj X (unaryOp .USub) (rU λi=>.int (-i)):=CY λ_ _ _ _ _ q=>neg_int q
end
section
variable {X:Cx}{a b c:Fs}{ta tb tc:TE}{pos:Pos}
theorem uq (I:av X pins σ H s)(q:Q (.bl k) H)(e:k=k'):EP X pins σ Q (.bool k') s:=by
 subst e;exact⟨.bl k,H,I,rfl,q⟩
theorem yd:gg X (Fk .Lt) (vR λi j=>.bl (decide (i<j))):=sP λ_ _ _ _ _ _ _ q=>lt_int q
theorem iI:gg X (Fk .LtE) (vR λi j=>.bl (decide (i<=j))):=sP λ_ _ _ _ _ _ _ q=>le_int q
theorem rE:gg X (Fk .Gt) (vR λi j=>.bl (decide (j<i))):=sP λ_ _ _ _ _ _ _ q=>gt_int q
theorem Aw:gg X (Fk .GtE) (vR λi j=>.bl (decide (j<=i))):=sP λ_ _ _ _ _ _ _ q=>ge_int q
theorem sX:gg X (Fk .In) (λx y H Q=>∃ i j,x=.str i/\y=.str j/\Q (.bl (!(FH j i 0 j.length 1).isEmpty)) H):=by
 intro pins s σ H x y v u Q I rx ry h;obtain⟨i,j,rfl,rfl,q⟩:=h;obtain⟨t,rfl⟩:=rx;obtain⟨t',rfl⟩:=ry;exact in_str (uq I q rfl)
theorem yi:gg X (Fk .Is) (λx y H Q=>y=.non/\Q (.bl (decide (x=.non))) H):=by
 intro pins s σ H x y v u Q I rx ry h;obtain⟨rfl,q⟩:=h;cases ry;refine is_none_gen (uq I q ?_);cases x<;>first
  |(cases rx;rfl)
  |(obtain⟨t,rfl⟩:=rx;rfl)
theorem aS (b:Fs)(h:op≠.In:=by decide)(h2:op≠.NotIn:=by decide):J7 op b=false:=by
 have e1:(op==CmpOp.In)=false:=by cases op<;>first|rfl|exact absurd rfl h
 have e2:(op==CmpOp.NotIn)=false:=by cases op<;>first|rfl|exact absurd rfl h2
 cases b<;>simp[J7,e1,e2]
theorem dv (ho:gg X (Fk op) r)(ha:WE X a ta)(hb:WE X b tb)(hm:J7 op b=false):WE X (.Compare a [op] [b] pos) (Bf r ta tb):=by
 have ha:=ha.go;have hb:=hb.go;refine⟨?_⟩;intro pins s σ H Q I h;exact wpAny_Compare1 (zM ha hb I h λv u s2 x y H2 I2 rx ry q=>ho pins s2 σ H2 x y v u Q I2 rx ry q) hm
def xX (t:TE):TT:=λσ H Q=>t σ H λx H'=>CL x H' Q
theorem aH (ho:gg X (Fk op) r)(ha:WE X a ta)(hb:WE X b tb)(hm:J7 op b=false):WT X (.Compare a [op] [b] pos) (xX (Bf r ta tb)):=by
 have ha:=ha.go;have hb:=hb.go;refine⟨?_⟩;intro pins s σ H Q I h;refine wpAny_isTrue_Compare1 (bo (ha pins s σ H _ I h) λv s1 ⟨x,H1,I1,r1,q1⟩=>bo (hb pins s1 σ H1 _ I1 q1) λu s2 ⟨y,H2,I2,r2,q2⟩=>
  bo (ho pins s2 σ H2 x y v u _ I2 r1 r2 q2) λc s3 ⟨z,H3,I3,r3,k,e,q3⟩=>?_) hm
 subst e;cases r3;exact Fg ⟨H3,I3,q3⟩
def ut (r r':R2)(ta tb tc:TE):TE:=λσ H Q=>ta σ H λx H1=>tb σ H1 λy H2=>r x y H2 λz H3=>∃ k,z=.bl k /\
 (if k=true then tc σ H3 λw' H4=>r' y w' H4 Q else Q (.bl false) H3)
theorem r6 (ho:gg X (Fk op) r) (ho':gg X (Fk op') r') (ha:WE X a ta) (hb:WE X b tb) (hc:WE X c tc)
  (hm:lastMarks [op,op'] [b,c]=false:=by with_unfolding_all rfl):WE X (.Compare a [op,op'] [b,c] pos) (ut r r' ta tb tc):=by
 have ha:=ha.go;have hb:=hb.go;have hc:=hc.go;refine⟨?_⟩;intro pins s σ H Q I h;refine Compare_chain (bo (ha pins s σ H _ I h) λv s1 ⟨x,H1,I1,r1,q1⟩=>chain_link (bo (hb pins s1 σ H1 _ I1 q1) λu s2 ⟨y,H2,I2,r2,q2⟩=>
  bo (ho pins s2 σ H2 x y v u _ I2 r1 r2 q2) λd s3 ⟨z,H3,I3,r3,k,e,q3⟩=>?_)) hm
 subst e;cases r3;refine Fg ?_;cases k with
 |false=>exact ite_ff ⟨.bl false,H3,I3,rfl,q3⟩
 |true=>exact ite_tt (chain_last (bo (hc pins s3 σ H3 _ I3 q3) λw' s4 ⟨z',H4,I4,r4,q4⟩=>ho' pins s4 σ H4 y z' u w' Q I4 r2 r4 q4))
theorem iY (ho:gg X (Fk op) r) (ho':gg X (Fk op') r') (ha:WE X a ta) (hb:WE X b tb) (hc:WE X c tc)
  (hm:lastMarks [op,op'] [b,c]=false:=by with_unfolding_all rfl):WT X (.Compare a [op,op'] [b,c] pos) (xX (ut r r' ta tb tc)):=by
 have ha:=ha.go;have hb:=hb.go;have hc:=hc.go;refine⟨?_⟩;intro pins s σ H Q I h;refine isTrue_chain (bo (ha pins s σ H _ I h) λv s1 ⟨x,H1,I1,r1,q1⟩=>test_link (bo (hb pins s1 σ H1 _ I1 q1) λu s2 ⟨y,H2,I2,r2,q2⟩=>
  bo (ho pins s2 σ H2 x y v u _ I2 r1 r2 q2) λd s3 ⟨z,H3,I3,r3,k,e,q3⟩=>?_)) hm
 subst e;cases r3;refine Fg ?_;cases k with
 |false=>
  obtain⟨k',e',q'⟩:=q3;cases e';exact ite_ff ⟨H3,I3,q'⟩
 |true=>
  refine ite_tt (test_last (bo (hc pins s3 σ H3 _ I3 q3) λw' s4 ⟨z',H4,I4,r4,q4⟩=>bo (ho' pins s4 σ H4 y z' u w' _ I4 r2 r4 q4) λd' s5 ⟨z2,H5,I5,r5,k2,e2,q5⟩=>?_));subst e2;cases r5;exact Fg ⟨H5,I5,q5⟩
theorem hU:(Ds:Nat)<2^63:=by rw[EZ];decide
theorem eU:gg X (Ie .Add) (λx y H Q=>∃ i j,x=.str i/\y=.str j/\i.length+j.length<=Ds/\Q (.str (i++j)) H):=by
 intro pins s σ H x y v u Q I rx ry h;obtain⟨i,j,rfl,rfl,hz,q⟩:=h;obtain⟨t,rfl⟩:=rx;obtain⟨t',rfl⟩:=ry;exact add_str (λt' tk=>⟨.str (i++j),H,I.tok _,⟨_,rfl⟩,q⟩) hz
theorem fk (r:aJ [x] us):∃ u,us=[u]/\RelV x u:=by
 cases r with
 |cons r1 r2=>cases r2;exact⟨_,rfl,r1⟩
theorem iB (r:aJ [x,y] us):∃ u w',us=[u,w']/\RelV x u/\RelV y w':=by
 cases r with
 |cons r1 r2=>
  cases r2 with
  |cons r3 r4=>cases r4;exact⟨_,_,rfl,r1,r3⟩
theorem sw (hc:X.calm=true):br X (.builtin "max") (λxs H Q=>∃ i j,xs=[.int i,.int j]/\Q (.int (if j>i then j else i)) H):=by
 intro pins s σ H xs us Q I r h;obtain⟨i,j,rfl,q⟩:=h;obtain⟨u,w',rfl,⟨t,rfl⟩,⟨t',rfl⟩⟩:=iB r;refine max_two_ints (I.ok.hd hc) λh' tk k=>⟨_,H,I.kept k,?_,q⟩
 by_cases hj:j>i
 ·rw[Ee hj,Ee hj];exact⟨_,rfl⟩
 ·rw[DS hj,DS hj];exact⟨_,rfl⟩
theorem i' (hc:X.calm=true):br X (.builtin "min") (λxs H Q=>∃ i j,xs=[.int i,.int j]/\Q (.int (if j<i then j else i)) H):=by
 intro pins s σ H xs us Q I r h;obtain⟨i,j,rfl,q⟩:=h;obtain⟨u,w',rfl,⟨t,rfl⟩,⟨t',rfl⟩⟩:=iB r;refine min_two_ints (I.ok.hd hc) λh' tk k=>⟨_,H,I.kept k,?_,q⟩
 by_cases hj:j<i
 ·rw[Ee hj,Ee hj];exact⟨_,rfl⟩
 ·rw[DS hj,DS hj];exact⟨_,rfl⟩
theorem mZ:br X (.type "str") (λxs H Q=>∃ i,xs=[.int i]/\i.natAbs.log2<1920/\Q (.str (toString i)) H):=by
 intro pins s σ H xs us Q I r h;obtain⟨i,rfl,hz,q⟩:=h;obtain⟨u,rfl,t,rfl⟩:=fk r;exact PySem.P.str_of_int hz ⟨.str _,H,I.tok _,⟨_,rfl⟩,q⟩
end
structure ql (h:Fp)(x dx C:Du)(mA:Str->Option Di):Prop where
 obj:h.get? x=some (FR C dx)
 ns:h.Ns1 dx mA
 ne:dx≠x
theorem sF {h:Fp}{dx:Du}{mA:Str->Option Di}(n:h.Ns1 dx mA):∃ od,h.get? dx=some od/\∀ name,Jq name od=some (mA name):=by
 obtain⟨o,es,ep,ho,hd,hk,_,hm⟩:=n;refine⟨o,ho,λname=>?_⟩;have e:=hm name;unfold nsFind findBy at e;rw[<- Array.find?_toList] at e;unfold Jq;rw[hd];dsimp only
 split
 ·rename_i y q
  rw[q] at e;exact FS some e
 ·rename_i q
  rw[q] at e;have a:es.toList.any (·.refKey)=false:=by
   rw[List.any_eq_false];intro y hy;obtain⟨z,t,hkey⟩:=hk y (Array.mem_toList_iff.mp hy);simp[DictEntry.refKey,hkey]
  have a':¬ es.toList.any (·.refKey)=true:=by rw[a];exact DM
  rw[DS a'];exact FS some e
theorem ql.look (I:ql h x dx C mA):∃ od,PySem.W.InstAt h x (FR C dx) C (some od)/\∀ name,Jq name od=some (mA name):=
 let ⟨od,ho,hl⟩:=sF I.ns
 ⟨od,⟨I.obj,rfl,rfl,ho⟩,hl⟩
section
variable {prog:DN}{w:Ez}{A:EK}{E:Di->Dk->Prop}{s:Dk}{K:Dd}{x dx C f:Du}{mA:Str->Option Di}{name:Str}{v:Di}
theorem xQ (X:K.In s.heap) (I:ql s.heap x dx C mA) (hg:Hi K C name=true) (hh:HZ K C=true)
  (ha:Eb K (.ref C) name=some none)(hv:mA name=some v)(hv':Ml v=true)(h:Q v { s with toks:=s.toks+1 }):
  Dy (DK prog w) A (getAttr (.ref x) name expr) Q E s:=by
 obtain⟨od,J,hl⟩:=I.look;exact PySem.W.get_value X J (IR hg).1 (PySem.W.findObj_own hh ha rfl (by rw[hl,hv])) hv' h
theorem vb (X:K.In s.heap) (I:ql s.heap x dx C mA) (hg:Hi K C name=true)
  (hf:Eb K (.ref C) name=some (some (.ref f)))(ht:Ij K (.ref f)=true)(hv:mA name=none)(h:Q (.ref f,[.ref x]) s):
  Dy (DK prog w) A (getMethod (.ref x) name pl) Q E s:=by
 obtain⟨od,J,hl⟩:=I.look;exact PySem.W.method_fn X J (IR hg).1 (IR hg).2 hf (EV.mp ht) (by show(Jq name od).map (·.isSome)=some false;rw[hl,hv];rfl) h
theorem xF (X:K.In s.heap) (I:ql s.heap x dx C mA)
  (hs:Eb K (.ref C) "__setattr__"=some (some (.builtin "object.__setattr__")))(hp:JE K C=true)(ht:KG K C name=some none)(hh:HZ K C=true)
  (hw:Mf mA ns)(hsz:ns.length<=Ds)
  (h:∀ h',ql h' x dx C (λy=>if y=name then some v else mA y)->Ew dx s.heap h'->Q () { s with heap:=h',toks:=s.toks+2 }):
  Dy (DK prog w) A (setAttr (.ref x) name v) Q E s:=by
 obtain⟨od,J,hl⟩:=I.look;refine PySem.W.set_plain X J hs (PySem.W.osa_open (s:={ s with toks:=s.toks+1 }) (r:=none) X J hp ht λb=>?_);obtain⟨cd,hc,hd'⟩:=PySem.W.any_some hh;have hx:s.heap.get? x=some ⟨.ref C,some dx,.plain,#[]⟩:=I.obj;refine De (Dg (De (De (wpAny_loadPart hx (De (PySem.W.Looks.here (s:={ s with toks:=s.toks+1 }) (PySem.W.looks_clsIn X hc) ?_))))));rw[hd'];refine Dg (a:=some dx) (De (Dg (De ?_)));refine wpAny_nsSet1 (s:={ s with toks:=s.toks+1 }) I.ns λh' hn2 hs2=>?_
 obtain⟨oD,esD,epD,hoD,hdD,hcD⟩:=hn2.count (PySem.Within.cons name v hw);refine De (wpAny_lookBehind hoD (by rw[hdD];exact pastItsLine_dict (Dt hcD (by rw[Et];omega))) ?_);exact Dg (h _ ⟨(hs2.2 _ (Fj I.ne)).trans I.obj,hn2,I.ne⟩ hs2)
theorem uF (X:K.In s.heap) (hm:IQ K C=true)
  (hi:Eb K (.ref C) "__init__"=some (some (.ref f)))(hf:FJ K (.ref f)=some (.type "function"))
  (h:Gq (DK prog w) (A.under (.builtin "type.__call__" ⟨.ref C::vs,kw⟩)) (.call (.ref f) ⟨.ref (s.heap.objs.size+1)::vs,kw⟩) (PySem.W.InitBack (s.heap.objs.size+1) R)
   { s with heap:=(s.heap.push Ff).push (FR C s.heap.objs.size) }) :
  Gq (DK prog w) A (.call (.ref C) ⟨vs,kw⟩) R s:=by
 obtain⟨hh,g,d,t,os⟩:=s;exact PySem.W.make_core (PySem.W.makes_of X hm) (G7 X hi) (λself=>PySem.W.bind_fn X self hf) (.inl rfl) h
end
def cQ (f:Str)(v:V):List (Str×V)->List (Str×V)
 |[]=>[(f,v)]
 |(g,x)::r=>if g=f then(g,v)::r else(g,x)::cQ f v r
theorem jk (f g:Str)(v:V):∀ fs:List (Str×V),(cQ f v fs).lookup g=if g=f then some v else fs.lookup g
 |[]=>by
  show GM g [(f,v)]=_
  by_cases h:g=f
  ·have hb:(g==f)=true:=EV.mpr h;simp only[GM,hb,Ee h]
  ·have hb:(g==f)=false:=ET.mpr h;simp only[GM,hb,DS h]
 |(k,x)::r=>by
  have ih:=jk f g v r;rw[show cQ f v ((k,x)::r)=(if k=f then(k,v)::r else(k,x)::cQ f v r) from rfl]
  by_cases hk:k=f
  ·rw[Ee hk]
   by_cases h:g=k
   ·have hb:(g==k)=true:=EV.mpr h;simp only[GM,hb,Ee (h.trans hk)]
   ·have hb:(g==k)=false:=ET.mpr h;simp only[GM,hb,DS (λe:g=f=>h (e.trans hk.symm))]
  ·rw[DS hk]
   by_cases h:g=k
   ·have hb:(g==k)=true:=EV.mpr h;simp only[GM,hb,DS (λe:g=f=>hk (h.symm.trans e))]
   ·have hb:(g==k)=false:=ET.mpr h;simp only[GM,hb];exact ih
theorem i7 (f:Str)(v:V):∀ fs:List (Str×V),f∈(cQ f v fs).map (·.1)/\∀ g,g∈fs.map (·.1)->g∈(cQ f v fs).map (·.1)
 |[]=>⟨by simp[cQ],λg h=>by simp at h⟩
 |(k,x)::r=>by
  obtain⟨i1,i2⟩:=i7 f v r;rw[show cQ f v ((k,x)::r)=(if k=f then(k,v)::r else(k,x)::cQ f v r) from rfl]
  by_cases hk:k=f
  ·rw[Ee hk];subst hk;exact⟨by simp,λg h=>by simpa using h⟩
  ·rw[DS hk];refine⟨?_,λg h=>?_⟩
   ·rw[DP];exact Do _ i1
   ·rw[DP] at h ⊢;rcases Dx.mp h with e|e
    ·exact Dx.mpr (.inl e)
    ·exact Do _ (i2 g e)
theorem ji (f:Str)(v:V):∀ fs:List (Str×V),(cQ f v fs).length<=fs.length+1
 |[]=>by simp[cQ]
 |(k,x)::r=>by
  have ih:=ji f v r;rw[show cQ f v ((k,x)::r)=(if k=f then(k,v)::r else(k,x)::cQ f v r) from rfl]
  by_cases hk:k=f
  ·rw[Ee hk,Et,Et];omega
  ·rw[DS hk,Et,Et];omega
theorem gu.some_of (r:gu (some v) o):∃ u,o=some u/\RelV v u:=by
 cases o with
 |none=>exact(show False from r).elim
 |some u=>exact⟨u,rfl,r⟩
theorem gu.none_of (r:gu none o):o=none:=by
 cases o with
 |none=>rfl
 |some u=>exact(show False from r).elim
theorem rW (r:RelV v u):Ml u=true:=by
 cases v with
 |non=>cases(show u=D_ from r);rfl
 |bl b=>cases(show u=IA b from r);rfl
 |int i=>obtain⟨t,e⟩:=(show ∃ t,u=Hf i t from r);cases e;rfl
 |str x=>obtain⟨t,e⟩:=(show ∃ t,u=KI x t from r);cases e;rfl
 |byt b=>obtain⟨t,e⟩:=(show ∃ t,u=Value.bytes b t from r);cases e;rfl
 |flt b=>obtain⟨t,e⟩:=(show ∃ t,u=Mz b t from r);cases e;rfl
 |ref a=>cases(show u=DQ a from r);rfl
 |ty n=>cases(show u=FM n from r);rfl
section
variable {P:DN}{w:Ez}{H H':Hp}{h h':Fp}{a C dx:Du}{fs fs':List (Str×V)}
theorem jY (hok:gm P w H h)(e:H a=some (.ins C dx fs)):∃ mA,ql h a dx C mA/\(∀ f,gu (fs.lookup f) (mA f))/\Mf mA (fs.map (·.1))/\fs.length<=1000/\H dx=some (.own a):=by
 obtain⟨d,z,ne,ob,mA,n,r,q⟩:=(show be P w H h a (.ins C dx fs) from hok a _ e)
 exact⟨mA,⟨ob,n,ne⟩,r,q,z,d⟩
end
structure yU (K:Dd)(C:Du):Prop where
 pg:Hi K C Str.empty=true
 hd:HZ K C=true
 po:JE K C=true
 sa:Eb K (.ref C) "__setattr__"=some (some (.builtin "object.__setattr__"))
theorem yU.get {K:Dd}{C:Du}(c:yU K C)(f:Str):Hi K C f=true:=c.pg
def kJ (K:Dd)(C:Du)(f:Str):Prop:=Eb K (.ref C) f=some none
theorem kJ.taker {K:Dd}{C:Du}{f:Str}(n:kJ K C f):KG K C f=some none:=by
 unfold KG;rw[show Eb K (.ref C) f=some none from n];rfl
structure zW (K:Dd)(C:Du)(m:Str)(f:Du):Prop where
 at_:Eb K (.ref C) m=some (some (.ref f))
 fn:Ij K (.ref f)=true
 kp:EL K (.ref f)=true
section
variable {X:Cx}{pins:List (Du×Obj)}{σ:St}{H:Hp}{s:Dk}{a C dx:Du}{fs:List (Str×V)}{f:Str}{v:V}{A:EK}{E:Di->Dk->Prop}
theorem qe (I:av X pins σ H s) (e:H a=some (.ins C dx fs)) (c:yU X.K C) (n:kJ X.K C f) (l:fs.lookup f=some v)
  (h:∀ u s',av X pins σ H s'->RelV v u->Q u s'):Dy (DK X.prog X.w) A (getAttr (.ref a) f b) Q E s:=by
 obtain⟨mA,O,r,_,_,_⟩:=jY I.hok e;obtain⟨u,hu,ru⟩:=gu.some_of (v:=v) (o:=mA f) (by rw[<- l];exact r f);exact xQ I.kIn O (c.get f) c.hd n hu (rW ru) (h u _ (I.tok _) ru)
theorem kN (I:av X pins σ H s) (e:H a=some (.ins C dx fs)) (c:yU X.K C) (k:zW X.K C m g) (l:fs.lookup m=none)
  (h:Q (.ref g,[.ref a]) s):Dy (DK X.prog X.w) A (getMethod (.ref a) m pl) Q E s:=by
 obtain⟨mA,O,r,_,_,_⟩:=jY I.hok e;have hn:mA m=none:=gu.none_of (by rw[<- l];exact r m);exact vb I.kIn O (c.get m) k.at_ k.fn hn h
theorem qF (I:av X pins σ H s) (e:H a=some (.ins C dx fs)) (c:yU X.K C) (n:kJ X.K C f) (hl:fs.length < 1000) (ry:RelV y u)
  (h:∀ s',av X pins σ (upd H a (.ins C dx (cQ f y fs))) s'->Q () s'):Dy (DK X.prog X.w) A (setAttr (.ref a) f u) Q E s:=by
 obtain⟨mA,O,r,wi,_,ho⟩:=jY I.hok e;have hz:(fs.map (·.1)).length<=Ds:=by rw[Dh,EZ];omega
 refine xF I.kIn O c.sa c.po n.taker c.hd wi hz λh' O' sb=>h _ ?_
 have hd:∃ o,h'.get? dx=some o:=let ⟨o,_,_,e',_⟩:=O'.ns;⟨o,e'⟩
 refine I.write (x:=a) (e:=dx) (by rw[e];exact True.intro) (.inr ho) (λb q hb z=>(sb.2 b hb).trans z) hd ?_;refine⟨by rw[ap O.ne];exact ho,?_,O.ne,O'.obj,_,O'.ns,λg=>?_,λg hg=>?_⟩
 ·have:=ji f y fs;omega
 ·show gu ((cQ f y fs).lookup g) (if g=f then some u else mA g);rw[jk]
  by_cases q:g=f
  ·rw[Ee q,Ee q];exact ry
  ·rw[DS q,DS q];exact r g
 ·by_cases q:g=f
  ·rw[q];exact(i7 f y fs).1
  ·refine(i7 f y fs).2 g (wi g λz=>hg ?_);show(if g=f then some u else mA g)=none;rw[DS q];exact z
theorem av.made (I:av X pins σ H s):av X pins σ (upd (upd H s.heap.objs.size (.own (s.heap.objs.size + 1))) (s.heap.objs.size + 1) (.ins C s.heap.objs.size []))
  { s with heap:=(s.heap.push Ff).push (FR C s.heap.objs.size) }:=by
 have e1:(s.heap.push Ff).get? s.heap.objs.size=some Ff:=Dl s.heap rfl;have e2:((s.heap.push Ff).push (FR C s.heap.objs.size)).get? (s.heap.objs.size+1)=some (FR C s.heap.objs.size):=by
  have:=Dl (s.heap.push Ff) (o:=FR C s.heap.objs.size) rfl
  rwa [EA] at this
 have e3:(s.heap.push Ff).Ns s.heap.objs.size (λ_=>none):=⟨Ff,#[],_,e1,rfl,(λe he=>absurd he (by simp)),λ_=>rfl⟩
 have I1:=I.laid (a:=s.heap.objs.size) (o:=.own (s.heap.objs.size+1)) (h':=s.heap.push Ff) (t':=s.toks) (λb u q=>Df _ q) (Dn _) ⟨_,e1⟩;refine I1.laid (a:=s.heap.objs.size+1) (o:=.ins C s.heap.objs.size []) (t':=s.toks) (λb u q=>Df _ q) (Nat.le_of_eq (EA _ _)) ?_;have ne:s.heap.objs.size≠s.heap.objs.size+1:=DI (FG _);refine⟨by rw[ap ne,ac],ES _,ne,e2,λ_=>none,(Heap.Ns1.of_empty e3).at λo q=>Df _ q,λ_=>True.intro,λy hy=>absurd rfl hy⟩
theorem wQ (hb:Iz e f env (GI e env)=GI e env)
  (h:Dy (DK prog w) A (GI e env) (λo s₁=>Dy (DK prog w) A (getAttr o f true) Q E s₁) E s):Dy (DK prog w) A (GI (.Attribute e f pos) env) Q E s:=
 Attribute_any_ h (by rw[arm_eval_Attribute,hb])
end
section
variable {X:Cx}{pins:List (Du×Obj)}{σ:St}{H:Hp}{s:Dk}{A:EK}{E:Di->Dk->Prop}{Q:Di->Dk->Prop}{c:Di}{b:Bool}
inductive iC (K:Dd)(H:Hp):V->Di->Prop where
 |non:iC K H .non (.type "NoneType")
 |bl (x:Bool):iC K H (.bl x) (.type "bool")
 |int (i:Int):iC K H (.int i) (.type "int")
 |str (x:Str):iC K H (.str x) (.type "str")
 |flt (x:UInt64):iC K H (.flt x) (.type "float")
 |lst {a:Du}{xs:List V} (e:H a=some (.lst xs)):iC K H (.ref a) (.type "list")
 |frz {a:Du}{o:Obj}{xs:List V} (e:H a=some (.frz o (.lst xs))):iC K H (.ref a) (.type "list")
 |tup {a:Du}{xs:List V} (e:H a=some (.tup xs)):iC K H (.ref a) (.type "tuple")
 |dK {a:Du}{kvs:List (cU×V)} (e:H a=some (.dK kvs)):iC K H (.ref a) (.type "dict")
 |dT {a:Du}{kvs:List (List cU×V)} (e:H a=some (.dT kvs)):iC K H (.ref a) (.type "dict")
 | ins {a C dx:Du}{fs:List (Str × V)} (e:H a=some (.ins C dx fs)) (cl:yU K C) (ha:Eb K (.ref C) "__class__"=some (some (.builtin "object.__class__")))
   (hn:H_ K (.builtin "object.__class__") "__get__"=some (some (.builtin "getset_descriptor.__get__")))(htk:IS K (.builtin "object.__class__")=some true)
   (hm:HI K C (.type "object")=some true):iC K H (.ref a) (.ref C)
theorem zV (I:av X pins σ H s)(rx:RelV x u)(ty:iC X.K H x t):∃ Z,PySem.W.KitX X.K u t Z/\Z s.heap/\u≠.builtin "__main__.__loader__#opaque":=by
 cases ty with
 |non=>cases(show u=D_ from rx);exact⟨_,PySem.W.kitx_none,True.intro,λz=>nomatch z⟩
 |bl y=>cases(show u=IA y from rx);exact⟨_,PySem.W.kitx_bool,True.intro,λz=>nomatch z⟩
 |int i=>obtain⟨t,q⟩:=(show ∃ t,u=Hf i t from rx);cases q;exact⟨_,PySem.W.kitx_int,True.intro,λz=>nomatch z⟩
 |str y=>obtain⟨t,q⟩:=(show ∃ t,u=KI y t from rx);cases q;exact⟨_,PySem.W.kitx_str,True.intro,λz=>nomatch z⟩
 |flt y=>obtain⟨t,q⟩:=(show ∃ t,u=Mz y t from rx);cases q;exact⟨_,PySem.W.kitx_float,True.intro,λz=>nomatch z⟩
 |@lst a xs ea=>
  cases(show u=DQ a from rx);obtain⟨_,_,n,_,h1⟩:=(show be X.prog X.w H s.heap a (.lst xs) from I.hok a _ ea)
  exact⟨_,LW,⟨_,h1,rfl⟩,λz=>nomatch z⟩
 |@frz a ob xs ea=>
  cases(show u=DQ a from rx);obtain⟨_,_,_,n,_,h1⟩:=(show be X.prog X.w H s.heap a (.frz ob (.lst xs)) from I.hok a _ ea)
  exact⟨_,LW,⟨_,h1,rfl⟩,λz=>nomatch z⟩
 |@tup a xs ea=>
  cases(show u=DQ a from rx);obtain⟨_,_,_,p⟩:=(show be X.prog X.w H s.heap a (.tup xs) from I.hok a _ ea)
  obtain⟨o,h1,h2,_⟩:=p;exact⟨_,Ly,⟨o,h1,h2⟩,λz=>nomatch z⟩
 |@dK a kvs ea=>
  cases(show u=DQ a from rx);obtain⟨_,_,vs,_,p⟩:=(show be X.prog X.w H s.heap a (.dK kvs) from I.hok a _ ea)
  obtain⟨o,es,ep,h1,h2,_⟩:=p;exact⟨_,LV,⟨o,h1,h2.1⟩,λz=>nomatch z⟩
 |@dT a kvs ea=>
  cases(show u=DQ a from rx);obtain⟨_,_,xs,_,o,es,ep,h1,h2,_⟩:=(show be X.prog X.w H s.heap a (.dT kvs) from I.hok a _ ea)
  exact⟨_,LV,⟨o,h1,h2.1⟩,λz=>nomatch z⟩
 |@ins a C dx fs ea cl ha hn htk hm=>
  cases(show u=DQ a from rx);obtain⟨mA,O,_⟩:=jY I.hok ea;obtain⟨od,J,_⟩:=O.look;exact⟨_,(PySem.W.kitx_own (cl.get _) cl.hd ha hn htk hm),J,λz=>nomatch z⟩
theorem eE (I:av X pins σ H s) (rx:RelV x u) (ty:iC X.K H x t) (e:E5 X.K t c=some b) (h:∀ tk,Q (.bool b) { s with toks:=tk }) :
  Dy (DK X.prog X.w) A (call (.builtin "isinstance") [u,c]) Q E s:=by
 obtain⟨Z,a,b,c⟩:=zV I rx ty;exact KD a I.kIn b e c h
end
structure Room (k:Nat)(A:EK):Prop where
 hd:A.handled=none
 dp:A.depth+3*k+5<recursionLimit
 un:A.units+16*k+200<cLine
theorem Room.mono {j k:Nat}(r:Room k A)(h:j<=k):Room j A:=⟨r.hd,by have:=r.dp;omega,by have:=r.un;omega⟩
theorem Room.deeper {k:Nat}(r:Room (k+1) A)(env:Env):Room k (A.deeper env):=
 ⟨r.hd,by have:=r.dp;show A.depth+1+3*k+5<_;omega,by have:=r.un;show A.units+3+16*k+200<_;omega⟩
theorem qL {A:EK}{C:Du}{us:List Di}{kw:List (Str×Di)}:(A.under (.builtin "type.__call__" ⟨.ref C::us,kw⟩)).depth=A.depth+1:=by
 first|rfl|simp[L7,Code.weight,Code.isCreation,Code.isGuard,Code.isCaller,Code.frames,L_,guardIds]
theorem qS {A:EK}{C:Du}{us:List Di}{kw:List (Str×Di)}:(A.under (.builtin "type.__call__" ⟨.ref C::us,kw⟩)).units=A.units+1:=by
 first|rfl|simp[L7,Code.cUnits,Code.frames,L_]
theorem Room.make {k:Nat}(r:Room (k+1) A)(C:Du)(us:List Di)(kw:List (Str×Di)):Room k (A.under (.builtin "type.__call__" ⟨.ref C::us,kw⟩)):=
 ⟨r.hd,by have:=r.dp;rw[qL];omega,by have:=r.un;rw[qS];omega⟩
theorem Room.depth {k:Nat}(r:Room k A):A.depth<recursionLimit:=by have:=r.dp;omega
theorem Room.units {k:Nat}(r:Room k A):A.units+64<cLine:=by have:=r.un;omega
def u7:TA:=λ_ H Q=>Q [] H
def mj (ta:TE)(tr:TA):TA:=λσ H Q=>ta σ H λx H1=>tr σ H1 λxs H2=>Q (x::xs) H2
section
variable {X:Cx}{e:Fs}{es:List Fs}{te:TE}{t:TA}{pos:Pos}
theorem aV:WA X [] u7:=by
 exact⟨λ_ _ _ _ H Q I h=>HU ⟨[],H,I,.nil,h⟩⟩
theorem aa (ha:WE X e te)(hr:WA X es t)(hs:DO (e::es) X.env=(false,GI e X.env)::DO es X.env:=by rfl):WA X (e::es) (mj te t):=by
 have ha:=ha.go;have hr:=hr.go;refine⟨?_⟩;intro pos pins s σ H Q I h;rw[hs];show Dy _ _ (spliced ((false,GI e X.env)::HJ pos (DO es X.env))) _ _ s;refine FX (bo (ha pins s σ H _ I h) λu s1 ⟨x,H1,I1,r1,q1⟩=>?_);exact bo (hr pos pins s1 σ H1 _ I1 q1) λus s2 ⟨xs,H2,I2,r2,q2⟩=>⟨x::xs,H2,I2,.cons r1 r2,q2⟩
def B3 (t:TA):TE:=λσ H Q=>t σ H λxs H1=>xs.length<=Ds/\∀ p,H1 p=none->Q (.ref p) (upd H1 p (.tup xs))
def Ck (t:TA):TE:=λσ H Q=>t σ H λxs H1=>xs.length<=Ds/\∀ p,H1 p=none->Q (.ref p) (upd H1 p (.lst xs))
theorem cL {x1}(h:WA X es t):WE X (.Tuple es x1 pos) (B3 t):=by
 have h:=h.go;refine⟨?_⟩;intro pins s σ H Q I hq;refine wpAny_Tuple_spliced (bo (h pos pins s σ H _ I hq) λus s1 ⟨xs,H1,I1,r,z,q⟩=>⟨by rw[<- r.length];exact z,?_⟩);have hf:H1 s1.heap.objs.size=none:=I1.hok.fresh (Dn _);refine⟨.ref s1.heap.objs.size,upd H1 s1.heap.objs.size (.tup xs),I1.laid (t':=s1.toks) (λb u e=>Df _ e) (Dn _) ?_,rfl,q _ hf⟩;exact⟨z,us,r,⟨_,Dl _ rfl,rfl,_,rfl⟩⟩
theorem aX (h:WA X es t):WE X (.List es pos) (Ck t):=by
 have h:=h.go;refine⟨?_⟩;intro pins s σ H Q I hq;refine wpAny_List_spliced (bo (h pos pins s σ H _ I hq) λus s1 ⟨xs,H1,I1,r,z,q⟩=>⟨by rw[<- r.length];exact z,?_⟩);have hf:H1 s1.heap.objs.size=none:=I1.hok.fresh (Dn _);refine⟨.ref s1.heap.objs.size,upd H1 s1.heap.objs.size (.lst xs),I1.laid (t':=s1.toks) (λb u e=>Df _ e) (Dn _) ?_,rfl,q _ hf⟩;exact⟨z,us,0,r,Dl _ rfl⟩
end
abbrev Sp:=List V->Hp->VK->XK->Prop
abbrev iG:=List Env->Hp->Dk->XK->Di->Dk->Prop
structure qr (P:DN)(w:Ez)(K:Dd)(mg:Str->Option Di)(base:Fp)(A:EK)(outer:List Env)(s:Dk)(H:Hp):Prop where
 frames:A.frames=some outer
 mod:Mod K mg base
 bs:∀ b o,base.get? b=some o->s.heap.get? b=some o/\H b=none
 bsz:base.objs.size<=s.heap.objs.size
 funs:s.heap.FunFrames base outer
 frf:∀ b∈dB outer,H b=none
 hok:gm P w H s.heap
 bare:Ko s.gens
def CE (outer:List Env)(P:DN)(w:Ez)(H:Hp)(s:Dk)(Q:VK)(u:Di)(s':Dk):Prop:=
 ∃ v H',s'.os=s.os/\Ko s'.gens/\Un (dB outer) [] H H' s.heap s'.heap/\gm P w H' s'.heap/\RelV v u/\Q v H'
def CR (CX:iG)(outer:List Env)(P:DN)(w:Ez)(H:Hp)(s:Dk)(Q:VK)(E:XK)(r:Result)(s':Dk):Prop:=
 match r with
 |.ok (.ret u)=>CE outer P w H s Q u s'
 |.ok _=>False
 |.error e=>CX outer H s E e s'
structure iX (P:DN)(w:Ez)(K:Dd)(mg:Str->Option Di)(base:Fp)(CX:iG)(k:Nat)(f:Du)(fd:F8)(ps:List Str)(sp:Sp):Prop where
 len:∀ vs H Q E,sp vs H Q E->vs.length=ps.length
 run:∀ (A:EK) (outer:List Env) (s:Dk) (H:Hp) (args:Args) (us:List Di) (vs:List V) (Q:VK) (E:XK),Room k A->qr P w K mg base A outer s H->Mr s fd args (ps.zip us)->aJ vs us->sp vs H Q E ->
  Gq (DK P w) A (.call (.ref f) args) (CR CX outer P w H s Q E) s
theorem qr.make {P:DN}{w:Ez}{K:Dd}{mg:Str->Option Di}{base:Fp}{A:EK}{outer:List Env}{s:Dk}{H:Hp} (e:qr P w K mg base A outer s H) (C:Du) (us:List Di) (kw:List (Str × Di)) :
  qr P w K mg base (A.under (.builtin "type.__call__" ⟨.ref C::us,kw⟩)) outer s H:=⟨by first|exact e.frames|(simpa [L7,Code.envs,L_,pushEnvs] using e.frames),e.mod,e.bs,e.bsz,e.funs,e.frf,e.hok,e.bare⟩
section
variable {X:Cx}{pins:List (Du×Obj)}{σ:St}{H:Hp}{s s':Dk}
theorem av.env0 (I:av X pins σ H s):qr X.prog X.w X.K X.mg X.base X.A X.stack s H:=
 ⟨I.ok.frames,I.ok.mod,I.bs,Dt I.ok.bsz I.sz,I.stack,I.stkFree,I.hok,I.bare⟩
theorem av.after (I:av X pins σ H s)(h:CE X.stack X.prog X.w H s Q u s'):EP X pins σ Q u s':=by
 obtain⟨v,H',os,bare,un,hok,r,q⟩:=h;obtain⟨hh,g,d,t,os'⟩:=s';obtain rfl:os'=s.os:=os;exact⟨v,H',I.call (h':=hh) (g':=g) (d':=d) (t':=t) (ch:=[]) un hok bare (λb z=>absurd z (by simp)),r,q⟩
end
def ul (sp:Sp)(dvs:List V)(E:XK)(t:TA):TE:=λσ H Q=>t σ H λvs H1=>sp (vs++dvs) H1 Q E
def gJ (K:Dd)(fd:F8)(ps:List Str)(ds:List Di):Prop:=
 ∀ (s:Dk) (us:List Di),K.In s.heap->(us++ds).length=ps.length->Mr s fd ⟨us,[]⟩ (ps.zip (us++ds))
theorem gJ.all {K:Dd}{fd:F8}{ps:List Str}(h:∀ us:List Di,us.length=ps.length->Fh fd ⟨us,[]⟩=pure (ps.zip us)):gJ K fd ps []:=λs us _ hl=>by
 rw[Kw] at hl ⊢;exact .of_eq (h us hl)
def mV (CX:iG)(X:Cx)(E:XK):Prop:=∀ (pins:List (Du×Obj)) (σ:St) (H:Hp) (s:Dk) (e:Di) (s':Dk),av X pins σ H s->CX X.stack H s E e s'->X.xe e s'
section
variable {X:Cx}{CX:iG}{k:Nat}{f C:Du}{fd:F8}{ps:List Str}{sp:Sp}{dvs:List V}{ds:List Di}{E:XK}{x m:Str}{p pos apos:Pos}{e o:Fs}{es:List Fs}{ta:TE}{t:TA}
theorem qQ (F:iX X.prog X.w X.K X.mg X.base CX k f fd ps sp) (hr:Room k X.A) (hb:gJ X.K fd ps ds) (hd:aJ dvs ds) (hx:mV CX X E)
  (I:av X pins σ H s)(r:aJ vs us)(h:sp (vs++dvs) H Q E):Dy (DK X.prog X.w) X.A (call (.ref f) us) (EP X pins σ Q) X.xe s:=by
 have r2:aJ (vs++dvs) (us++ds):=r.append hd;have hl:(us++ds).length=ps.length:=by rw[<- r2.length];exact F.len _ _ _ _ h
 refine IC (GP (F.run X.A X.stack s H ⟨us,[]⟩ (us++ds) (vs++dvs) Q E hr I.env0 (hb s us I.kIn hl) r2 h) λr s' hq=>?_);cases r with
 |error e=>exact hx pins σ H s e s' I hq
 |ok fl=>
  cases fl with
  |ret u=>exact I.after hq
  |next=>exact FD hq
  |brk=>exact FD hq
  |cont=>exact FD hq
theorem wF (F:iX X.prog X.w X.K X.mg X.base CX k f fd ps sp) (hr:Room k X.A) (hg:Gl X x) (hm:X.mg x=some (.ref f)) (hk:EL X.K (.ref f)=true) (hb:gJ X.K fd ps ds) (hd:aJ dvs ds) (hx:mV CX X E)
  (ha:PA X (e::es) t)(hdb:(x==("__debug__":Str))=false:=by decide)(he:DO (e::es) X.env=(false,GI e X.env)::DO es X.env:=by rfl)(hpl:(HJ pos (DO es X.env)).any (·.1)=false:=by rfl):
  PE X (.Call (.Name x p) (e::es) [] pos) (ul sp dvs E t):=by
 intro pins s σ H Q I h;refine FF (dJ I hg hm ?_ hdb);refine GF (h₀:=X.base) I.ok.mod.kin hk (bo (ha pos pins s σ H _ I h) λus s1 ⟨vs,H1,I1,r,q⟩=>⟨I1.kIn,?_⟩) he hpl;exact qQ F hr hb hd hx I1 r q
structure Mk (K:Dd)(C f:Du):Prop where
 makes:IQ K C=true
 init:Eb K (.ref C) "__init__"=some (some (.ref f))
 fn:Ij K (.ref f)=true
 kp:EL K (.ref C)=true
theorem vO (M:Mk X.K C f) (F:iX X.prog X.w X.K X.mg X.base CX k f fd ps sp) (hr:Room (k + 1) X.A) (hb:gJ X.K fd ps ds) (hd:aJ dvs ds)
  (hx:mV CX X E)(I:av X pins σ H s)(r:aJ vs us)
  (h:∀ x dx,H x=none->H dx=none->dx≠x->sp (.ref x::(vs++dvs)) (upd (upd H dx (.own x)) x (.ins C dx [])) (λv H2=>v=.non/\Q (.ref x) H2) E):
  Dy (DK X.prog X.w) X.A (call (.ref C) us) (EP X pins σ Q) X.xe s:=by
 have hq:=h (s.heap.objs.size+1) s.heap.objs.size (I.hok.fresh (Lj _)) (I.hok.fresh (Dn _)) (DI (FG _));have I2:=av.made (C:=C) I;have r2:aJ (V.ref (s.heap.objs.size+1)::(vs++dvs)) (DQ (s.heap.objs.size+1)::(us++ds)):=.cons rfl (r.append hd);have hl:(DQ (s.heap.objs.size+1)::us++ds).length=ps.length:=by
  have e:=r2.length;rw[F.len _ _ _ _ hq] at e;exact e.symm
 refine IC (uF (f:=f) I.kIn M.makes M.init (EV.mp M.fn) (GP (F.run _ X.stack _ _ ⟨DQ (s.heap.objs.size+1)::us,[]⟩ (DQ (s.heap.objs.size+1)::(us++ds)) _ _ E (hr.make C us [])
  (I2.env0.make C us []) (hb _ (DQ (s.heap.objs.size+1)::us) I2.kIn hl) r2 hq) λr s' hq'=>?_))
 cases r with
 |error e=>exact hx pins σ _ _ e s' I2 hq'
 |ok fl=>
  cases fl with
  |ret u=>
   obtain⟨v,H',I3,rv,ev,q3⟩:=I2.after hq';subst ev;exact⟨rv,⟨V.ref (s.heap.objs.size+1),H',I3,rfl,q3⟩⟩
  |next=>exact FD hq'
  |brk=>exact FD hq'
  |cont=>exact FD hq'
end
structure az (N P:List Str)(sc:He):Prop where
 kind:sc.kind=.function
 co:sc.isCoroutine=false
 gen:sc.isGenerator=false
 nd:N.Nodup
 pre:N.take P.length=P
 par:∀ x∈P,sc.names.lookup x=some .local\/sc.names.lookup x=some .cell
 nofree:∀ y∈sc.names,y.2≠.free
theorem l_ {kindOf:Str->Option GV}{x:Str}:∀ {binds:List (Str×Di)}{m:Str->Option Di},(∀ v,(x,v)∉binds)->bindL kindOf binds m x=m x
 |[],_,_=>rfl
 |(n,v)::r,m,h=>by
  unfold bindL;rw[l_ λw hw=>h w (Do _ hw)]
  split
  ·have:x≠n:=by rintro rfl;exact h v DL
   simp[this]
  ·rfl
theorem lS {kindOf:Str->Option GV}{x:Str}:∀ {binds:List (Str×Di)}{m:Str->Option Di},(∀ v,(x,v)∉binds)->bindC kindOf binds m x=m x
 |[],_,_=>rfl
 |(n,v)::r,m,h=>by
  unfold bindC;rw[lS λw hw=>h w (Do _ hw)]
  split
  ·rfl
  ·have:x≠n:=by rintro rfl;exact h v DL
   simp[this]
theorem l5 {kindOf:Str->Option GV}{x:Str}{v:Di}:∀ {P:List Str}{vs:List Di}{i:Nat}{m:Str->Option Di},P.Nodup->P[i]?=some x->vs[i]?=some v->kindOf x=some .local ->
  bindL kindOf (P.zip vs) m x=some v
 |[],_,_,_,_,h,_,_=>by simp at h
 |_::_,[],_,_,_,_,h,_=>by simp at h
 |p::P,w::vs,0,m,nd,h1,h2,hk=>by
  simp at h1 h2;subst h1;subst h2;show bindL kindOf ((p,w)::P.zip vs) m p=_;unfold bindL;rw[l_ λv hv=>(E9.mp nd).1 (Ga hv).1,Ee hk];simp
 |p::P,w::vs,i+1,m,nd,h1,h2,hk=>by
  show bindL kindOf ((p,w)::P.zip vs) m x=_;unfold bindL;exact l5 (i:=i) (E9.mp nd).2 (by simpa using h1) (by simpa using h2) hk
theorem mo {kindOf:Str->Option GV}{x:Str}{v:Di}:∀ {P:List Str}{vs:List Di}{i:Nat}{m:Str->Option Di},P.Nodup->P[i]?=some x->vs[i]?=some v->kindOf x ≠ some .local ->
  bindC kindOf (P.zip vs) m x=some v
 |[],_,_,_,_,h,_,_=>by simp at h
 |_::_,[],_,_,_,_,h,_=>by simp at h
 |p::P,w::vs,0,m,nd,h1,h2,hk=>by
  simp at h1 h2;subst h1;subst h2;show bindC kindOf ((p,w)::P.zip vs) m p=_;unfold bindC;rw[lS λv hv=>(E9.mp nd).1 (Ga hv).1,DS hk];simp
 |p::P,w::vs,i+1,m,nd,h1,h2,hk=>by
  show bindC kindOf ((p,w)::P.zip vs) m x=_;unfold bindC;exact mo (i:=i) (E9.mp nd).2 (by simpa using h1) (by simpa using h2) hk
def fO (N:List Str)(vs:List V):St:=vs.map some++Dz (N.length-vs.length) none
def kF (CX:iG)(P:DN)(w:Ez)(K:Dd)(mg:Str->Option Di)(base:Fp)(N:List Str)(qual:Str)(scope:He)(f:Du)(cd:Di)(A:EK)(outer:List Env)(s:Dk)(H:Hp)(E:XK):Cx where
 prog:=P
 w:=w
 K:=K
 mg:=mg
 base:=base
 A:=A.deeper (envOfC qual scope s.heap.objs.size f cd)
 N:=N
 s₀:=s
 H₀:=H
 env:=envOfC qual scope s.heap.objs.size f cd
 outer:=outer
 stack:=envOfC qual scope s.heap.objs.size f cd::outer
 ex:=[]
 calm:=true
 fn:=λ_=>true
 pn:=[]
 xe:=λe s'=>Dy (DK P w) (A.deeper (envOfC qual scope s.heap.objs.size f cd)) (leaving (envOfC qual scope s.heap.objs.size f cd) e) (λ_ s''=>CX outer H s E e s'') (λe' s''=>CX outer H s E e' s'') s'
theorem pF {sc:He}{n:Nat}{x:Str}(h:sc.names.lookup x=some .cell):∃ c,(HK n sc.names []).lookup x=some c:=by
 have q:=GB sc.names n [] (.inl h);exact FE.mp q
theorem tF {CX:iG}{P:DN}{w:Ez}{K:Dd}{mg:Str->Option Di}{base:Fp}{N ps:List Str}{qual:Str}{scope:He}{f:Du}{cd:Di}{A:EK}{outer:List Env}{s s1:Dk}{H:Hp}{E:XK}{us:List Di}{vs:List V}
  (S:az N ps scope)(hd:A.handled=none)(e0:qr P w K mg base A outer s H)(hl:vs.length=ps.length)(r:aJ vs us)
  (x:InCallC s s.heap.objs.size (bindL (envOfC qual scope s.heap.objs.size f cd).kindOf (ps.zip us) λ_=>none) (HK (s.heap.objs.size+1) scope.names []) (bindC (envOfC qual scope s.heap.objs.size f cd).kindOf (ps.zip us) λ_=>none) s1):
  av (kF CX P w K mg base N qual scope f cd A outer s H E) [] (fO N vs) H s1:=by
 have hpl:ps.length<=N.length:=by have:=FS Le S.pre;rw[Ei] at this;omega
 obtain⟨h1,tk,rfl,hk⟩:=x.done;have noA:∀ b:Du,b∉(kF CX P w K mg base N qual scope f cd A outer s H E).ex:=λb z=>absurd (show b∈([]:List Du) from z) (by simp)
 refine⟨⟨e0.mod,S.kind,rfl,rfl,Dn _,λy z c h1 h2=>?_,λy hy=>?_,λy c _ h=>?_,λ_=>hd,Around.frames_deeper e0.frames,.inr ⟨rfl,rfl⟩,λb z=>absurd z (noA b),e0.bs,e0.bsz,λb _ _=>noA b,λb z=>absurd z (noA b),e0.funs,e0.frf⟩,
  rfl,e0.bare,Un.kept hk,⟨_,x.toInCall.ns,λi y v h1 h2 h3=>?_⟩,λy c h=>⟨_,x.cell y c h⟩,e0.hok.fresh (Dn _),λy c h=>?_,λp hp=>absurd (show p∈([]:List (Du×Obj)) from hp) (by simp),e0.hok.kept hk,?_⟩
 ·exact name_of_addr x.apart (Fu h1) (Fu h2)
 ·have hy:scope.names.lookup y=some .cell\/scope.names.lookup y=some .free:=hy;rcases hy with hy|hy
  ·exact pF hy
  ·exact absurd rfl (S.nofree _ (Fu hy))
 ·exact Gm (x.above y c (Fu h))
 ·have hi:i<vs.length:=by
   unfold fO at h2
   by_cases hi:i<vs.length
   ·exact hi
   ·rw[G5 (by simpa using hi)] at h2;rw[HG] at h2
    split at h2<;>cases h2
  have ha:vs[i]?=some v:=by
   unfold fO at h2;rw[G_ (by simpa using hi),Dp] at h2;cases e:vs[i]? with
   |none=>rw[e] at h2;cases h2
   |some a=>rw[e] at h2;cases h2;rfl
  obtain⟨u,hu,rv⟩:=r.get ha;have hp:ps[i]?=some y:=by
   rw[<- S.pre,List.getElem?_take_of_lt (by omega)];exact h1
  have ndP:ps.Nodup:=by rw[<- S.pre];exact S.nd.sublist (JC _ _)
  refine⟨u,rv,?_⟩;rcases S.par y (DF hp) with k|k
  ·exact .inl ⟨k,l5 ndP hp hu k⟩
  ·obtain⟨c,e⟩:=pF (n:=s.heap.objs.size+1) k;refine .inr ⟨.inl k,c,e,?_⟩;have q:=x.cell y c e;rw[mo ndP hp hu (by show scope.names.lookup y≠_;rw[k];decide)] at q;exact q
 ·exact e0.hok.fresh (Gm (x.above y c (Fu h)))
 ·unfold fO;show _=N.length;rw[EF,Dh,Ky];omega
theorem rn {CX:iG}{P:DN}{w:Ez}{K:Dd}{mg:Str->Option Di}{base:Fp}{k:Nat}{f:Du}{name qual:Str}{params:Arguments}{body:List Gv}{scope:He}{dV kV doc pm cdv ct oc:Di}{an od:Option Du}
  {osl:Array (Option Di)}{N ps:List Str}{sp:Sp}(lk:K.lookup f=some ⟨oc,od,.func (DY name qual params body scope dV kV doc pm an cdv ct),osl⟩)(hcd:E_ K cdv qual=true)(S:az N ps scope)
  (len:∀ vs H Q E,sp vs H Q E->vs.length=ps.length)
  (bb:∀ (A:EK) (outer:List Env) (s:Dk) (H:Hp) (vs:List V) (Q:VK) (E:XK),Room k (A.deeper (envOfC qual scope s.heap.objs.size f cdv))->sp vs H Q E ->
   ∃ t,vm (kF CX P w K mg base N qual scope f cdv A outer s H E) body t/\t { nx:=λ_ H'=>Q .non H',rt:=Q } (fO N vs) H) :
  iX P w K mg base CX (k+1) f (DY name qual params body scope dV kV doc pm an cdv ct) ps sp:=by
 refine⟨len,λA outer s H args us vs Q E hr e0 hb r hsp=>?_⟩;have hl:=len _ _ _ _ hsp;have KX:K.In s.heap:=e0.mod.kin.keeps λb o e=>(e0.bs b o e).1
 have lim:s.heap.NoLimit:=e0.mod.nolimit.keeps λb o e=>(e0.bs b o e).1
 have hkind:∀ y∈ps.zip us,scope.names.lookup y.1=some .local\/(scope.names.lookup y.1=some .cell/\((HK (s.heap.objs.size+1) scope.names []).lookup y.1).isSome=true):=λ⟨n,v⟩ hy=>by
  rcases S.par n (Ga hy).1 with q|q
  ·exact .inl q
  ·exact .inr ⟨q,GB _ _ _ (.inl q)⟩
 refine codeAny_call_function hr.depth (KX _ _ lk) rfl S.co S.gen rfl (PySem.W.codeRec_of KX hcd) (hb _ _ _ _ ?_);refine wpAny_newFunctionEnv_cells S.kind hkind λenv he s1 x=>?_
 subst he;refine⟨lim.keeps x.toInCall.keep,codeAny_func ?_⟩;obtain⟨t,ht,hq⟩:=bb A outer s H vs Q E (hr.deeper _) hsp;have I:av (kF CX P w K mg base N qual scope f cdv A outer s H E) [] (fO N vs) H s1:=tF S hr.hd e0 hl r x;refine DW (ht [] s1 (fO N vs) H _ I hq) (λfl s' hs=>?_) λe s' hs=>hs
 have fin:∀ {σ':St}{H':Hp}{v:V}{u:Di},av (kF CX P w K mg base N qual scope f cdv A outer s H E) [] σ' H' s'->RelV v u->Q v H'->CE outer P w H s Q u s':=
  λ{σ' H' v u} J rv q=>⟨v,H',J.os,J.bare,J.base,J.hok,rv,q⟩
 cases fl with
 |ret u=>
  obtain⟨v,σ',H',J,rv,q⟩:=hs;exact fin J rv q
 |next=>
  obtain⟨σ',H',J,q⟩:=hs;exact fin (v:=V.non) (u:=D_) J rfl q
 |brk=>
  obtain⟨_,_,_,q⟩:=hs;exact FD q
 |cont=>
  obtain⟨_,_,_,q⟩:=hs;exact FD q
section
variable {X:Cx}{x:Str}{p pos:Pos}{e:Fs}{es:List Fs}{t:TA}{id T:String}{r:List V->Hp->VK->Prop}
def CK (r:List V->Hp->VK->Prop)(t:TA):TE:=λσ H Q=>t σ H λvs H1=>r vs H1 Q
theorem am (hc:br X (.builtin id) r) (hg:Gl X x) (hm:X.mg x=none) (hv:Ey x=some (.builtin id)) (ha:WA X (e :: es) t) (hn:x ≠ "__name__":=by decide) (hdb:(x == ("__debug__":Str))=false:=by decide)
  (he:DO (e::es) X.env=(false,GI e X.env)::DO es X.env:=by rfl)(hpl:(HJ pos (DO es X.env)).any (·.1)=false:=by rfl):WE X (.Call (.Name x p) (e::es) [] pos) (CK r t):=by
 have ha:=ha.go;refine⟨?_⟩;intro pins s σ H Q I h;refine FF (e6 I hg hm hv ?_ hn hdb);exact Ii (bo (ha pos pins s σ H _ I h) λus s1 ⟨vs,H1,I1,r1,q1⟩=>hc pins s1 σ H1 vs us Q I1 r1 q1) he hpl
theorem bE (hc:br X (.type T) r) (hg:Gl X x) (hm:X.mg x=none) (hv:Ey x=some (.type T)) (ha:WA X (e :: es) t) (hn:x ≠ "__name__":=by decide) (hdb:(x == ("__debug__":Str))=false:=by decide)
  (he:DO (e::es) X.env=(false,GI e X.env)::DO es X.env:=by rfl)(hpl:(HJ pos (DO es X.env)).any (·.1)=false:=by rfl):WE X (.Call (.Name x p) (e::es) [] pos) (CK r t):=by
 have ha:=ha.go;refine⟨?_⟩;intro pins s σ H Q I h;refine FF (e6 I hg hm hv ?_ hn hdb);exact E3 (bo (ha pos pins s σ H _ I h) λus s1 ⟨vs,H1,I1,r1,q1⟩=>hc pins s1 σ H1 vs us Q I1 r1 q1) he hpl
end
end L2
namespace HT
open PySem PyProof.Rows
section
variable {prog:DN}{w:Ez}{A:EK}{E:Di->Dk->Prop}{s:Dk}
def sIx (n d:Nat):Option Int->Nat
 |none=>d
 |some v=>if v<0 then(v+(n:Int)).toNat else min v.toNat n
theorem sIx_none (n d:Nat):sIx n d none=d:=rfl
theorem sIx_nat (n d k:Nat):sIx n d (some (k:Int))=min k n:=by
 show(if(k:Int)<0 then((k:Int)+(n:Int)).toNat else min (k:Int).toNat n)=min k n;rw[DS (by omega),ED]
end
end HT
namespace L2
open PySem PySem.Spec PyProof.Rows
abbrev TO:=St->Hp->(Option Int->Hp->Prop)->Prop
def PO (X:Cx)(e:Option Fs)(t:TO):Prop:=
 ∀ (pins:List (Du×Obj)) (s:Dk) (σ:St) (H:Hp) (Q:Option Int->Hp->Prop),av X pins σ H s->t σ H Q ->
  Dy (DK X.prog X.w) X.A (evalPart e X.env) (λu s'=>∃ o H',av X pins σ H' s'/\IsPart u o/\Q o H') X.xe s
structure WO (X:Cx)(e:Option Fs)(t:TO):Prop where
 go:PO X e t
def vY:TO:=λ_ H Q=>Q none H
def Bg (t:TE):TO:=λσ H Q=>t σ H λx H1=>∃ i,x=.int i/\Q (some i) H1
theorem qi:∀ {us:List Di},aJ (ns.map V.int) us->Ho us ns:=by
 induction ns with
 |nil=>intro us r;rw[KA] at r;cases r;exact .nil
 |cons n ns ih=>
  intro us r;rw[DP] at r;cases r with
  |cons r1 r2=>
   obtain⟨t,e⟩:=r1;subst e;exact .cons n t (ih r2)
section
variable {X:Cx}{e:Fs}{te:TE}{lo hi:Option Fs}{tl th:TO}{pos p2:Pos}
theorem iS:WO X none vY:=by
 refine⟨?_⟩;intro pins s σ H Q I h;rw[evalPart_none];exact Dg ⟨none,H,I,.none,h⟩
theorem iD (h:WE X e te):WO X (some e) (Bg te):=by
 have h:=h.go;refine⟨?_⟩;intro pins s σ H Q I hw;rw[evalPart_some];refine bo (h pins s σ H _ I hw) λu s1 ⟨x,H1,I1,r1,q1⟩=>?_
 obtain⟨i,rfl,q⟩:=q1;obtain⟨t,rfl⟩:=r1;exact⟨some i,H1,I1,.int i t,q⟩
def By (X:Cx)(r:V->Option Int->Option Int->Hp->VK->Prop):Prop:=
 ∀ (pins:List (Du×Obj)) (s:Dk) (σ:St) (H:Hp) (x:V) (v vl vu:Di) (lo hi:Option Int) (sl:Du) (Q:VK),av X pins σ H s->RelV x v->s.heap.IsSliceOf sl vl vu .none->IsPart vl lo->IsPart vu hi->r x lo hi H Q ->
  ∃ T id,L5 (.type T) "__getitem__"=pure (some (.builtin id))/\s.TypeIs v T/\Dy (DK X.prog X.w) X.A (MB v (.ref sl)) (EP X pins σ Q) X.xe s
def C4 (r:V->Option Int->Option Int->Hp->VK->Prop)(te:TE)(tl th:TO):TE:=λσ H Q=>te σ H λx H1=>tl σ H1 λl H2=>th σ H2 λu H3=>r x l u H3 Q
theorem fZ (hr:By X r)(he:WE X e te)(hl:WO X lo tl)(hu:WO X hi th):WE X (.Subscript e (.Slice lo hi none p2) pos) (C4 r te tl th):=by
 have he:=he.go;have hl:=hl.go;have hu:=hu.go;refine⟨?_⟩;intro pins s σ H Q I h;refine Subscript_ (bo (he pins s σ H _ I h) λv s1 ⟨x,H1,I1,r1,q1⟩=>?_);refine wpAny_Slice (bo (hl pins s1 σ H1 _ I1 q1) λvl s2 ⟨l,H2,I2,pl,q2⟩=>bo (hu pins s2 σ H2 _ I2 q2) λvu s3 ⟨u,H3,I3,pu,q3⟩=>?_);rw[evalPart_none];refine Dg ?_;have I4:av X pins σ H3 { s3 with heap:=s3.heap.push { cls:=.type "slice",data:=.fields #[vl,vu,.none] } }:=I3.kept (t':=s3.toks) λb ob q=>Df _ q
 obtain⟨T,id,hT,ht,hg⟩:=hr pins { s3 with heap:=s3.heap.push { cls:=.type "slice",data:=.fields #[vl,vu,.none] } } σ H3 x v vl vu l u s3.heap.objs.size Q I4 r1 (Heap.IsSliceOf.new ..) pl pu q3;show Dy (DK X.prog X.w) X.A (LJ e (.Slice lo hi none p2) v (.ref s3.heap.objs.size)) (EP X pins σ Q) X.xe { s3 with heap:=s3.heap.push { cls:=.type "slice",data:=.fields #[vl,vu,.none] } };exact tail_any (ops:=[.ref s3.heap.objs.size,v]) ht hT hg (by with_unfolding_all rfl)
def oz (xs:List V)(lo hi:Option Int):List V:=(xs.drop (HT.sIx xs.length 0 lo)).take (HT.sIx xs.length xs.length hi-HT.sIx xs.length 0 lo)
theorem n9 (xs:List V)(lo hi:Option Int):(oz xs lo hi).length<=xs.length:=by
 unfold oz;rw[Ei,Ik];omega
end
def tI (n:Nat)(i:Int):Option Nat:=if 0<=i then(if i<n then some i.toNat else none) else if -(n:Int)<=i then some (i+n).toNat else none
def vG {α:Type}(xs:List α)(i:Int):Option α:=(tI xs.length i).bind λj=>xs[j]?
theorem q9 {n:Nat}{i:Int}{j:Nat}(h:tI n i=some j):seqIndex? i n=some j/\j<n/\-(n:Int)<=i/\i<n:=by
 unfold tI at h
 by_cases h0:0<=i
 ·rw[Ee h0] at h
  by_cases h1:i<n
  ·rw[Ee h1] at h;have e:i.toNat=j:=Dm h;exact⟨by rw[seqIndex_of h0 h1,e],by omega,by omega,h1⟩
  ·rw[DS h1] at h;cases h
 ·rw[DS h0] at h
  by_cases h1:-(n:Int)<=i
  ·rw[Ee h1] at h;have e:(i+n).toNat=j:=Dm h;exact⟨by rw[seqIndex_neg (by omega) h1,e],by omega,h1,by omega⟩
  ·rw[DS h1] at h;cases h
theorem nH {i:Int}(h:vG xs i=some v):∃ j,seqIndex? i xs.length=some j/\xs[j]?=some v/\j<xs.length/\-(xs.length:Int)<=i/\i<xs.length:=by
 unfold vG at h;cases e:tI xs.length i with
 |none=>rw[e] at h;cases h
 |some j=>
  rw[e] at h;obtain⟨h1,h2,h3,h4⟩:=q9 e;exact⟨j,h1,h,h2,h3,h4⟩
theorem eX {α:Type}{xs:List α}{j:Nat}{v:α}(h:xs[j]?=some v):vG xs (j:Int)=some v:=by
 have hj:j<xs.length:=(DH.mp h).1;have e:tI xs.length (j:Int)=some j:=by
  unfold tI;rw[Ee (by omega),Ee (by omega)];simp
 unfold vG;rw[e];exact h
theorem km (xs:List α)(v:α):vG (xs++[v]) (-1)=some v:=by
 have hl:(xs++[v]).length=xs.length+1:=by simp
 have e:tI (xs++[v]).length (-1)=some xs.length:=by
  unfold tI;rw[hl,DS (by decide),Ee (by omega)]
  congr 1
  omega
 unfold vG;rw[e];show(xs++[v])[xs.length]?=some v;simp
def rg (b:Fs):Prop:=∀ o i,subscripted b false o i=operate [o,i] (MB o i)
def vV (X:Cx)(r:R2):Prop:=
 ∀ (value slice:Fs) (pins:List (Du×Obj)) (s:Dk) (σ:St) (H:Hp) (x y:V) (v u:Di) (Q:VK),av X pins σ H s->RelV x v->RelV y u->r x y H Q ->
  subscripted slice false v u=operate [v,u] (MB v u)->Dy (DK X.prog X.w) X.A (LJ value slice v u) (EP X pins σ Q) X.xe s
def BW (X:Cx)(id:String)(r:V->List V->Hp->VK->Prop):Prop:=
 ∀ (pins:List (Du×Obj)) (s:Dk) (σ:St) (H:Hp) (x:V) (xs:List V) (v:Di) (us:List Di) (Q:VK),av X pins σ H s->RelV x v->aJ xs us->r x xs H Q ->
  Dy (DK X.prog X.w) X.A (call (.builtin id) (v::us)) (EP X pins σ Q) X.xe s
section
variable {X:Cx}{a b:Fs}{ta tb:TE}{pos:Pos}
theorem vV.or (h:vV X r)(h':vV X r'):vV X (λx y H Q=>r x y H Q\/r' x y H Q):=by
 intro value slice pins s σ H x y v u Q I rx ry q hs;rcases q with q|q
 ·exact h value slice pins s σ H x y v u Q I rx ry q hs
 ·exact h' value slice pins s σ H x y v u Q I rx ry q hs
theorem tU (hr:vV X r)(ha:WE X a ta)(hb:WE X b tb)(hs:rg b):WE X (.Subscript a b pos) (Bf r ta tb):=by
 have ha:=ha.go;have hb:=hb.go;refine⟨?_⟩;intro pins s σ H Q I h;exact Subscript_ (zM ha hb I h λv u s2 x y H2 I2 rx ry q=>hr a b pins s2 σ H2 x y v u Q I2 rx ry q (hs _ _))
inductive Au (K:Dd)(x y:V)(H:Hp)(Q:VK):Prop
 |mk (p:Du) (xs:List V) (i:Int) (v:V) (_:x=.ref p) (_:y=.int i) (_:bj K H p xs) (_:vG xs i=some v) (_:Q v H)
inductive AQ (K:Dd)(x y:V)(H:Hp)(Q:VK):Prop
 |mk (p:Du) (xs:List V) (i:Int) (v:V) (_:x=.ref p) (_:y=.int i) (_:f7 K H p xs) (_:vG xs i=some v) (_:Q v H)
def AU:R2:=λx y H Q=>∃ z i c,x=.str z/\y=.int i/\z.length<=Ds/\vG z.cps.toList i=some c/\Q (.str ⟨#[c]⟩) H
theorem we:vV X (Au X.K):=by
 intro value slice pins s σ H x y v u Q I rx ry h hs;obtain⟨p,xs,i,z,rfl,rfl,hq,he,q⟩:=h;cases rx;obtain⟨t,rfl⟩:=ry;obtain⟨its,r,pl,hz⟩:=I.list hq;obtain⟨j,h1,h2,h3,h4,h5⟩:=nH he;obtain⟨w,ew,rw'⟩:=r.get h2;have hl:=r.length;have hn:=hU;have fin:EP X pins σ Q w s:=⟨z,H,I,rw',q⟩
 by_cases h0:0<=i
 ·have hj:i.toNat=j:=by
   rw[seqIndex_of h0 h5] at h1;exact Dm h1
  exact item_listR pl.isList h0 (by omega) (by rw[hj];simpa using ew) fin hs
 ·have hj:(i+(its.toArray.size:Int)).toNat=j:=by
   rw[seqIndex_neg (by omega) h4] at h1;rw[DJ,<- hl];exact Dm h1
  exact Kk (x:=w) pl.isList.typeIs slot_list_getitem.lookup
   (wpAny_getItem_list_neg (Q:=λr s'=>r=w/\EP X pins σ Q r s') pl.isList (by omega) (by rw[DJ]<;>omega) (by omega) (by rw[hj];simpa using ew) ⟨rfl,fin⟩) hs
theorem yj:vV X (AQ X.K):=by
 intro value slice pins s σ H x y v u Q I rx ry h hs;obtain⟨p,xs,i,z,rfl,rfl,hq,he,q⟩:=h;cases rx;obtain⟨t,rfl⟩:=ry;obtain⟨its,r,pl,hz⟩:=I.tuple hq;obtain⟨j,h1,h2,h3,h4,h5⟩:=nH he;obtain⟨w,ew,rw'⟩:=r.get h2;have hl:=r.length;have hn:=hU;have fin:EP X pins σ Q w s:=⟨z,H,I,rw',q⟩
 exact Kk (x:=w) pl.typeIs slot_tuple_getitem.lookup
  (getItem_tuple (j:=j) (Q:=λr s'=>r=w/\EP X pins σ Q r s') pl (by omega) (by omega) (by rw[DJ,<- hl];exact h1) (by simpa using ew) ⟨rfl,fin⟩) hs
theorem t0:vV X AU:=by
 intro value slice pins s σ H x y v u Q I rx ry h hs;obtain⟨z,i,c,rfl,rfl,hz,he,q⟩:=h;obtain⟨t,rfl⟩:=rx;obtain⟨t',rfl⟩:=ry;obtain⟨j,h1,h2,h3,h4,h5⟩:=nH he;have hl:z.cps.toList.length=z.length:=by simp[G4]
 rw[hl] at h1 h4 h5;have hn:=hU;exact tail_any (IB s z t) slot_str_getitem.lookup (getItem_str (c:=c) (by
  have e1:decide (i < -(2^63:Int))=false:=DR (by omega);have e2:decide (i>=2^63)=false:=DR (by omega);rw[e1,e2,Bool.or_false]) (by rw[h1];simpa using h2) ⟨.str ⟨#[c]⟩,H,I.tok _,⟨_,rfl⟩,q⟩) hs
def xK (K:Dd):R2:=λx y H Q=>Au K x y H Q\/AQ K x y H Q\/AU x y H Q
theorem yB:vV X (xK X.K):=we.or (yj.or t0)
theorem qm (its:List Di)(n j:Nat)(u:Di):GY (·.setIfInBounds j u) { cls:=.type "list",data:=.seq its.toArray n }={ cls:=.type "list",data:=.seq (its.set j u).toArray n }:=by
 simp[GY]
theorem av.lst {pins:List (Du × Obj)}{σ:St}{H:Hp}{s:Dk}{p:Du}{xs:List V} (I:av X pins σ H s) (h:H p=some (.lst xs)) :
  ∃ (its:List Di) (n:Nat),aJ xs its/\s.heap.get? p=some { cls:=.type "list",data:=.seq its.toArray n }/\xs.length<=Ds:=by
 obtain⟨z,its,n,r,e⟩:=I.hok p _ h;exact⟨its,n,r,e,z⟩
theorem av.lstUpd {pins:List (Du × Obj)}{σ:St}{H:Hp}{s:Dk}{p:Du}{xs ys:List V}{its its':List Di}{n n':Nat}{f:Obj->Obj} (I:av X pins σ H s) (h:H p=some (.lst xs))
  (ho:s.heap.get? p=some { cls:=.type "list",data:=.seq its.toArray n })(hf:f { cls:=.type "list",data:=.seq its.toArray n }={ cls:=.type "list",data:=.seq its'.toArray n' })(r:aJ ys its')(hz:ys.length<=Ds)(t:Nat):
  av X pins σ (upd H p (.lst ys)) { s with heap:=s.heap.update p f,toks:=t }:=by
 have e:(s.heap.update p f).get? p=some { cls:=.type "list",data:=.seq its'.toArray n' }:=by
  rw[DX f ho (by rw[hf]<;>rfl),hf]
 refine I.write (x:=p) (e:=p) (by rw[h];trivial) (.inl rfl) (λb u hb q=>(DV _ _ (Fj hb)).trans q) ⟨_,e⟩ ?_;exact⟨hz,its',n',r,e⟩
def Az:V->V->V->Hp->(Hp->Prop)->Prop:=λo i v H Q=>∃ p xs k j,o=.ref p/\i=.int k/\H p=some (.lst xs)/\tI xs.length k=some j/\Q (upd H p (.lst (xs.set j v)))
theorem oF:Bk X Az:=by
 intro pins s σ H o i v ov iv u Q I ro ri rv h;obtain⟨p,xs,k,j,rfl,rfl,hp,hj,q⟩:=h;cases ro;obtain⟨t,rfl⟩:=ri;obtain⟨its,n,r,ho,hz⟩:=I.lst hp;obtain⟨h1,h2,h3,h4⟩:=q9 hj;have hl:=r.length;have hn:=hU;have I':av X pins σ (upd H p (.lst (xs.set j v))) { s with heap:=s.heap.update p (GY (·.setIfInBounds j u)) }:=
  I.lstUpd hp ho (qm its n j u) (r.set rv j) (by rw[Kz];exact hz) s.toks
 by_cases h0:0<=k
 ·have hk:k.toNat=j:=by
   rw[seqIndex_of h0 h4] at h1;exact Dm h1
  exact PySem.W.ki_setAt ho h0 (by omega) (by rw[DJ,<- hl];exact h4) (by rw[hk];exact⟨_,I',q⟩)
 ·have hk:(k+(its.toArray.size:Int)).toNat=j:=by
   rw[seqIndex_neg (by omega) h3] at h1;rw[DJ,<- hl];exact Dm h1
  exact PySem.W.ki_setBack ho (by omega) (by rw[DJ,<- hl];exact h3) (by omega) (by rw[hk];exact⟨_,I',q⟩)
theorem nR (lo hi:Option Int)(n:Nat):(Ic lo hi none n).1=((HT.sIx n 0 lo:Nat):Int)/\(Ic lo hi none n).2.1=((HT.sIx n n hi:Nat):Int)/\(Ic lo hi none n).2.2=1:=by
 refine⟨?_,?_,rfl⟩
 ·cases lo with
  |none=>simp[Ic,HT.sIx]
  |some i=>
   simp only[Ic,HT.sIx,Mj,show(1:Int)>0 by decide,GQ]
   by_cases h:i<0
   ·simp only[h,GQ]<;>omega
   ·simp only[h,GG]<;>omega
 ·cases hi with
  |none=>simp[Ic,HT.sIx]
  |some i=>
   simp only[Ic,HT.sIx,Mj,show(1:Int)>0 by decide,GQ]
   by_cases h:i<0
   ·simp only[h,GQ]<;>omega
   ·simp only[h,GG]<;>omega
theorem lJ (its:List Di)(lo hi:Option Int):slicePick its.toArray lo hi none=((its.drop (HT.sIx its.length 0 lo)).take (HT.sIx its.length its.length hi-HT.sIx its.length 0 lo)).toArray:=by
 obtain⟨h1,h2,h3⟩:=nR lo hi its.toArray.size;unfold slicePick;rw[h1,h2,h3];simp only[sliceRange_one,pick_run,DJ]<;>rfl
def AL (K:Dd):V->Option Int->Option Int->Hp->VK->Prop:=λx lo hi H Q=>∃ a xs,x=.ref a/\bj K H a xs/\∀ p,H p=none->Q (.ref p) (upd H p (.lst (oz xs lo hi)))
theorem wG:By X (AL X.K):=by
 intro pins s σ H x v vl vu lo hi sl Q I rx hs pl pu h;obtain⟨a,xs,rfl,hx,q⟩:=h;cases rx;obtain⟨its,r,ht,hz⟩:=I.list hx;have hlen:=r.length;refine⟨"list",_,slot_list_getitem.lookup,ht.isList.typeIs,?_⟩;refine wpAny_getItem_list_slice ht.isList hs pl pu .none (by simp) ?_ (by rw[DJ]<;>omega);rw[lJ,<- hlen];refine⟨.ref s.heap.objs.size,_,I.laid (t':=s.toks) (o:=.lst (oz xs lo hi)) (λb ob q=>Df _ q) (Dn _) ?_,rfl,q _ (I.hok.fresh (Dn _))⟩;exact⟨Dt (n9 xs lo hi) hz,_,0,(r.drop (HT.sIx xs.length 0 lo)).take (HT.sIx xs.length xs.length hi-HT.sIx xs.length 0 lo),Dl _ rfl⟩
def fg:V->Bool
 |.non=>true
 |.bl _=>true
 |.int _=>true
 |.str _=>true
 |_=>false
def eqV:V->V->Bool
 |.non,.non=>true
 |.bl a,.bl b=>a==b
 |.bl a,.int b=>(if a then 1 else 0)==b
 |.int a,.bl b=>a==(if b then 1 else 0)
 |.int a,.int b=>a==b
 |.str a,.str b=>a==b
 |_,_=>false
theorem zH (ry:RelV y u)(rx:RelV x v)(fy:fg y=true)(fx:fg x=true):SeqAt.EqAt A s u v (eqV y x):=by
 cases y with
 |non=>
  cases ry;cases x with
  |non=>cases rx;exact SeqAt.EqAt.same _
  |bl b=>cases rx;exact SeqAt.EqAt.none_bool b
  |int b=>obtain⟨t,rfl⟩:=rx;exact SeqAt.EqAt.none_int b t
  |str b=>obtain⟨t,rfl⟩:=rx;exact SeqAt.EqAt.none_str b t
  |_=>exact absurd (show false=true from fx) DM
 |bl a=>
  cases ry;cases x with
  |non=>cases rx;exact SeqAt.EqAt.bool_none a
  |bl b=>cases rx;exact SeqAt.EqAt.bool_bool a b
  |int b=>obtain⟨t,rfl⟩:=rx;exact SeqAt.EqAt.bool_int a b t
  |str b=>obtain⟨t,rfl⟩:=rx;exact SeqAt.EqAt.bool_str a b t
  |_=>exact absurd (show false=true from fx) DM
 |int a=>
  obtain⟨t',rfl⟩:=ry;cases x with
  |non=>cases rx;exact SeqAt.EqAt.int_none a t'
  |bl b=>cases rx;exact SeqAt.EqAt.int_bool a t' b
  |int b=>obtain⟨t,rfl⟩:=rx;exact SeqAt.EqAt.int_int a t' b t
  |str b=>obtain⟨t,rfl⟩:=rx;exact LC a t' b t
  |_=>exact absurd (show false=true from fx) DM
 |str a=>
  obtain⟨t',rfl⟩:=ry;cases x with
  |non=>cases rx;exact SeqAt.EqAt.str_none a t'
  |bl b=>cases rx;exact SeqAt.EqAt.str_bool a t' b
  |int b=>obtain⟨t,rfl⟩:=rx;exact LD a t' b t
  |str b=>obtain⟨t,rfl⟩:=rx;exact SeqAt.EqAt.str_str a t' b t
  |_=>exact absurd (show false=true from fx) DM
 |_=>exact absurd (show false=true from fy) DM
def Ab (x:V)(u:Di):Bool:=match u with
 |.none=>eqV .non x
 |.bool b=>eqV (.bl b) x
 |.int i _=>eqV (.int i) x
 |.str z _=>eqV (.str z) x
 |_=>false
theorem qH (r:RelV y u)(f:fg y=true):Ab x u=eqV y x:=by
 cases y with
 |non=>cases r;rfl
 |bl b=>cases r;rfl
 |int i=>obtain⟨t,rfl⟩:=r;rfl
 |str z=>obtain⟨t,rfl⟩:=r;rfl
 |_=>exact absurd (show false=true from f) DM
theorem kQ (rx:RelV x v)(fx:fg x=true):∀ {xs:List V}{us:List Di},aJ xs us->xs.all fg=true->∀ u∈us,SeqAt.EqAt A s u v (Ab x u)
 |_,_,.nil,_=>λu hu=>by cases hu
 |y::xs,u::us,.cons r t,f=>λu' hu=>by
  rw[GS,Dw] at f;rcases Dx.mp hu with rfl|hu
  ·rw[qH r f.1];exact zH r rx f.1 fx
  ·exact kQ rx fx t f.2 u' hu
theorem ni:br X (.builtin "len") (λxs H Q=>∃ p ys,xs=[.ref p]/\(bj X.K H p ys\/f7 X.K H p ys)/\Q (.int ys.length) H):=by
 intro pins s σ H xs us Q I r h;obtain⟨p,ys,rfl,hq,q⟩:=h;obtain⟨u,rfl,rx⟩:=fk r;cases rx;have hn:=hU;rcases hq with hq|hq
 ·obtain⟨its,r',pl,hz⟩:=I.list hq;have hlen:=r'.length;exact Calls.call_len_list pl.isList (by simp only[DJ]<;>omega) ⟨.int ys.length,H,I.tok _,⟨s.toks+1,by rw[DJ,hlen]⟩,q⟩
 ·obtain⟨its,r',pl,hz⟩:=I.tuple hq;have hlen:=r'.length;exact len_tuple pl (by simp only[DJ]<;>omega) ⟨.int ys.length,H,I.tok _,⟨s.toks+1,by rw[DJ,hlen]⟩,q⟩
theorem iU:br X (.builtin "len") (λxs H Q=>∃ z,xs=[.str z]/\z.length<=Ds/\Q (.int z.length) H):=by
 intro pins s σ H xs us Q I r h;obtain⟨z,rfl,hz,q⟩:=h;obtain⟨u,rfl,t,rfl⟩:=fk r;have hn:=hU;exact len_str (by omega) ⟨.int z.length,H,I.tok _,⟨_,rfl⟩,q⟩
theorem br.or (h:br X f r)(h':br X f r'):br X f (λxs H Q=>r xs H Q\/r' xs H Q):=by
 intro pins s σ H xs us Q I rs q;rcases q with q|q
 ·exact h pins s σ H xs us Q I rs q
 ·exact h' pins s σ H xs us Q I rs q
theorem nM:br X (.type "list") (λxs H Q=>∃ p ys,xs=[.ref p]/\(bj X.K H p ys\/f7 X.K H p ys)/\∀ l,H l=none->Q (.ref l) (upd H l (.lst ys))):=by
 intro pins s σ H xs us Q I r h;obtain ⟨p,ys,rfl,hq,q⟩:=h;obtain ⟨u,rfl,rx⟩:=fk r;cases rx;have fin:∀ (its:List Di),aJ ys its->ys.length <= Ds->∀ (h':Fp) (c':Nat),(∀ b o',s.heap.get? b=some o'->h'.get? b=some o') ->
   h'.get? s.heap.objs.size=some { cls:=.type "list",dict:=none,data:=.seq its.toArray c',slots:=#[] }->EP X pins σ Q (.ref s.heap.objs.size) { s with heap:=h' }:=λits r' hz h' c' kp e=>
  ⟨.ref s.heap.objs.size,_,I.laid (t':=s.toks) kp (Dn _) (show be X.prog X.w _ h' _ (.lst ys) from⟨hz,its,c',r',e⟩),rfl,q _ (I.hok.fresh (Dn _))⟩
 rcases hq with hq|hq
 ·obtain⟨its,r',pl,hz⟩:=I.list hq;have hlen:=r'.length;obtain⟨o,ho,hc,n,hd⟩:=pl.isList;exact call_list_seq p (.inl rfl) ho hc hd (λh' c' kp e=>fin its r' hz h' c' kp e) (by simp only[DJ]<;>omega)
 ·obtain⟨its,r',pl,hz⟩:=I.tuple hq;have hlen:=r'.length;obtain⟨o,ho,hc,n,hd⟩:=pl;exact call_list_seq p (.inr rfl) ho hc hd (λh' c' kp e=>fin its r' hz h' c' kp e) (by simp only[DJ]<;>omega)
theorem lO:br X (.type "tuple") (λxs H Q=>∃ p ys,xs=[.ref p]/\((bj X.K H p ys/\∀ l,H l=none->Q (.ref l) (upd H l (.tup ys)))\/(f7 X.K H p ys/\Q (.ref p) H))):=by
 intro pins s σ H xs us Q I r h;obtain⟨p,ys,rfl,h⟩:=h;obtain⟨u,rfl,rx⟩:=fk r;cases rx;rcases h with ⟨hq,q⟩|⟨hq,q⟩
 ·obtain⟨its,r',pl,hz⟩:=I.list hq;have hlen:=r'.length;refine call_tuple_list pl.isList (λh' kp=>?_) (by simp only[DJ]<;>omega);have I1:av X pins σ H { s with heap:=h' }:=I.kept (t':=s.toks) kp;have I2:av X pins σ (upd H h'.objs.size (.tup ys)) { s with heap:=h'.push { cls:=.type "tuple",data:=.seq its.toArray } }:=
   I1.laid (t':=s.toks) (λb o e=>Df _ e) (Dn _) (show be X.prog X.w _ _ _ (.tup ys) from⟨hz,its,r',IsTup.new _ _⟩)
  exact⟨.ref h'.objs.size,_,I2,rfl,q _ (I1.hok.fresh (Dn _))⟩
 ·obtain⟨its,r',pl,hz⟩:=I.tuple hq;exact call_tuple_same pl ⟨.ref p,H,I,rfl,q⟩
def CG (K:Dd)(T:String)(x:V)(H:Hp):Prop:=match x with
 |.str _=>T="str"
 |.int _=>T="int"
 | .ref p=>(T="list"/\∃ xs,bj K H p xs)\/(T="tuple"/\∃ o,K.lookup p=some o/\o.cls=.type "tuple"/\o.dict=none) \/
   (T="dict"/\((∃ kvs,H p=some (.dK kvs))\/∃ kvs,H p=some (.dT kvs)))\/(T="set"/\∃ S n,H p=some (.set S n))
 |_=>False
theorem u_ (I:av X pins σ H s) (r:RelV x v) (ty:CG X.K T x H) :
  s.TypeIs v T/\∀ a,v=.ref a->∃ ob,s.heap.get? a=some ob/\ob.dict=none:=by
 cases x with
 |str z=>
  obtain⟨t,rfl⟩:=r;cases(show T="str" from ty);exact⟨IB s z t,λ_ e=>nomatch e⟩
 |int i=>
  obtain⟨t,rfl⟩:=r;cases(show T="int" from ty);exact⟨KR s i t,λ_ e=>nomatch e⟩
 |ref p=>
  cases r;rcases ty with ⟨rfl,xs,hq⟩|⟨rfl,o,hk,hc,hd⟩|⟨rfl,hk⟩|⟨rfl,S,n,hk⟩
  ·obtain⟨its,_,pl,_⟩:=I.list hq;refine⟨pl.isList.typeIs,λa e=>?_⟩;cases e;obtain⟨o,n,e,c,hd,_⟩:=pl;exact⟨o,e,hd⟩
  ·refine⟨⟨o,I.kIn p o hk,hc⟩,λa e=>?_⟩;cases e;exact⟨o,I.kIn _ o hk,hd⟩
  ·have z:∃ o,s.heap.get? p=some o/\o.ExactDict:=by
    rcases hk with ⟨kvs,hk⟩|⟨kvs,hk⟩
    ·obtain⟨_,_,_,_,o,_,_,e,ex,_⟩:=I.hok p _ hk;exact⟨o,e,ex⟩
    ·obtain⟨_,_,_,_,o,_,_,e,ex,_⟩:=I.hok p _ hk;exact⟨o,e,ex⟩
   obtain⟨o,e,ex⟩:=z;refine⟨⟨o,e,ex.1⟩,λa e2=>?_⟩;cases e2;exact⟨o,e,ex.2.1⟩
  ·obtain⟨o,_,_,_,e,ex,_⟩:=I.hok p _ hk;refine⟨⟨o,e,ex.1⟩,λa e2=>?_⟩;cases e2;exact⟨o,e,ex.2.1⟩
 |_=>exact FD ty
def C9 (K:Dd)(T:String)(r:V->List V->Hp->VK->Prop)(to:TE)(t:TA):TE:=λσ H Q=>to σ H λx H1=>CG K T x H1/\t σ H1 λxs H2=>r x xs H2 Q
variable {o e:Fs}{es:List Fs}{to:TE}{t:TA}{name:Str}{apos cpos:Pos}{T id:String}{r:V->List V->Hp->VK->Prop}
theorem dw (pa:PlainAttrs T) (slot:Slot T name id) (hty:typeOf (.builtin id)=pure (.type "method_descriptor")) (hm:BW X id r) (ho:WE X o to) (ha:WA X (e :: es) t)
  (hbase:Iz o name X.env (GI o X.env)=GI o X.env:=by rfl)
  (hfew:((HJ cpos (DO (e::es) X.env)).all (λx=>!x.1)&&(backToKw cpos (keywordEach [] X.env)).all (λx=>x.1.isSome)
   &&decide ((e::es).length+([]:List JP).length+(if([]:List JP).isEmpty then 0 else 1)<30))=true:=by rfl)
  (hline:(apos.endLine==cpos.line)=true:=by rfl)(hs:DO (e::es) X.env=(false,GI e X.env)::DO es X.env:=by rfl)(hplain:(HJ cpos (DO es X.env)).any (·.1)=false:=by rfl):
  WE X (.Call (.Attribute o name apos) (e::es) [] cpos) (C9 X.K T r to t):=by
 have ho:=ho.go;have ha:=ha.go;refine⟨?_⟩;intro pins s σ H Q I h;refine Kl hbase hfew hline rfl (bo (ho pins s σ H _ I h) λv s1 ⟨x,H1,I1,r1,ty,q1⟩=>?_);obtain⟨h1,h2⟩:=u_ I1 r1 ty;refine⟨T,id,pa,slot,hty,h1,h2,?_⟩;have hA:=ha cpos pins s1 σ H1 _ I1 q1;rw[hs] at hA ⊢;refine HP (by show(false||(HJ cpos (DO es X.env)).any (·.1))=false;rw[hplain]<;>rfl) (Io ?_);exact bo hA λus s2 ⟨vs,H2,I2,r2,q2⟩=>hm pins s2 σ H2 x vs v us Q I2 r1 r2 q2
end
def B9 (X:Cx)(id:String)(r:V->List V->Hp->VK->Prop):Prop:=
 ∀ (pins:List (Du×Obj)) (s:Dk) (σ:St) (H:Hp) (x:V) (xs:List V) (v:Di) (us:List Di) (Q:VK),av X pins σ H s->RelV x v->aJ xs us->r x xs H Q ->
  Dy (DK X.prog X.w) X.A (call (.builtin id) (v::us)) (EP X pins σ Q) X.xe s
theorem aJ.one:∀ {x:V}{us:List Di},aJ [x] us->∃ u,us=[u]/\RelV x u
 |_,_,.cons r .nil=>⟨_,rfl,r⟩
theorem aJ.rep (h:aJ xs us):∀ k:Nat,aJ (Dz k xs).flatten (Dz k us).flatten
 |0=>.nil
 |k+1=>by
  rw[Ft,Ft,GU,GU];exact aJ.append h (aJ.rep h k)
theorem me (its:List Di):∀ (k:Nat) (acc:List Di),
  MG (λx1 x2=>x1++x2) acc.toArray (Dz k its.toArray)=(acc++(Dz k its).flatten).toArray
 |0,acc=>by simp
 |k+1,acc=>by
  have e:acc.toArray++its.toArray=(acc++its).toArray:=by simp
  have e2:(acc++its)++(Dz k its).flatten=acc++(Dz (k+1) its).flatten:=by
   rw[Ft,GU,F']
  rw[<- e2,<- me its k (acc++its),<- e,Ft,List.foldl_cons]
section
variable {X:Cx}{pins:List (Du×Obj)}{σ:St}{H:Hp}{s:Dk}{l b:Du}{xs ys zs:List V}
theorem av.lnew {t':Nat} (I:av X pins σ H s) (hv:aJ ys its) (hz:ys.length <= Ds) :
  av X pins σ (upd H s.heap.objs.size (.lst ys)) { s with heap:=s.heap.push { cls:=.type "list",data:=.seq its.toArray },toks:=t' }:=
 I.laid (λ_ _ q=>Df _ q) (Dn _) ⟨hz,its,0,hv,Dl _ rfl⟩
theorem av.fresh (I:av X pins σ H s):H s.heap.objs.size=none:=I.hok.fresh (Dn _)
theorem av.lstM (I:av X pins σ H s)(hH:H l=some (.lst xs)):xs.length<=Ds/\∃ (its:List Di) (n:Nat),aJ xs its/\xs.length=its.length/\s.heap.get? l=some { cls:=.type "list",data:=.seq its.toArray n }:=by
 obtain⟨z,its,n,r,e⟩:=I.hok l _ hH;exact⟨z,its,n,r,r.length,e⟩
theorem uI {n:Nat}(h:n<=Ds):Ht n=false:=by
 unfold Ht;exact DR (by omega)
end
section
variable {X:Cx}
def Ci:R2:=λx y H Q=>∃ l b xs zs,x=.ref l/\y=.ref b/\H l=some (.lst xs)/\H b=some (.lst zs)/\xs.length+zs.length<=Ds/\∀ p,H p=none->Q (.ref p) (upd H p (.lst (xs++zs)))
theorem fM:gg X (Ie .Add) Ci:=by
 intro pins s σ H x y v u Q I rx ry h;obtain⟨l,b,xs,zs,rfl,rfl,hH,hB,hz,q⟩:=h;cases rx;cases ry;obtain⟨z,its,n,r,hl,e⟩:=I.lstM hH;obtain⟨z2,its2,n2,r2,hl2,e2⟩:=I.lstM hB;refine PySem.P.add_list e e2 ?_ (by rw[DJ,DJ];omega);have ea:its.toArray++its2.toArray=(its++its2).toArray:=by simp
 rw[ea];exact⟨.ref _,_,I.lnew (t':=s.toks) (r.append r2) (by rw[EF];omega),rfl,q _ I.fresh⟩
def yr:R2:=λx y H Q=>∃ l k xs,x=.ref l/\y=.int k/\H l=some (.lst xs)/\-(2^63)<=k/\k<2^63/\xs.length*k.toNat<=Ds /\
 ∀ p,H p=none->Q (.ref p) (upd H p (.lst (Dz k.toNat xs).flatten))
theorem wC (xs:List α)(k:Nat):(Dz k xs).flatten.length=k*xs.length:=by
 induction k with
 |zero=>simp
 |succ k ih=>rw[Ft,GU,EF,ih,Jf,Nat.add_comm]
theorem uz:gg X (Ie .Mult) yr:=by
 intro pins s σ H x y v u Q I rx ry h;obtain⟨l,k,xs,rfl,rfl,hH,h1,h2,hz,q⟩:=h;cases rx;obtain⟨t,rfl⟩:=ry;obtain⟨z,its,n,r,hl,e⟩:=I.lstM hH;have hlen:its.toArray.size*k.toNat<=Ds:=by rw[DJ,<- hl];exact hz
 have hcap:¬ its.toArray.size*k.toNat>(2^63-1)/8:=by
  have:(Ds:Nat)<=(2^63-1)/8:=by decide
  omega
 have hfit:¬ (!Builtin.List.listFitsIndex k)=true:=by
  rw[fitsIndex_both h1 h2];exact DM
 have hlong:¬ Ht (its.toArray.size*k.toNat)=true:=by
  rw[uI hlen];exact DM
 have hnew:MG (λx1 x2=>x1++x2) #[] (Dz (if its.toArray.isEmpty=true then 0 else k.toNat) its.toArray)=(Dz k.toNat its).flatten.toArray:=by
  have f0:∀ m:Nat,MG (λx1 x2=>x1++x2) #[] (Dz m its.toArray)=(Dz m its).flatten.toArray:=λm=>by
   have:=me its m [];rw[List.nil_append] at this;exact this
  rw[f0];cases its with
  |nil=>simp
  |cons a r'=>rw[DS (by simp)]
 refine Js (T:="list") (U:="int") (by decide) ⟨_,e,rfl⟩ (λs'=>KR s' k t) noFill_list_mul Lr HD repeat_list K_.lookup
  (Hv HD (KR s k t) K' (KW _ _) (int___rmul___int_list k t l its.toArray n)
   ⟨e,rfl,⟨_,e,rfl⟩,Hv F.slot_list_mul ⟨_,e,rfl⟩ F.entry_list_mul (F.args_list_mul_2 _ _) (AutoListH.list___mul___list_int_3 l its.toArray n k t hfit hcap hlong) ⟨e,?_⟩⟩)
 rw[hnew];exact⟨.ref _,_,I.lnew (t':=s.toks) (r.rep k.toNat) (by rw[wC,Me];exact hz),rfl,q _ I.fresh⟩
end
end L2
namespace Att
open PySem PySem.W PySem.Calls PyProof.Rows
theorem jC:∀ (ns:List Int) (vs:List Di),WellAll P h vs (ns.map WData.int)->Ho vs ns:=by
 intro ns
 induction ns with
 |nil=>
  intro vs w;rw[KA] at w;cases w;exact .nil
 |cons n ns ih=>
  intro vs w;rw[DP] at w;cases w with
  |cons a b=>
   cases a;exact .cons _ _ (ih _ b)
theorem rS {l:OpenLaw}{n:Nat} (hn:l.most=some n) {P:Params}{h:Fp}{args:List WData}{vals:List Di}
  (hpre:l.row.toRowW.claim.pre args=true)(hwl:WellAll P h vals args):
  ∃ a vs ns,vals=[DQ a]/\args=[WData.list (ns.map WData.int)]/\h.get? a=some { cls:=.type "list",data:=.seq vs.toArray }/\Ho vs ns/\ns.length<=n:=by
 have hsh:WShape.hasAll [] args [.list .int]=true:=(pre_splitW hpre).1;have hc:l.pre.holds [] { args:=args }=true:=(pre_splitW hpre).2;obtain⟨d,r,rfl,h1,h2⟩:=hasAllW_cons hsh;obtain rfl:=hasAllW_nil h2;obtain⟨xs,rfl,h3⟩:=hasW_list h1;obtain⟨ns,rfl⟩:=items_int h3;have hlen:ns.length<=n:=by
  unfold OpenLaw.pre at hc;have h4:(WTm.not (.lt (.lit (.int (n:Int))) (.len (.arg 0)))).holds [] { args:=[.list (ns.map .int)] }=true:=by
   have h4:=(holds_andW hc).1;rw[hn] at h4;exact h4
  have h5:=condW_of h4 (w_not (w_lt w_lit (w_len_list (w_arg rfl))));rw[Dh] at h5;refine Nat.le_of_not_lt λq=>?_
  have q':(n:Int)<((ns.length:Nat):Int):=by omega
  first
   |(rw[DE q'] at h5;exact absurd h5 (by decide))
   |(simp at h5;omega)
 cases hwl with
 |cons w1 w2=>
  cases w2;cases w1 with
  |list ho hall=>exact⟨_,_,ns,rfl,rfl,ho,jC ns _ hall,hlen⟩
theorem sU (l:OpenLaw)(args:List WData):l.row.toRowW.claim.post args (.bool true) args=true:=
 postW_of (r:=l.row.toRowW) (X:=(true==true))
  (show WShape.has [] (.bool true) .bool=true by first|rfl|decide|simp[WShape.has,WShape.arms,WShape.armsAll])
  (show(WTm.eq .res (.lit (.bool true))).value [] { args:=args,res:=some (.bool true),after:=args }=some (.bool (true==true)) from w_eq_bool (w_res rfl) w_lit) rfl
theorem attach_call {l:OpenLaw}{n:Nat}{q:DN}{loose:List Str}{XP:(Str->Option Di)->Fp->Prop}{YP:Ez->Fp->Prop}{d:DefRec}
  (hn:l.most=some n)(hdf:d.params.defaults=[])
  (call:∀ (w:Ez) (s₀ s₁:Dk) (mg mb:Str->Option Di) (fa:Du) (o:Obj) (pm cd doc:Di) (a:Du) (vs:List Di) (ns:List Int),
   Ground q loose [] XP w s₀ mg mb s₁.heap->YP w s₁.heap ->
   s₁.heap.get? fa=some o->o.data=.func (docDef d.name d.params d.body d.scope pm cd doc)->s₁.heap.CodeRec cd d.name->mg d.name=some (.ref fa) ->
   s₁.heap.get? a=some { cls:=.type "list",data:=.seq vs.toArray }->Ho vs ns->ns.length<=n->s₁.gens=#[] ->
   Gq (DK l.prog w) MA (.call (.ref fa) ⟨[.ref a],[]⟩) (λr s'=>r=.ok (.ret (.bool true))/\OldK s₁.heap s'.heap/\s'.os=s₁.os/\Ko s'.gens) s₁) :
  WalkO q loose XP YP l.row.toRowW d [] (λf vs=>MH f vs):=by
 intro w s₀ s₁ mg mb G Y fa o pm cd doc dV kV ho hd hcd hD hmg hg args vals as hpre hlay hrd hwl hlo;obtain rfl:dV=.none:=Dflts.none hD hdf;obtain rfl:kV=.none:=Dflts.noKw hD;obtain⟨a,vs,ns,rfl,rfl,hobj,hints,hlen⟩:=rS hn hpre hwl;refine enter_call (GP (call w s₀ s₁ mg mb fa o pm cd doc a vs ns G Y ho (fd_plain hd) hcd hmg hobj hints hlen hg) λr s' hq=>?_);obtain⟨rfl,h2,h3,h4⟩:=hq;exact⟨.inl ⟨.bool true,.bool true,[],rfl,λ_=>rfl,.bool true,sU l _,λ_=>⟨JA,λ_ hm=>(nomatch hm)⟩⟩,h2,h3,h4⟩
end Att
namespace L2
open PySem PySem.Spec PyProof.Rows
theorem eG:∀ {vs:List Di}{ns:List Int},Ho vs ns->aJ (ns.map V.int) vs
 |_,_,.nil=>.nil
 |_,_,.cons n t h=>.cons ⟨t,rfl⟩ (eG h)
end L2
namespace L2
open PySem PySem.Spec PyProof.Rows
def f6 (s:Gv)(j:Nat):Gv:=match s with
 |.ClassDef _ _ _ body _ _ _ _ _ _ _=>body.getD j (.Pass ⟨0,0,0,0⟩)
 |_=>.Pass ⟨0,0,0,0⟩
def aW (s:Gv):Arguments:=match s with
 |.FunctionDef _ a _ _ _ _ _ _ _ _=>a
 |_=>{ posonlyargs:=[],args:=[],vararg:=none,kwonlyargs:=[],kw_defaults:=[],kwarg:=none,defaults:=[] }
def aR (s:Gv):List Gv:=match s with
 |.FunctionDef _ _ b _ _ _ _ _ _ _=>b
 |_=>[]
def ai (s:Gv):He:=match s with
 |.FunctionDef _ _ _ _ _ _ sc _ _ _=>sc
 |_=>{ kind:=.function,names:=[],isGenerator:=false,isCoroutine:=false }
abbrev E0:XK:=λ_ _ _=>False
structure AT (K:Dd)(x qual:Str)(st:Gv)(f:Du)(fd:F8):Prop where
 ex:∃ (oc:Di) (od:Option Du) (kV doc pm:Di) (an:Option Du) (cdv ct:Di) (osl:Array (Option Di)),
  fd=DY x qual (aW st) (aR st) (ai st) .none kV doc pm an cdv ct/\K.lookup f=some ⟨oc,od,.func fd,osl⟩/\E_ K cdv qual=true
 kp:EL K (.ref f)=true
section
variable {P:DN}{w:Ez}{K:Dd}{mg:Str->Option Di}{base:Fp}
theorem yo {x qual:Str}{st:Gv}{f:Du}{oc:Di}{od an:Option Du}{osl:Array (Option Di)}{kV doc pm cdv ct:Di} (l:K.lookup f=some ⟨oc,od,.func (DY x qual (aW st) (aR st) (ai st) .none kV doc pm an cdv ct),osl⟩)
  (c:E_ K cdv qual=true)(k:EL K (.ref f)=true):AT K x qual st f (DY x qual (aW st) (aR st) (ai st) .none kV doc pm an cdv ct):=⟨⟨oc,od,kV,doc,pm,an,cdv,ct,osl,rfl,l,c⟩,k⟩
end
theorem bP {n:Nat}(h:n<=1000):n<Ds:=Je h (by decide)
section
variable {X:Cx}
theorem pv (i:Nat) (hN:X.N[i]?=some x:=by rfl) (hv:z9 X.env.scope x:=by first | exact Or.inl rfl | exact Mw (Or.inl rfl) | exact Mw (Mw rfl)) (hd:(x == ("__debug__":Str))=false:=by decide)
  (hcd:(x==("__classdict__":Str))=false:=by decide):PE X (.Name x pos) (yD i):=zn hN hv hd hcd
end
theorem aO {A B:Prop}(h:B):if false=true then A else B:=by
 rw[DS DM];exact h
theorem aN {A B:Prop}(h:A):if true=true then A else B:=by
 rw[Ee rfl];exact h
theorem ib {c A B:Prop}[Decidable c](h1:c->A)(h2:¬ c->B):if c then A else B:=by
 by_cases h:c
 ·rw[Ee h];exact h1 h
 ·rw[DS h];exact h2 h
theorem yb {c A B:Prop}[Decidable c](hc:c)(h:B):if(!decide c)=true then A else B:=by
 rw[DE hc];exact aO h
def ae (H H':Hp):Prop:=∀ b o,H b=some o->H' b=some o
theorem ae.refl (H:Hp):ae H H:=λ_ _ h=>h
theorem ae.trans (a:ae H H1)(b:ae H1 H2):ae H H2:=λc o h=>b c o (a c o h)
theorem ae.free (e:ae H H')(h:H' l=Option.none):H l=Option.none:=by
 cases q:H l with
 |none=>rfl
 |some o=>
  rw[e l o q] at h;cases h
theorem ae.seq {K:Dd}{H H':Hp}{a:Du}{xs:List V}(e:ae H H')(h:bj K H a xs):bj K H' a xs:=by
 rcases h with (h|⟨o,h⟩)|h
 ·exact .inl (.inl (e _ _ h))
 ·exact .inl (.inr ⟨o,e _ _ h⟩)
 ·exact .inr h
end L2
set_option Elab.async false
set_option linter.all false
set_option maxRecDepth 100000
set_option maxHeartbeats 4000000
namespace TR
def vH (t b n d:Int):Prop:=0<d/\Go n d=1/\n*b=t*d
def Sm (k:Nat)(x:Int):Prop:=x.natAbs<2^k
theorem tN {a b:Int}(ha:0<=a)(hb:0<b):Go b (a%b)=Go a b:=by
 obtain⟨x,rfl⟩:=HE ha;obtain⟨y,rfl⟩:=HE (Ks hb);show Nat.gcd y ((x:Int)%(y:Int)).natAbs=Nat.gcd x y;rw[show((x:Int)%(y:Int)).natAbs=x%y from rfl,Nat.gcd_comm,<- Nat.gcd_rec,Nat.gcd_comm]
theorem qA {k m n:Int}(h:k∣m*n)(c:Go k m=1):k∣n:=by
 have h':k.natAbs∣m.natAbs*n.natAbs:=by rw[<- Jl];exact Kt.mpr h
 exact Kt.mp (Nat.Coprime.dvd_of_dvd_mul_left (show Nat.Coprime k.natAbs m.natAbs from c) h')
theorem zd {t b g m:Int}(hb:b≠0)(hg:g=(Go t b:Int))(hm:m=if b<0 then -g else g):vH t b (t.fdiv m) (b.fdiv m):=by
 have hgp:0<g:=by
  rw[hg];have:0<Go t b:=Iy _ hb;omega
 have dt:g∣t:=by rw[hg];exact Int.gcd_dvd_left ..
 have db:g∣b:=by rw[hg];exact Int.gcd_dvd_right ..
 obtain⟨x,hx⟩:=dt;obtain⟨y,hy⟩:=db;have hco:Go x y=1:=by
  have h1:Go t b=Go x y*g.natAbs:=by
   rw[hx,hy,Int.gcd_mul_left,Me]
  have h2:g.natAbs=Go t b:=by rw[hg];rfl
  have h3:0<g.natAbs:=by omega
  rw[<- h2] at h1;exact Nat.eq_of_mul_eq_mul_right h3 (by omega)
 by_cases hn:b<0
 ·have em:m=-g:=by rw[hm,Ee hn]
  have hy0:y<0:=by
   rw[hy] at hn;rcases Int.lt_or_le y 0 with h|h
   ·exact h
   ·have:=F4 (Ks hgp) h;omega
  have e1:t.fdiv m=-x:=by
   have e:t=m*(-x):=by rw[em,Int.neg_mul_neg];exact hx
   rw[e];exact F9 _ (by omega)
  have e2:b.fdiv m=-y:=by
   have e:b=m*(-y):=by rw[em,Int.neg_mul_neg];exact hy
   rw[e];exact F9 _ (by omega)
  rw[e1,e2];refine⟨by omega,by rw[Int.gcd_neg,Int.neg_gcd];exact hco,?_⟩;rw[Int.neg_mul,Ms,hx,hy,Jz,HF]
 ·have em:m=g:=by rw[hm,DS hn]
  have hy0:0<y:=by
   have hb':0<b:=by omega
   rw[hy] at hb';rcases Int.lt_or_le 0 y with h|h
   ·exact h
   ·have:=F4 (Ks hgp) (show 0<=-y by omega);rw[Ms] at this;omega
  have e1:t.fdiv m=x:=by
   rw[hx,em];exact F9 _ (by omega)
  have e2:b.fdiv m=y:=by
   rw[hy,em];exact F9 _ (by omega)
  rw[e1,e2];refine⟨hy0,hco,?_⟩;rw[hx,hy,Jz,HF]
theorem p9 {t b n d n' d':Int}(hb:b≠0)(h:vH t b n d)(h':vH t b n' d'):n=n'/\d=d':=by
 obtain⟨h1,h2,h3⟩:=h;obtain⟨k1,k2,k3⟩:=h';have e:n*d'=n'*d:=by
  have e1:b*(n*d')=b*(n'*d):=by
   have a1:b*(n*d')=(n*b)*d':=by rw[Hu n b,HF]
   have a2:b*(n'*d)=(n'*b)*d:=by rw[Hu n' b,HF]
   rw[a1,a2,h3,k3,HF,HF,Hu d d']
  exact Jk hb e1
 have dd:d∣d':=by
  have:d∣n*d':=⟨n',by rw[e,Hu]⟩
  exact qA this (by rw[Ma];exact h2)
 have dd':d'∣d:=by
  have:d'∣n'*d:=⟨n,by rw[<- e,Hu]⟩
  exact qA this (by rw[Ma];exact k2)
 have l1:=Int.le_of_dvd k1 dd;have l2:=Int.le_of_dvd h1 dd';have ed:d=d':=by omega
 subst ed;exact⟨Int.eq_of_mul_eq_mul_right (by omega) e,rfl⟩
theorem kR {t b n d:Int}(hb:b≠0)(h:vH t b n d):n.natAbs<=t.natAbs/\d.natAbs<=b.natAbs:=by
 obtain⟨h1,h2,h3⟩:=h;have db:d∣b:=by
  have:d∣n*b:=⟨t,by rw[h3,Hu]⟩
  exact qA this (by rw[Ma];exact h2)
 obtain⟨y,hy⟩:=db;have e:t=n*y:=by
  have:d*(n*y)=d*t:=by
   rw[Jz,<- hy,h3,Hu]
  exact(Jk (by omega) this).symm
 have hy0:y≠0:=by rintro rfl;simp at hy;exact hb hy
 have hp:0<y.natAbs:=by omega
 constructor
 ·rw[e,Jl];exact JQ _ hp
 ·rw[hy,Jl];exact JQ _ hp
theorem Sm.mono {k j:Nat}{x:Int}(h:Sm k x)(l:k<=j):Sm j x:=DD h (Nat.pow_le_pow_right (by decide) l)
theorem Sm.mul {k j:Nat}{x y:Int}(h:Sm k x)(h':Sm j y):Sm (k+j) (x*y):=by
 unfold Sm at *;rw[Jl,Nat.pow_add];exact Nat.mul_lt_mul'' h h'
theorem Sm.neg {k:Nat}{x:Int}(h:Sm k x):Sm k (-x):=by
 unfold Sm at *;rw[Int.natAbs_neg];exact h
theorem Sm.le {k:Nat}{x y:Int}(h:Sm k x)(l:y.natAbs<=x.natAbs):Sm k y:=Je l h
theorem wk (a b:Int):Go (if a<0 then -a else a) (if b<0 then -b else b)=Go a b:=by
 split<;>split<;>simp
theorem yV {t b:Int}(hb:b≠0):((Go t b:Int)).natAbs<=b.natAbs:=by
 have:Go t b∣b.natAbs:=Nat.gcd_dvd_right ..;exact Nat.le_of_dvd (by omega) this
open PySem PySem.Spec PyProof.Rows L2
theorem qM:Ey "int"=some (.type "int"):=by decide +kernel
theorem wx:Ey "bool"=some (.type "bool"):=by decide +kernel
theorem fu:Ey "tuple"=some (.type "tuple"):=by decide +kernel
theorem iQ:Ey "list"=some (.type "list"):=by decide +kernel
theorem uL:Ey "str"=some (.type "str"):=by decide +kernel
theorem qY:Ey "dict"=some (.type "dict"):=by decide +kernel
theorem yS:Ey "set"=some (.type "set"):=by decide +kernel
theorem bU:Ey "len"=some (.builtin "len"):=by decide +kernel
theorem zl:Ey "max"=some (.builtin "max"):=by decide +kernel
theorem qw:Ey "min"=some (.builtin "min"):=by decide +kernel
theorem dP:Ey "all"=some (.builtin "all"):=by decide +kernel
theorem mn:Ey "sorted"=some (.builtin "sorted"):=by decide +kernel
theorem ax:Ey "isinstance"=some (.builtin "isinstance"):=by decide +kernel
mutual
inductive aQ (K:Dd)(H:Hp):DZ->V->Prop
 |non:aQ K H .none .non
 |bl (b:Bool):aQ K H (.bool b) (.bl b)
 |int (i:Int):aQ K H (.int i) (.int i)
 |str (x:Str):aQ K H (.str x) (.str x)
 |lst {a:Du}{xs:List V}{ds:List DZ}:Rd H a (.lst xs)->aw K H ds xs->aQ K H (.list ds) (.ref a)
 |tup {a:Du}{xs:List V}{ds:List DZ}:H a=some (.tup xs)->aw K H ds xs->aQ K H (.tuple ds) (.ref a)
 |dct {a:Du}:H a=some (.dK [])->aQ K H (.dict []) (.ref a)
inductive aw (K:Dd)(H:Hp):List DZ->List V->Prop
 |nil:aw K H [] []
 |cons {d:DZ}{v:V}{ds:List DZ}{vs:List V}:aQ K H d v->aw K H ds vs->aw K H (d::ds) (v::vs)
end
section
variable {X:Cx}{pins:List (Du×Obj)}{σ:L2.St}{H H':Hp}{s:Dk}
mutual
theorem kO (I:av X pins σ H s):∀ {d:DZ}{v:V}{u:Di},aQ X.K H d v->RelV v u->∃ as,Reads s.heap u d as
 |_,_,_,.non,r=>by cases r;exact⟨_,.none⟩
 |_,_,_,.bl b,r=>by cases r;exact⟨_,.bool b⟩
 |_,_,_,.int i,r=>by obtain⟨t,rfl⟩:=r;exact⟨_,.int i t⟩
 |_,_,_,.str x,r=>by obtain⟨t,rfl⟩:=r;exact⟨_,.str x t⟩
 |_,_,_,.lst h q,r=>by
  cases r;obtain⟨its,rv,⟨o,n,e,c,_,d⟩,_⟩:=I.list (.inl h);obtain⟨as,z⟩:=fX I q rv;exact⟨_,.list e c d (by simpa using z)⟩
 |_,_,_,.tup h q,r=>by
  cases r;obtain⟨its,rv,⟨o,e,c,n,d⟩,_⟩:=I.tuple (.inl (.inl h));obtain⟨as,z⟩:=fX I q rv;exact⟨_,.tuple e c d (by simpa using z)⟩
 |_,_,_,.dct h,r=>by
  cases r;obtain⟨_,_,vs,kv,o,es,ep,e1,e2,e3,_,e4,_⟩:=(show be X.prog X.w H s.heap _ (.dK []) from I.hok _ _ h)
  cases kv;have ee:es.toList=[]:=by
   cases z:es.toList with
   |nil=>rfl
   |cons y l=>rw[z] at e4;cases e4
  exact⟨_,.dict (kvs:=[]) e1 e2.1 e3 (by rw[ee];exact .nil) (by rw[ee];exact .nil)⟩
theorem fX (I:av X pins σ H s):∀ {ds:List DZ}{vs:List V}{us:List Di},aw X.K H ds vs->aJ vs us->∃ as,ReadsAll s.heap us ds as
 |_,_,_,.nil,.nil=>⟨_,.nil⟩
 |_,_,_,.cons h q,.cons r rr=>by
  obtain⟨as,z⟩:=kO I h r;obtain⟨bs,y⟩:=fX I q rr;exact⟨_,.cons z y⟩
end
end
theorem uK {K:Dd}{H H':Hp}{a:Du}{xs:List V}(e:ae H H')(h:f7 K H a xs):f7 K H' a xs:=by
 rcases h with (h|⟨o,h⟩)|h
 ·exact .inl (.inl (e _ _ h))
 ·exact .inl (.inr ⟨o,e _ _ h⟩)
 ·exact .inr h
theorem Rd.same (e:ae H H')(h:Rd H a u):Rd H' a u:=by
 rcases h with h|⟨o,h⟩
 ·exact .inl (e _ _ h)
 ·exact .inr ⟨o,e _ _ h⟩
mutual
theorem aQ.same {K:Dd}{H H':Hp}(e:ae H H'):∀ {d:DZ}{v:V},aQ K H d v->aQ K H' d v
 |_,_,.non=>.non
 |_,_,.bl b=>.bl b
 |_,_,.int i=>.int i
 |_,_,.str x=>.str x
 |_,_,.lst h q=>.lst (Rd.same e h) (aw.same e q)
 |_,_,.tup h q=>.tup (e _ _ h) (aw.same e q)
 |_,_,.dct h=>.dct (e _ _ h)
theorem aw.same {K:Dd}{H H':Hp}(e:ae H H'):∀ {ds:List DZ}{vs:List V},aw K H ds vs->aw K H' ds vs
 |_,_,.nil=>.nil
 |_,_,.cons h q=>.cons (aQ.same e h) (aw.same e q)
end
theorem ae.new (h:H p=none):ae H (upd H p o):=λb u e=>by rw[ap (aK e h)];exact e
def Mv (T:List Du)(H H':Hp):Prop:=∀ b o,H b=some o->b∉T->H' b=some o
theorem Mv.of (h:ae H H'):Mv T H H':=λb o e _=>h b o e
theorem Mv.refl:Mv T H H:=λ_ _ e _=>e
theorem Mv.trans (a:Mv T H H1)(b:Mv T H1 H2):Mv T H H2:=λc o e n=>b c o (a c o e n) n
mutual
def lP:DZ->Bool
 |.tuple xs=>gG xs
 |.none=>true
 |.bool _=>true
 |.int _=>true
 |.str _=>true
 |_=>false
def gG:List DZ->Bool
 |[]=>true
 |x::xs=>lP x&&gG xs
end
def cV (H:Hp)(T:List Du):Prop:=∀ b∈T,∃ xs,H b=some (.lst xs)
theorem cV.not (h:cV H T)(e:H b=some o)(n:∀ xs,o≠.lst xs):b∉T:=λm=>by
 obtain⟨xs,q⟩:=h b m;rw[e] at q;exact n xs (Dm q)
mutual
theorem aQ.mv {K:Dd}{T:List Du}{H H':Hp}(e:Mv T H H')(l:cV H T):∀ {d:DZ}{v:V},lP d=true->aQ K H d v->aQ K H' d v
 |_,_,_,.non=>.non
 |_,_,_,.bl b=>.bl b
 |_,_,_,.int i=>.int i
 |_,_,_,.str x=>.str x
 |_,_,t,.lst _ _=>by simp[lP] at t
 |_,_,t,.tup h q=>.tup (e _ _ h (l.not h λ_ z=>nomatch z)) (aw.mv e l (by simpa [lP] using t) q)
 |_,_,t,.dct _=>by simp[lP] at t
theorem aw.mv {K:Dd}{T:List Du}{H H':Hp}(e:Mv T H H')(l:cV H T):∀ {ds:List DZ}{vs:List V},gG ds=true->aw K H ds vs->aw K H' ds vs
 |_,_,_,.nil=>.nil
 |_,_,t,.cons h q=>by
  simp only[gG,Dw] at t;exact .cons (aQ.mv e l t.1 h) (aw.mv e l t.2 q)
end
section
variable {X:Cx}
def A5 (K:Dd):R2:=λx y H Q=>∃ d e,aQ K H d x/\aQ K H e y/\SeqAt.shaped d=true/\SeqAt.shaped e=true/\Q (.bl (!PyData.eqv d e)) H
theorem yN (hu:X.A.units+64<cLine):gg X (Fk .NotEq) (A5 X.K):=by
 intro pins s σ H x y v u Q I rx ry h;obtain⟨d,e,hd,he,sd,se,q⟩:=h;obtain⟨as,r1⟩:=kO I hd rx;obtain⟨bs,r2⟩:=kO I he ry;exact ne_dataH r1 r2 sd se hu ⟨.bl _,H,I,rfl,q⟩
def va (K:Dd):R2:=λx y H Q=>∃ a b ns,x=.ref a/\y=.ref b/\bj K H a (ns.map V.int)/\H b=some (.lst [])/\Q (.bl (!decide (ns=[]))) H
theorem uh (hu:X.A.units+64<cLine):gg X (Fk .NotEq) (va X.K):=by
 intro pins s σ H x y v u Q I rx ry h;obtain⟨a,b,ns,rfl,rfl,ha,hb,q⟩:=h;cases rx;cases ry;obtain⟨xs,r1,pl,_⟩:=I.list ha;obtain⟨ys,r2,pl2,_⟩:=I.list (bj.of (K:=X.K) hb);cases r2;exact PySem.W.ke_ne_ints pl.isList pl2.isList (qi r1) .nil hu ⟨.bl _,H,I,rfl,q⟩
theorem eW:gg X (Fk .Eq) (vR λi j=>.bl (decide (i=j))):=sP λ_ _ _ _ _ _ _ q=>eq_int (by rw[Kp];exact q)
theorem gO:gg X (Fk .NotEq) (vR λi j=>.bl (!decide (i=j))):=sP λ_ _ _ _ _ _ _ q=>ne_int (by rw[bne,Kp];exact q)
theorem Sm.bits {k:Nat}{x:Int}(h:Sm k x):K7 x<=k:=by
 unfold K7
 split
 ·exact ES _
 ·rename_i hx
  have h0:x.natAbs≠0:=by
   intro z;apply hx;have:x=0:=by omega
   subst this;rfl
  have:x.natAbs.log2<k:=(Mu h0).mpr h;omega
def Ap (i j:Int):Prop:=(Sm 8000 i/\Sm 8000 j)\/Sm 64 i
theorem cM:gg X (Ie .Mult) (rI Ap λi j=>.int (i*j)):=Bo λi j _ _ _ _ _ hc q=>mul_int q (by
 rcases hc with ⟨h1,h2⟩|h1
 ·exact IntMulOk.of_bits (Dt h1.bits (by decide)) (Dt h2.bits (by decide))
 ·exact IntMulOk.of_left h1.bits)
def A4 (_ j:Int):Prop:=j≠0/\Sm 8000 j
theorem eI:gg X (Ie .FloorDiv) (rI A4 λi j=>.int (i.fdiv j)):=Bo λi j _ _ _ _ _ hc q=>floordiv_int hc.1 q (.inl (PyProof.noPylong_of_log2 (by
 by_cases h0:j.natAbs=0
 ·rw[h0];decide
 ·exact DD ((Mu h0).mpr hc.2) (by decide))))
def bw (a b:String):Option Bool:=if((FM a==FM b)=true) then some true else if Mx b=true then(fastBuiltinMro a).map (·.contains (.type b)) else none
theorem nZ (K:Dd)(a b:String):E5 K (.type a) (.type b)=bw a b:=rfl
abbrev Ty (K:Dd)(H:Hp)(x:V)(T:String):Prop:=iC K H x (.type T)
def yH (K:Dd):List V->Hp->VK->Prop:=λxs H Q=>∃ x T S b,xs=[x,.ty S]/\Ty K H x T/\bw T S=some b/\Q (.bl b) H
theorem oY:br X (.builtin "isinstance") (yH X.K):=by
 intro pins s σ H xs us Q I r h;obtain⟨x,T,S,b,rfl,ty,e,q⟩:=h;obtain⟨u,v,rfl,rx,rv⟩:=iB r;cases(show v=FM S from rv);exact eE I rx ty (by rw[nZ];exact e) λtk=>⟨.bl b,H,I.tok tk,rfl,q⟩
end
def z_:DZ->String
 |.none=>"NoneType"
 |.bool _=>"bool"
 |.int _=>"int"
 |.str _=>"str"
 |.list _=>"list"
 |.tuple _=>"tuple"
 |.dict _=>"dict"
theorem aQ.ty {K:Dd}{H:Hp}{d:DZ}{x:V}(h:aQ K H d x):Ty K H x (z_ d):=by
 cases h with
 |non=>exact .non
 |bl b=>exact .bl b
 |int i=>exact .int i
 |str x=>exact .str x
 |lst h _=>
  rcases h with h|⟨o,h⟩
  ·exact .lst h
  ·exact .frz h
 |tup h _=>exact .tup h
 |dct h=>exact .dK h
def yM (CX:iG):Prop:=∀ outer H s e s',CX outer H s E0 e s'->False
theorem rB (h:yM CX):mV CX X E0:=λ_ _ _ _ _ _ _ z=>(h _ _ _ _ _ z).elim
structure dA (P:DN)(w:Ez)(K:Dd)(mg:Str->Option Di)(base:Fp)(CX:iG)(k:Nat)(x:Str)(ps:List Str)(dvs:List V)(sp:Sp):Prop where
 ex:∃ (f:Du) (fd:F8) (ds:List Di),iX P w K mg base CX k f fd ps sp/\mg x=some (.ref f)/\EL K (.ref f)=true/\gJ K fd ps ds/\aJ dvs ds
section
variable {X:Cx}{CX:iG}{k:Nat}{x:Str}{ps:List Str}{sp:Sp}{dvs:List V}{p pos:Pos}{e:Fs}{es:List Fs}{t:TA}
theorem wm (hX:yM CX) (C:dA X.prog X.w X.K X.mg X.base CX k x ps dvs sp) (hr:Room k X.A) (hg:Gl X x) (ha:WA X (e :: es) t) (hdb:(x == ("__debug__":Str))=false:=by decide)
  (he:DO (e::es) X.env=(false,GI e X.env)::DO es X.env:=by rfl)(hpl:(HJ pos (DO es X.env)).any (·.1)=false:=by rfl):WE X (.Call (.Name x p) (e::es) [] pos) (ul sp dvs E0 t):=by
 have ha:=ha.go;refine⟨?_⟩;obtain⟨f,fd,ds,F,hm,hk,hb,hv⟩:=C.ex;exact wF F hr hg hm hk hb hv (rB hX) ha hdb he hpl
end
structure dz (K:Dd)(mg:Str->Option Di)(x:Str)(st:Gv)(ps:List Str)(dvs:List V):Prop where
 ex:∃ (f:Du) (fd:F8) (oc:Di) (od:Option Du) (dV kV doc pm:Di) (an:Option Du) (cdv ct:Di) (osl:Array (Option Di)) (ds:List Di),
  fd=DY x x (aW st) (aR st) (ai st) dV kV doc pm an cdv ct/\K.lookup f=some ⟨oc,od,.func fd,osl⟩/\E_ K cdv x=true /\
  mg x=some (.ref f)/\EL K (.ref f)=true/\gJ K fd ps ds/\aJ dvs ds
section
variable {P:DN}{w:Ez}{K:Dd}{mg:Str->Option Di}{base:Fp}{CX:iG}
theorem dz.cal {x:Str}{st:Gv}{N ps:List Str}{dvs:List V}{k:Nat}{sp:Sp} (F:dz K mg x st ps dvs) (S:az N ps (ai st)) (len:∀ vs H Q E,sp vs H Q E->vs.length=ps.length:=by intro _ _ _ _ h;cases h;subst_vars;rfl)
  (bb:∀ (f:Du) (cdv:Di) (A:EK) (outer:List Env) (s:Dk) (H:Hp) (vs:List V) (Q:VK) (E:XK),Room k (A.deeper (envOfC x (ai st) s.heap.objs.size f cdv))->sp vs H Q E ->
   ∃ t,vm (kF CX P w K mg base N x (ai st) f cdv A outer s H E).nox (aR st) t/\t { nx:=λ_ H'=>Q .non H',rt:=Q } (fO N vs) H):dA P w K mg base CX (k+1) x ps dvs sp:=by
 obtain⟨f,fd,oc,od,dV,kV,doc,pm,an,cdv,ct,osl,ds,rfl,lk,hcd,hm,hk,hb,hv⟩:=F.ex;refine⟨f,_,ds,rn lk hcd S len λA outer s H vs Q E hr hsp=>?_,hm,hk,hb,hv⟩;obtain⟨t,h,q⟩:=bb f cdv A outer s H vs Q E hr hsp;exact⟨t,h.nox,q⟩
theorem yk {x:Str}{st:Gv}{ps:List Str}{f:Du}{oc:Di}{od an:Option Du}{osl:Array (Option Di)}{kV doc pm cdv ct:Di} (l:K.lookup f=some ⟨oc,od,.func (DY x x (aW st) (aR st) (ai st) .none kV doc pm an cdv ct),osl⟩)
  (c:E_ K cdv x=true)(k:EL K (.ref f)=true)(m:mg x=some (.ref f))
  (h:∀ us:List Di,us.length=ps.length->Fh (DY x x (aW st) (aR st) (ai st) .none kV doc pm an cdv ct) ⟨us,[]⟩=pure (ps.zip us)):dz K mg x st ps []:=
 ⟨f,_,oc,od,.none,kV,doc,pm,an,cdv,ct,osl,[],rfl,l,c,m,k,.all h,.nil⟩
end
end TR
namespace TR
open PySem PySem.Spec PyProof.Rows L2
abbrev Af (n d:Int):DZ:=.tuple [.int n,.int d]
theorem eN {K:Dd}{H:Hp}{n d:Int}{v:V}(h:aQ K H (Af n d) v):∃ a,v=.ref a/\H a=some (.tup [.int n,.int d]):=by
 cases h with
 |tup h q=>
  cases q with
  |cons q1 q2=>
   cases q1;cases q2 with
   |cons q3 q4=>
    cases q3;cases q4;exact⟨_,rfl,h⟩
theorem rK {K:Dd}{H:Hp}{n d:Int}{a:Du}(h:H a=some (.tup [.int n,.int d])):aQ K H (Af n d) (.ref a):=.tup h (.cons (.int _) (.cons (.int _) .nil))
def Sh (K:Dd)(H:Hp)(t b:Int)(Q:VK):Prop:=∀ v n d H',ae H H'->aQ K H' (Af n d) v->vH t b n d->Q v H'
structure Ok (k:Nat)(n d:Int):Prop where
 pos:0<d
 co:Go n d=1
 sn:Sm k n
 sd:Sm k d
theorem vH.ok {t b n d:Int}{k:Nat}(h:vH t b n d)(hb:b≠0)(st:Sm k t)(sb:Sm k b):Ok k n d:=
 ⟨h.1,h.2.1,st.le (kR hb h).1,sb.le (kR hb h).2⟩
theorem Ok.mono {j k:Nat}{n d:Int}(h:Ok j n d)(l:j<=k):Ok k n d:=⟨h.pos,h.co,h.sn.mono l,h.sd.mono l⟩
theorem mi:[a].length<=Ds:=by show 1<=Ds;decide
theorem pY:[a,b].length<=Ds:=by show 2<=Ds;decide
theorem Aa:[a,b,c].length<=Ds:=by show 3<=Ds;decide
section
variable {K:Dd}{H:Hp}{Q:VK}{a:Du}{x y z:V}
theorem pL (h:H a=some (.tup [x,y]))(q:Q x H):xK K (.ref a) (.int 0) H Q:=.inr (.inl ⟨a,_,0,x,rfl,rfl,f7.of h,rfl,q⟩)
theorem rk (h:H a=some (.tup [x,y]))(q:Q y H):xK K (.ref a) (.int 1) H Q:=.inr (.inl ⟨a,_,1,y,rfl,rfl,f7.of h,rfl,q⟩)
theorem yR (h:H a=some (.lst [x,y]))(q:Q x H):xK K (.ref a) (.int 0) H Q:=.inl ⟨a,_,0,x,rfl,rfl,bj.of h,rfl,q⟩
theorem qy (h:H a=some (.lst [x,y]))(q:Q y H):xK K (.ref a) (.int 1) H Q:=.inl ⟨a,_,1,y,rfl,rfl,bj.of h,rfl,q⟩
end
def AR:V->Bool
 |.int _=>true
 |_=>false
theorem zF {K:Dd}{H:Hp}{x:V}{T:String}(h:Ty K H x T):∃ b,bw T "int"=some b/\if b=true then ∃ c,bw T "bool"=some c/\AR x=!c else AR x=false:=by
 cases h with
 |non=>exact⟨false,by decide +kernel,aO rfl⟩
 |bl b=>exact⟨true,by decide +kernel,aN ⟨true,by decide +kernel,rfl⟩⟩
 |int i=>exact⟨true,by decide +kernel,aN ⟨false,by decide +kernel,rfl⟩⟩
 |str x=>exact⟨false,by decide +kernel,aO rfl⟩
 |flt x=>exact⟨false,by decide +kernel,aO rfl⟩
 |lst e=>exact⟨false,by decide +kernel,aO rfl⟩
 |frz e=>exact⟨false,by decide +kernel,aO rfl⟩
 |tup e=>exact⟨false,by decide +kernel,aO rfl⟩
 |dK e=>exact⟨false,by decide +kernel,aO rfl⟩
 |dT e=>exact⟨false,by decide +kernel,aO rfl⟩
theorem aw.length {K:Dd}{H:Hp}:∀ {ds:List DZ}{xs:List V},aw K H ds xs->ds.length=xs.length
 |_,_,.nil=>rfl
 |_,_,.cons _ q=>by rw[Et,Et,aw.length q]
def bv (H:Hp)(t r:Du):Prop:=∃ (cells:List Int) (k:Int),H t=some (.lst [.ref r,.int k])/\H r=some (.lst (cells.map V.int))/\cells≠[]/\cells.length<=63
theorem bv.lists (h:bv H t r):cV H [t,r]:=λb m=>by
 obtain⟨c,k,h1,h2,_⟩:=h;rcases Dx.mp m with rfl|m
 ·exact⟨_,h1⟩
 ·cases DC.mp m;exact⟨_,h2⟩
theorem bv.same (h:bv H t r)(e:ae H H'):bv H' t r:=by
 obtain⟨c,k,h1,h2,h3,h4⟩:=h;exact⟨c,k,e _ _ h1,e _ _ h2,h3,h4⟩
theorem bv.ne (h:bv H t r):t≠r:=by
 obtain⟨c,k,h1,h2,h3,h4⟩:=h;refine tP h1 h2 λz=>?_
 cases c with
 |nil=>exact h3 rfl
 |cons x c=>
  injection z with z
  injection z with z _
  cases z
theorem eY [Decidable p](h:p):V.bl (decide p)=V.bl true:=by rw[DE h]
theorem Mv.upd (m:p∈[t,r]):Mv [t,r] H (upd H p o):=λb u e n=>by
 rw[ap (show b≠p from λz=>n (z▸m))];exact e
def ou (K:Dd):Sp:=λvs H Q _=>∃ (a:Du) (ns:List Int),vs=[.ref a]/\bj K H a (ns.map V.int)/\ns.length<=63/\∀ H',Q (.bl true) H'
theorem AT.okX {P:DN}{w:Ez}{K:Dd}{mg:Str->Option Di}{base:Fp}{CX:iG}{x qual:Str}{st:Gv}{f:Du}{fd:F8}{N ps:List Str}{k:Nat}{sp:Sp} (F:AT K x qual st f fd) (S:az N ps (ai st)) (len:∀ vs H Q E,sp vs H Q E->vs.length=ps.length:=by intro _ _ _ _ h;cases h;subst_vars;rfl)
  (bb:∀ (cdv:Di) (A:EK) (outer:List Env) (s:Dk) (H:Hp) (vs:List V) (Q:VK) (E:XK),Room k (A.deeper (envOfC qual (ai st) s.heap.objs.size f cdv))->sp vs H Q E ->
   ∃ t,vm (kF CX P w K mg base N qual (ai st) f cdv A outer s H E).nox (aR st) t/\t { nx:=λ_ H'=>Q .non H',rt:=Q } (fO N vs) H):iX P w K mg base CX (k+1) f fd ps sp:=by
 obtain⟨oc,od,kV,doc,pm,an,cdv,ct,osl,rfl,lk,hcd⟩:=F.ex;refine rn lk hcd S len λA outer s H vs Q E hr hsp=>?_
 obtain⟨t,h,q⟩:=bb cdv A outer s H vs Q E hr hsp;exact⟨t,h.nox,q⟩
def aF (X:Cx)(N:List Str)(scope:He)(cl:List (Str×Du))(C:Du)(s0:Dk)(H0:Hp)(fp:List Du)(pn:List (Du×Obj)):Cx:=
 { X with N:=N,s₀:=s0,H₀:=H0,env:=Hj scope cl C X.env,outer:=X.stack,stack:=X.stack,ex:=fp,fn:=λx=>scope.names.lookup x==some .cell,pn:=X.pn++pn,xe:=λ_ _=>False }
def sK (k:Nat)(js:List Nat)(σ:L2.St):L2.St:=Dz k none++js.map λj=>(σ[j]?).join
def rV (cells:List (Str×Du)):List (Str×GV)->List (Str×Du)->List (Str×Du)
 |[],acc=>acc
 |(n,k)::r,acc=>if(k==.free)=true then rV cells r ((n,(cells.lookup n).getD 0)::acc) else rV cells r acc
theorem mF (h:∀ y∈scope.names,y.2=.free->∃ c,env.cells.lookup y.1=some c):closureFor scope env=pure (rV env.cells scope.names []):=by
 have key:∀ (names:List (Str × GV)) (acc:List (Str × Du)),(∀ y ∈ names,y.2=.free->∃ c,env.cells.lookup y.1=some c) ->
   (forIn names acc λ(x:Str×GV) (r:List (Str×Du))=>(match x with
    |(name,kind)=>if(kind==.free)=true then(do let c <- cellOf env name;pure (FO ((name,c)::r))) else pure (FO r):Sem (ForInStep (List (Str×Du)))))=(pure (rV env.cells names acc):Sem (List (Str×Du))):=by
  intro names
  induction names with
  |nil=>intro acc _;rfl
  |cons y r ih=>
   intro acc hy;obtain⟨n,k⟩:=y;have hr:=λz hz=>hy z (Do _ hz)
   rw[Kx];unfold rV
   by_cases hk:(k==Fc)=true
   ·obtain⟨c,hc⟩:=hy (n,k) DL (by simpa using hk);simp only[hk,GQ];have e:cellOf env n=pure c:=by unfold cellOf;rw[hc]
    rw[e,hc];exact ih _ hr
   ·simp only[hk];exact ih _ hr
 unfold closureFor;have:=key scope.names [] h
 first
  |exact this
  |(simp only[bind_pure];exact this)
  |(rw[bind_pure];exact this)
  |(show(forIn scope.names [] _>>=λr=>pure r)=_;rw[bind_pure];exact this)
theorem c8:∀ {names:List (Str×GV)}{acc:List (Str×Du)}{x:Str}{c:Du},(∀ y∈names,y.2=.free->∃ c,cells.lookup y.1=some c)->(rV cells names acc).lookup x=some c->acc.lookup x=some c\/((x,Fc)∈names/\cells.lookup x=some c)
 |[],_,_,_,_,e=>.inl e
 |(n,k)::r,acc,x,c,hy,e=>by
  unfold rV at e;have hr:=λz hz=>hy z (Do _ hz)
  by_cases hk:(k==Fc)=true
  ·rw[Ee hk] at e;have hk':k=.free:=by simpa using hk
   rcases c8 hr e with e|⟨m,e⟩
   ·rw[FV] at e;cases hx:x==n with
    |true=>
     rw[hx] at e;have hxn:x=n:=by simpa using hx
     obtain⟨c',hc'⟩:=hy (n,k) DL hk';have hc':cells.lookup n=some c':=hc';rw[hc'] at e;have e:c'=c:=by simpa using e
     subst e hxn hk';exact .inr ⟨DL,hc'⟩
    |false=>
     rw[hx] at e;exact .inl e
   ·exact .inr ⟨Do _ m,e⟩
  ·rw[DS hk] at e;rcases c8 hr e with e|⟨m,e⟩
   ·exact .inl e
   ·exact .inr ⟨Do _ m,e⟩
theorem i9:∀ {names:List (Str×GV)}{acc:List (Str×Du)}{x:Str},(∃ c,acc.lookup x=some c)\/(x,Fc)∈names->∃ c,(rV cells names acc).lookup x=some c
 |[],_,_,h=>by
  rcases h with h|h
  ·exact h
  ·cases h
 |(n,k)::r,acc,x,h=>by
  unfold rV
  by_cases hk:(k==Fc)=true
  ·rw[Ee hk];refine i9 ?_;rcases h with ⟨c,e⟩|h
   ·refine .inl ?_;rw[FV];cases x==n with
    |true=>exact⟨_,rfl⟩
    |false=>exact⟨c,e⟩
   ·rcases Dx.mp h with e|h
    ·injection e with e1 e2
     subst e1;exact .inl ⟨_,by rw[FV];simp;rfl⟩
    ·exact .inr h
  ·rw[DS hk];refine i9 ?_;rcases h with h|h
   ·exact .inl h
   ·rcases Dx.mp h with e|h
    ·injection e with e1 e2
     subst e2;exact absurd rfl hk
    ·exact .inr h
theorem jb:∀ {names:List (Str×GV)}{n:Nat}{acc:List (Str×Du)}{x:Str}{c:Du},(HK n names acc).lookup x=some c->acc.lookup x=some c\/((x,EX)∈names/\n<=c)
 |[],_,_,_,_,e=>.inl e
 |(y,k)::r,n,acc,x,c,e=>by
  unfold HK at e
  by_cases hk:(k==EX)=true
  ·rw[Ee hk] at e;rcases jb e with e|⟨m,l⟩
   ·rw[FV] at e;cases hx:x==y with
    |true=>
     rw[hx] at e;have e:n=c:=by simpa using e
     have hxy:x=y:=by simpa using hx
     have hk':k=.cell:=by simpa using hk
     subst e hxy hk';exact .inr ⟨DL,Dn _⟩
    |false=>
     rw[hx] at e;exact .inl e
   ·exact .inr ⟨Do _ m,Gf l⟩
  ·rw[DS hk] at e;rcases jb e with e|⟨m,l⟩
   ·exact .inl e
   ·exact .inr ⟨Do _ m,l⟩
structure kr (X:Cx)(scope:He):Prop where
 kind:scope.kind=.function
 once:∀ y∈scope.names,scope.names.lookup y.1=some y.2
 one:∀ y∈scope.names,∀ z∈scope.names,y.2=.cell->z.2=.cell->y.1=z.1
 kinds:∀ y∈scope.names,y.2=.local\/y.2=.globalImplicit\/y.2=.cell\/y.2=.free
 free:∀ y∈scope.names,y.2=.free->∃ c,X.env.cells.lookup y.1=some c
abbrev ay (X:Cx)(scope:He)(C:Du):List (Str×Du):=HK (C+1) scope.names (rV X.env.cells scope.names [])
section
variable {X:Cx}{scope:He}{C:Du}(S:kr X scope)
include S
theorem bR (e:(ay X scope C).lookup x=some c):(X.env.cells.lookup x=some c/\scope.names.lookup x=some .free)\/(C+1<=c/\scope.names.lookup x=some .cell):=by
 rcases jb e with e|⟨m,l⟩
 ·rcases c8 S.free e with e|⟨m,e⟩
  ·cases e
  ·exact .inl ⟨e,S.once _ m⟩
 ·exact .inr ⟨l,S.once _ m⟩
theorem uy (e:(ay X scope C).lookup x=some c)(e':(ay X scope C).lookup y=some c)(hi:∀ x y c,X.env.cells.lookup x=some c->X.env.cells.lookup y=some c->x=y)(hl:∀ x c,X.env.cells.lookup x=some c->c<C):x=y:=by
 rcases bR S e with ⟨a,_⟩|⟨a,k⟩
 ·rcases bR S e' with ⟨b,_⟩|⟨b,_⟩
  ·exact hi x y c a b
  ·exact absurd (hl x c a) (El.mpr (Gf b))
 ·rcases bR S e' with ⟨b,_⟩|⟨b,k'⟩
  ·exact absurd (hl y c b) (El.mpr (Gf a))
  ·exact S.one (x,.cell) (Fu k) (y,.cell) (Fu k') rfl rfl
theorem ny (h:(Hj scope (ay X scope C) C X.env).kindOf x=some .cell\/(Hj scope (ay X scope C) C X.env).kindOf x=some .free):∃ c,(ay X scope C).lookup x=some c:=by
 have key:∀ (names:List (Str × GV)),((names.map fun (n,k)=>if (k == Fc && X.env.scope.kind == .function && X.env.kindOf n == some .cell) then (n,EX) else (n,k)).lookup x=some .cell \/
   (names.map λ(n,k)=>if(k==Fc&&X.env.scope.kind==.function&&X.env.kindOf n==some .cell) then(n,EX) else(n,k)).lookup x=some .free)->(x,Fc)∈names\/(x,EX)∈names:=by
  intro names
  induction names with
  |nil=>intro h;simp at h
  |cons y r ih=>
   intro h;obtain⟨n,k⟩:=y
   by_cases hx:(x==n)=true
   ·have hxn:x=n:=by simpa using hx
    subst hxn
    by_cases hc:(k==Fc&&X.env.scope.kind==.function&&X.env.kindOf x==some .cell)=true
    ·have:k=.free:=by
      rw[Dw,Dw] at hc
      simpa using hc.1.1
     subst this;exact .inl DL
    ·simp only[DP,hc,FV,hx] at h;rcases h with h|h
     ·have:k=.cell:=by simpa using h
      subst this;exact .inr DL
     ·have:k=.free:=by simpa using h
      subst this;exact .inl DL
   ·have hx':(x==n)=false:=by simpa using hx
    have e:∀ (kk:GV),((((n,k) :: r).map fun (n,k)=>if (k == Fc && X.env.scope.kind == .function && X.env.kindOf n == some .cell) then (n,EX) else (n,k)).lookup x=some kk) ->
      ((r.map λ(n,k)=>if(k==Fc&&X.env.scope.kind==.function&&X.env.kindOf n==some .cell) then(n,EX) else(n,k)).lookup x=some kk):=λkk h=>by
     rw[DP,FV] at h;have:(x==((λ(y:Str×GV)=>match y with|(n,k)=>if(k==Fc&&X.env.scope.kind==LB&&X.env.kindOf n==some EX) then(n,EX) else(n,k)) (n,k)).1)=false:=by
      show(x==(if(k==Fc&&X.env.scope.kind==LB&&X.env.kindOf n==some EX)=true then(n,EX) else(n,k)).1)=false
      split<;>exact hx'
     rw[this] at h;exact h
    rcases h with h|h
    ·rcases ih (.inl (e _ h)) with z|z
     ·exact .inl (Do _ z)
     ·exact .inr (Do _ z)
    ·rcases ih (.inr (e _ h)) with z|z
     ·exact .inl (Do _ z)
     ·exact .inr (Do _ z)
 rcases key scope.names h with z|z
 ·obtain⟨c,e⟩:=i9 (cells:=X.env.cells) (acc:=[]) (.inr z);exact FE.mp (GB _ _ _ (.inr (by rw[e];rfl)))
 ·exact FE.mp (GB _ _ _ (.inl (S.once _ z)))
end
theorem pC
  (hQ:∀ h',(∃ m,h'.Ns s.heap.objs.size m)->(∀ x c,(HK (s.heap.objs.size+1) scope.names cl).lookup x=some c->cl.lookup x=some c\/h'.IsCell c none)->(∀ b o,s.heap.get? b=some o->h'.get? b=some o) ->
   Q (newEnv scope s.heap.objs.size globals (HK (s.heap.objs.size+1) scope.names cl) qual none .none (some env) Ib) { s with heap:=h' }) :
  Dy M A (Ig scope globals cl [] qual none .none (some env)) Q E s:=by
 have lem:∀ (names:List (Str×GV)) (h:Fp) (acc:List (Str×Du)) (x:Str) (c:Du),(HK h.objs.size names acc).lookup x=some c->acc.lookup x=some c\/(pushCells h names).IsCell c none:=by
  intro names
  induction names with
  |nil=>intro h acc x c e;exact .inl e
  |cons y r ih=>
   intro h acc x c e;obtain⟨n,k⟩:=y;unfold HK at e;unfold pushCells
   by_cases hk:(k==EX)=true
   ·rw[Ee hk] at e ⊢;have hs:h.objs.size+1=(h.push { cls:=.type "cell",data:=.cell none }).objs.size:=(EA ..).symm;rw[hs] at e;rcases ih _ _ _ _ e with e|e
    ·rw[FV] at e;cases hx:x==n with
     |true=>
      rw[hx] at e;have e:h.objs.size=c:=by simpa using e
      subst e;exact .inr ⟨_,KL r _ _ _ (Dl _ rfl),rfl⟩
     |false=>
      rw[hx] at e;exact .inl e
    ·exact .inr e
   ·rw[DS hk] at e ⊢;exact ih _ _ _ _ e
 simp only[Ig,Lw,GQ];refine De (wpAny_alloc ?_);refine De (wpAny_layCells _ (λname kind cells=>by cases hkc:kind==EX<;>simp[hkc]) _ _ _ _ ?_);rw[show({ s with heap:=s.heap.push { cls:=.type "dict",data:=.dict #[] } }:Dk).heap.objs.size=s.heap.objs.size+1 from EA ..];simp only[K3];refine De (Dg (Dg ?_));refine hQ _ ⟨_,(Heap.Ns.new s.heap (.type "dict")).keeps (KL _ _)⟩ (λx c e=>?_) λb o e=>KL _ _ b o (Df _ e)
 have:=lem scope.names (s.heap.push { cls:=.type "dict",data:=.dict #[] }) cl x c;rw[EA] at this;exact this e
section
variable {X:Cx}{pins:List (Du×Obj)}{σ:L2.St}{H H2:Hp}{s s2:Dk}
def gN (X:Cx)(scope:He)(N:List Str)(σ σ0:L2.St):Prop:=
 ∀ (i:Nat) (x:Str) (v:V),N[i]?=some x->σ0[i]?=some (some v)->∃ j:Nat,X.N[j]?=some x/\σ[j]?=some (some v)/\(X.env.kindOf x=some .cell\/X.env.kindOf x=some .free)/\scope.names.lookup x=some .free /\
  ((Hj scope [] 0 X.env).kindOf x=some .cell\/(Hj scope [] 0 X.env).kindOf x=some .free)
theorem gl (I:av X pins σ H s)(h1:b≠X.env.locals)(h2:b∉X.fs):b∉dB X.stack:=λz=>(Dx.mp (I.stkSub b z)).elim h1 h2
theorem tT {tk:Nat} (I:av X pins σ H2 s2) (S:kr X scope)
  (hcap:gN X scope N σ σ0)(hlen:σ0.length=N.length)(f2:∀ b∈fp,eV X pins H2 b)(fo:∀ b∈fp,∃ o,s2.heap.get? b=some o)(hC:s2.heap.objs.size<=C)(hD:s2.heap.objs.size<=D)(hDC:D≠C)
  (old:∀ b o,s2.heap.get? b=some o->h1.get? b=some o)(hnC:∃ m,h1.Ns C m)(heD:h1.get? D=some oD)(hoD:∀ v,oD.data≠.cell v)(own:∀ x c,(ay X scope C).lookup x=some c->C+1<=c->h1.IsCell c none):
  av (aF X N scope (ay X scope C) C s2 H2 fp pins) [(D,oD)] σ0 H2 { s2 with heap:=h1,toks:=tk }:=by
 have ltne:∀ b,b<s2.heap.objs.size->b≠C/\b≠D:=λb hb=>⟨λz=>absurd (z▸hb) (El.mpr hC),λz=>absurd (z▸hb) (El.mpr hD)⟩
 have cellLt:∀ x c,X.env.cells.lookup x=some c->c<s2.heap.objs.size:=λx c e=>by
  obtain⟨v,q⟩:=I.cell x c e;exact q.lt
 have big:∀ c:Du,C+1<=c->s2.heap.objs.size<=c:=λc h=>Dt hC (Gf h)
 have frLt:∀ b∈dB X.stack,b<s2.heap.objs.size:=λb hb=>by
  obtain⟨_,o,ho,_⟩:=I.stack.mem hb;exact Dj ho
 refine⟨⟨I.ok.mod,S.kind,I.ok.glob,I.ok.blt,hC,?_,?_,?_,I.ok.hd,I.ok.frames,.inl rfl,?_,?_,?_,?_,?_,I.stack,I.stkFree⟩,rfl,I.bare,Un.kept old,?_,?_,?_,?_,?_,I.hok.kept old,hlen⟩
 ·intro x y c e1 e2;exact uy S e1 e2 I.ok.inj λx c e=>DD (cellLt x c e) hC
 ·intro x hx;exact ny S hx
 ·intro x c hf e;rcases bR S e with ⟨_,k⟩|⟨l,_⟩
  ·have hf:(scope.names.lookup x==some EX)=true:=hf;rw[k] at hf;cases hf
  ·exact big c l
 ·intro b hb;obtain⟨o,ho⟩:=fo b hb;refine⟨(ltne b (Dj ho)).1,λx c e=>?_⟩;rcases bR S e with ⟨e,_⟩|⟨l,_⟩
  ·exact(f2 b hb).2.2.2.2.1 x c e
  ·exact λz=>absurd (Dj ho) (El.mpr (z▸big c l))
 ·exact λb o e=>I.bs b o e
 ·exact Dt I.ok.bsz I.sz
 ·intro b o e hb;rcases(f2 b hb).2.2.2.1 with z|z
  ·exact I.ok.noex b o e z
  ·exact absurd (DD (Dj e) (Dt I.ok.bsz z)) (Eh _)
 ·intro b hb;exact gl I (f2 b hb).2.1 (f2 b hb).2.2.1
 ·obtain⟨m1,hm1⟩:=hnC;refine⟨m1,hm1,λi x v e1 e2 _=>?_⟩;obtain⟨j,j1,j2,j3,jf,j4⟩:=hcap i x v e1 e2;obtain⟨m,hn,hl⟩:=I.loc;have vis:z9 X.env.scope x:=by
   rcases j3 with z|z
   ·exact .inr (.inl z)
   ·exact .inr (.inr z)
  obtain⟨u,r,l⟩:=hl j x v j1 j2 vis;refine⟨u,r,.inr ⟨j4,?_⟩⟩;obtain⟨c,hc⟩:=ny S (C:=C) j4;rcases l with ⟨k,_⟩|⟨_,c',e',z'⟩
  ·exfalso;rcases j3 with z|z<;>(rw[z] at k;cases k)
  ·rcases bR S hc with ⟨e,_⟩|⟨_,k⟩
   ·rw[e'] at e;cases e;exact⟨_,hc,z'.keeps old⟩
   ·rw[jf] at k;cases k
 ·intro x c e;rcases bR S e with ⟨e,_⟩|⟨l,_⟩
  ·obtain⟨v,q⟩:=I.cell x c e;exact⟨v,q.keeps old⟩
  ·exact⟨_,own x c e l⟩
 ·exact I.hok.fresh hC
 ·intro x c e;rcases bR S e with ⟨e,_⟩|⟨l,_⟩
  ·exact I.freeC x c e
  ·exact I.hok.fresh (big c l)
 ·intro p hp;rcases Ek.mp hp with hp|hp
  ·obtain⟨q1,q2,q3,q4,q5⟩:=I.pin p hp;exact⟨old _ _ q1,q2,(ltne _ (Dj q1)).1,gl I q3 q4,q5⟩
  ·cases DC.mp hp;exact⟨heD,I.hok.fresh hD,hDC,λz=>absurd (frLt D z) (El.mpr hD),hoD⟩
theorem uc {n:Nat} (I:av X pins σ H2 s2)
  (f2:∀ b∈fp,eV X pins H2 b)(hD:s2.heap.objs.size<=D)(J:av (aF X N scope (ay X scope C) C s2 H2 fp pins) ((D,{ cls:=.type "list",data:=.seq its.toArray n })::pl) σ0 H' s')(r:aJ ys its)(hz:ys.length<=Ds):
  av X pins σ (upd H' D (.lst ys)) s':=by
 have pD:=J.pin (D,{ cls:=.type "list",data:=.seq its.toArray n }) (Dq _ DL);have fD:H' D=none:=pD.2.1;have u0:Un (dB X.stack) fp H2 H' s2.heap s'.heap:=J.base;have fr2:H2 D=none:=I.hok.fresh hD;have u:Un (dB X.stack) fp H2 (upd H' D (.lst ys)) s2.heap s'.heap:=by
  refine⟨u0.keep,u0.slot,λb o e n' hx=>?_,u0.there,λb xs e=>?_,λb o w e=>?_,λb ps e=>?_⟩
  ·rw[ap (show b≠D from λz=>absurd (Dj e) (El.mpr (by rw[z];exact hD)))];exact u0.free b o e n' hx
  ·rw[ap (aK e fr2)];exact u0.tups b xs e
  ·rw[ap (aK e fr2)];exact u0.frzs b o w e
  ·rw[ap (aK e fr2)];exact u0.tbls b ps e
 refine I.call' (ch:=fp) J.os u (λb o e=>?_) J.bare λb hb=>?_
 ·by_cases hb:b=D
  ·subst hb;rw[ac] at e;cases e;exact⟨hz,its,n,r,pD.1⟩
  ·rw[ap hb] at e;exact(J.hok b o e).stay (λ_ _ _ q=>q) (λc q=>by rw[ap (aK q fD)];exact q) λc xs q=>by rw[ap (aK q fD)];exact q
 ·obtain⟨_,g1,_,g3,g4,g5⟩:=f2 b hb;exact⟨g3,g1,g4,g5⟩
def Bp (X:Cx)(ifs:List Fs)(t:TT):Prop:=
 ∀ (pins:List (Du×Obj)) (s:Dk) (σ:L2.St) (H:Hp) (Q:Bool->Hp->Prop),av X pins σ H s->t σ H Q ->
  Dy (DK X.prog X.w) X.A (forIn ifs true λc r=>if r=true then do let ok <- isTrue c X.env (GI c X.env);pure (FO ok) else pure (FO r)) (TP X pins σ Q) X.xe s
structure yc (X:Cx)(e:List Fs)(t:TT):Prop where
 go:Bp X e t
def BQ:TT:=λ_ H Q=>Q true H
theorem aI:yc X [] BQ:=by
 exact⟨λ_ _ _ H _ I h=>wpAny_tests_nil ⟨H,I,h⟩⟩
def fb (J:It)(g:TG)(tt:TT)(te:TE)(σ0:L2.St)(Fin:List V->Hp->Prop)(H1:Hp):Prop:=∃ W:Nat->Nat->List V->Hp->Prop,(∃ m,W 0 m [] H1)/\∀ i m ys H2,W i m ys H2 ->
 (J.stop i H2/\ys.length<=Ds/\Fin ys H2) \/
 (J.go i H2/\ys.length<Ds/\∀ x H3,J.yld i H2 x H3->g x σ0 H3 λσ' H4=>tt σ' H4 λb H5=>if b=true then te σ' H5 λy H6=>∃ m',m'<m/\W (i+1) m' (ys++[y]) H6 else ∃ m',m'<m/\W (i+1) m' ys H5)
end
def j5 (sc:He):Bool:=sc.kind==.function&&sc.names.all (λy=>sc.names.lookup y.1==some y.2)&&sc.names.all (λy=>sc.names.all λz=>!(y.2==.cell&&z.2==.cell)||y.1==z.1) &&
 sc.names.all λy=>y.2==.local||y.2==.globalImplicit||y.2==.cell||y.2==.free
theorem jW (h:j5 scope=true)(hf:(scope.names.all λy=>!(y.2==.free)||(X.env.cells.lookup y.1).isSome)=true):kr X scope:=by
 unfold j5 at h;simp only[Dw,DU] at h;obtain⟨⟨⟨h1,h2⟩,h3⟩,h4⟩:=h;refine⟨by simpa using h1,λy hy=>by simpa using h2 y hy,λy hy z hz a b=>?_,λy hy=>?_,λy hy e=>?_⟩
 ·have:=h3 y hy z hz;rw[a,b] at this
  simpa using this
 ·have:=h4 y hy;simp only[Bool.or_eq_true,EV] at this;rcases this with ((q|q)|q)|q
  ·exact .inl q
  ·exact .inr (.inl q)
  ·exact .inr (.inr (.inl q))
  ·exact .inr (.inr (.inr q))
 ·rw[DU] at hf;have:=hf y hy;rw[e] at this;exact FE.mp (by simpa using this)
def iO (X:Cx)(scope:He)(cs:List Str)(js:List Nat):Bool:=(cs.zip js).all λp=>(X.N[p.2]?==some p.1)&&(X.env.kindOf p.1==some .cell||X.env.kindOf p.1==some .free)&&(scope.names.lookup p.1==some .free) &&
 ((Hj scope [] 0 X.env).kindOf p.1==some .cell||(Hj scope [] 0 X.env).kindOf p.1==some .free)
theorem mL (h:iO X scope cs js=true) (hl:cs.length=js.length) {k:Nat} (hk:ts.length=k) (σ:L2.St) (_:σ.length=X.N.length) :
  gN X scope (ts++cs) σ (sK k js σ)/\(sK k js σ).length=(ts++cs).length:=by
 subst hk;refine⟨λi x v e1 e2=>?_,by unfold sK;simp[hl]⟩;unfold sK at e2;have hi:ts.length<=i:=by
  rcases Nat.lt_or_ge i ts.length with z|z
  ·rw[G_ (by simpa using z),HG,Ee z] at e2;cases e2
  ·exact z
 rw[G5 hi] at e1;rw[G5 (by simpa using hi),Ky,Dp] at e2;cases hj:js[i-ts.length]? with
 |none=>rw[hj] at e2;cases e2
 |some j=>
  rw[hj] at e2;have e2:(σ[j]?).join=some v:=Dm e2;have e3:σ[j]?=some (some v):=by
   cases q:σ[j]? with
   |none=>rw[q] at e2;cases e2
   |some o=>rw[q] at e2;exact FS some e2
  have m:(x,j)∈cs.zip js:=by
   have:(cs.zip js)[i-ts.length]?=some (x,j):=by rw[Ea];exact⟨e1,hj⟩
   exact DF this
  unfold iO at h;rw[DU] at h;have c:=h _ m;simp only[Dw,Bool.or_eq_true,EV] at c;exact⟨j,c.1.1.1,e3,c.1.1.2,c.1.2,c.2⟩
def jZ (b:Bool)(h:Fp)(j q:Du)(k:Nat)(its:Array Di):Prop:=match b with
 |true=>h.IsListIter j q k/\h.IsList q its
 |false=>h.IsTupleIter j q k/\h.IsTuple q its
theorem jZ.keep {k:Nat}(x:jZ b h j q k its)(e1:∀ o,h.get? j=some o->g.get? j=some o)(e2:∀ o,h.get? q=some o->g.get? q=some o):jZ b g j q k its:=by
 cases b with
 |true=>
  obtain⟨⟨o,a,r⟩,⟨u,c,t⟩⟩:=x;exact⟨⟨o,e1 o a,r⟩,⟨u,e2 u c,t⟩⟩
 |false=>
  obtain⟨⟨o,a,r⟩,⟨u,c,t⟩⟩:=x;exact⟨⟨o,e1 o a,r⟩,⟨u,e2 u c,t⟩⟩
theorem jZ.ext {k:Nat}(x:jZ b h j q k its)(e:IH c h g)(n1:j≠c)(n2:q≠c):jZ b g j q k its:=
 x.keep (λo a=>e j o n1 a) λo a=>e q o n2 a
theorem jZ.there {k:Nat}(x:jZ b h j q k its):∃ o vs,h.get? j=some o/\o.data=.fields vs:=by
 cases b with
 |true=>
  obtain⟨⟨o,a,_,d⟩,_⟩:=x;exact⟨o,_,a,d⟩
 |false=>
  obtain⟨⟨o,a,_,d⟩,_⟩:=x;exact⟨o,_,a,d⟩
theorem jZ.src {k:Nat}(x:jZ b h j q k its):∃ o n,h.get? q=some o/\o.data=.seq its n:=by
 cases b with
 |true=>
  obtain⟨_,⟨o,a,_,n,d⟩⟩:=x;exact⟨o,n,a,d⟩
 |false=>
  obtain⟨_,⟨o,a,_,n,d⟩⟩:=x;exact⟨o,n,a,d⟩
theorem jZ.ne {k:Nat}(x:jZ b h j q k its):q≠j:=λz=>by
 obtain⟨o,vs,a,d⟩:=x.there;obtain⟨u,n,c,t⟩:=x.src;rw[z,a] at c;cases c;rw[d] at t;cases t
section
variable {prog:DN}{w:Ez}{A:EK}{E:Di->Dk->Prop}{s:Dk}
theorem xN {k:Nat} (h1:s.heap.IsTupleIter j q k) (h2:s.heap.IsTuple q its) (hv:its[k]?=some v)
  (fin:∀ g,g.IsTupleIter j q (k+1)->Ew j s.heap g->Q v { s with heap:=g }):Dy (DK prog w) A (Ej (.ref j)) Q E s:=by
 obtain⟨oj,ej,cj,dj⟩:=id h1;obtain⟨oq,eq,_,nq,dq⟩:=h2;unfold Ej;refine De (EJ (name:=E4 "__next__") h1.typeIs FT (EU FT h1.typeIs IF ?_ (Ix _)));show Dy _ _ (field (.ref j) 0>>=_) _ _ s;refine De (EC ej dj (x:=.ref q) rfl ?_);show Dy _ _ (if(DQ q==D_)=true then _ else _) _ _ s;rw[DS (show ¬ (DQ q==D_)=true from DM)];show Dy _ _ (field (.ref j) 1>>=_) _ _ s;refine De (EC ej dj (x:=.int k 0) rfl ?_);show Dy _ _ (seqItems? (.ref q)>>=_) _ _ s;refine De (FA eq dq ?_);simp only[ED,hv];refine De (Fa ej dj (by simp) (Dg ⟨v,rfl,Dg (fin _ ?_ (Eu ..))⟩));refine⟨_,DX _ ej (EI (Ec dj _)),(GX ..).trans cj,?_⟩;rw[Ec dj];simp[FK]
theorem xC {k:Nat} (hh:A.handled=none) (h1:s.heap.IsTupleIter j q k) (h2:s.heap.IsTuple q its) (hv:its[k]?=none)
  (fin:∀ g e,IH j s.heap g->(∃ o,g.get? e=some o/\o.cls=.type "StopIteration")->E (.ref e) { s with heap:=g }):Dy (DK prog w) A (Ej (.ref j)) Q E s:=by
 obtain⟨oj,ej,cj,dj⟩:=id h1;obtain⟨oq,eq,_,nq,dq⟩:=h2;unfold Ej;refine De (EJ (name:=E4 "__next__") h1.typeIs FT (EU FT h1.typeIs IF ?_ (Ix _)));show Dy _ _ (field (.ref j) 0>>=_) _ _ s;refine De (EC ej dj (x:=.ref q) rfl ?_);show Dy _ _ (if(DQ q==D_)=true then _ else _) _ _ s;rw[DS (show ¬ (DQ q==D_)=true from DM)];show Dy _ _ (field (.ref j) 1>>=_) _ _ s;refine De (EC ej dj (x:=.int k 0) rfl ?_);show Dy _ _ (seqItems? (.ref q)>>=_) _ _ s;refine De (FA eq dq ?_);simp only[ED,hv];refine De (Hw (De (Fa ej dj (by simp) ?_)));show Dy _ _ (newExc (.type "StopIteration") ([]:List Di)>>=_) _ _ _;refine De ?_;simp only[newExc,newTuple];refine De (Es ?_ (by size_fits));refine De (m:=Hg _ _) (Ka (a:=D_) (by first|rfl|(unfold Hg;rfl)) ?_);refine Es ?_ (by size_fits);unfold raiseNew;refine De (LK ?_)
 first|rw[hh]|rw[show A.in1.handled=none from hh]
 refine De (Dg (Lm (fin _ _ (((Eu ..).extBut.push _).push _) ⟨_,Dl _ rfl,rfl⟩)))
theorem jZ.next {k:Nat} (x:jZ b s.heap j q k its) (hv:its[k]?=some v)
  (fin:∀ g,jZ b g j q (k+1) its->Ew j s.heap g->Q v { s with heap:=g }):Dy (DK prog w) A (Ej (.ref j)) Q E s:=by
 have hn:=x.ne;cases b with
 |true=>exact wpAny_nextOf_list_item x.1 x.2 hv λg h1' sb=>fin g ⟨h1',x.2.extBut sb.extBut hn⟩ sb
 |false=>exact xN x.1 x.2 hv λg h1' sb=>fin g ⟨h1',x.2.extBut sb.extBut hn⟩ sb
theorem jZ.stops {k:Nat} (hh:A.handled=none) (x:jZ b s.heap j q k its) (hv:its[k]?=none)
  (fin:∀ g e,IH j s.heap g->(∃ o,g.get? e=some o/\o.cls=.type "StopIteration")->E (.ref e) { s with heap:=g }):Dy (DK prog w) A (Ej (.ref j)) Q E s:=by
 cases b with
 |true=>exact wpAny_nextOf_list_end hh x.1 x.2 hv fin
 |false=>exact xC hh x.1 x.2 hv fin
structure Cp (b1 b2:Bool)(h:Fp)(z ti to j1 j2 q1 q2:Du)(f0:Di)(k:Nat)(xs ys:Array Di):Prop where
 zp:MD h z ti to f0
 pi:Kc h ti (.ref j1) (.ref j2)
 po:∃ a b,Kc h to a b
 s1:jZ b1 h j1 q1 k xs
 s2:jZ b2 h j2 q2 k ys
structure Bx (z ti to j1 j2 q1 q2:Du):Prop where
 a1:ti≠z
 a2:to≠z
 a3:j1≠z
 a4:j2≠z
 a5:ti≠to
 a6:ti≠j1
 a7:ti≠j2
 a8:to≠j1
 a9:to≠j2
 b1:j1≠j2
 c1:q1≠z
 c2:q1≠to
 c4:q1≠j2
 d1:q2≠z
 d2:q2≠to
 d3:q2≠j1
theorem AM {k:Nat} (D:Bx z ti to j1 j2 q1 q2) (Z:Cp b1 b2 s.heap z ti to j1 j2 q1 q2 .none k xs ys) (hx:xs[k]?=some x) (hy:ys[k]?=some y)
  (fin:∀ g,Cp b1 b2 g z ti to j1 j2 q1 q2 (FK s.heap.objs.size) (k+1) xs ys->Kc g s.heap.objs.size x y->(∀ c o,c≠z->c≠to->c≠j1->c≠j2->s.heap.get? c=some o->g.get? c=some o)->Q (some (.ref s.heap.objs.size)) { s with heap:=g }):
  Dy (DK prog w) A (HR (.ref z)) Q E s:=by
 obtain⟨hz,hi,⟨pa,pb,ho⟩,hs1,hs2⟩:=Z;have ht:s.TypeIs (.ref z) "zip":=⟨_,hz,rfl⟩
 unfold HR;refine De (F0 (EJ (name:=E4 "__next__") ht IG (EU IG ht F.entry_zip_next ?_ (F.args_zip_next_1 _))));show Dy _ _ (field (.ref z) 2>>=_) _ _ s;refine De (EC hz rfl (x:=.bool false) rfl ?_);show Dy _ _ (field (.ref z) 3>>=_) _ _ s;refine De (EC hz rfl (x:=.ref ti) rfl ?_);refine De (FA hi rfl ?_);show Dy _ _ (Fe (.ref z)>>=_) _ _ s;refine De ?_;unfold Fe;refine De (EC hz rfl (x:=.none) rfl (Dg ?_));simp only[GQ];refine De (Hw (De (EC hz rfl (x:=.ref to) rfl ?_)));refine De (EQ hz (by simp) λg1 z1 e1=>?_);have z1:MD g1 z ti to .ellipsis:=z1;refine De ?_;simp only[List.zipIdx_cons,List.zipIdx_nil,Kx,K3];refine De (De (Kb ?_));show Dy _ _ (Ej (.ref j1)>>=_) _ _ { s with heap:=g1 };refine De ((hs1.ext e1.extBut D.a3 D.c1).next hx λg2 i2 e2=>Dg ?_);have o2:Kc g2 to pa pb:=e2.extBut _ _ D.a8 (e1.extBut _ _ D.a2 ho);refine De (FA o2 rfl (De (Iv o2 λg3 o3 e3=>?_)));have o3:Kc g3 to x pb:=o3;refine De (J_ (Dg ?_));refine De (De (Kb ?_));show Dy _ _ (Ej (.ref j2)>>=_) _ _ { s with heap:=g3 };refine De ((((hs2.ext e1.extBut D.a4 D.d1).ext e2.extBut D.b1.symm D.d3).ext e3.extBut D.a9.symm D.d2).next hy λg4 i4 e4=>Dg ?_);have o4:Kc g4 to x pb:=e4.extBut _ _ D.a9 o3;refine De (FA o4 rfl (De (Iv o4 λg5 o5 e5=>?_)));have o5:Kc g5 to x y:=o5;refine De (J_ (Dg (Dg ?_)));refine De (FA o5 rfl (De (K6 ?_)));have sz:g5.objs.size=s.heap.objs.size:=by rw[e5.1,e4.1,e3.1,e2.1,e1.1]
 have z5:MD g5 z ti to .ellipsis:=e5.extBut _ _ D.a2.symm (e4.extBut _ _ D.a4.symm (e3.extBut _ _ D.a2.symm (e2.extBut _ _ D.a3.symm z1)));have k5:∀ c o,c≠z->c≠to->c≠j1->c≠j2->s.heap.get? c=some o->g5.get? c=some o:=λc o n1 n2 n3 n4 e=>
  e5.extBut _ _ n2 (e4.extBut _ _ n4 (e3.extBut _ _ n2 (e2.extBut _ _ n3 (e1.extBut _ _ n1 e))))
 have i5:jZ b1 g5 j1 q1 (k+1) xs:=((i2.ext e3.extBut D.a8.symm D.c2).ext e4.extBut D.b1 D.c4).ext e5.extBut D.a8.symm D.c2;have i6:jZ b2 g5 j2 q2 (k+1) ys:=i4.ext e5.extBut D.a9.symm D.d2;have lz:z<g5.objs.size:=Dj z5;show Dy _ _ (G8 (.ref z) (.ref g5.objs.size)>>=_) _ _ _;refine De ?_;unfold G8;have z6:MD (g5.push { cls:=.type "tuple",data:=.seq #[x,y] }) z ti to .ellipsis:=Df _ z5;refine De (EQ z6 (by simp) λg7 z7 e7=>?_);have z7:MD g7 z ti to (FK g5.objs.size):=z7;refine EQ z7 (by simp) λg8 z8 e8=>?_
 have z8:MD g8 z ti to (FK g5.objs.size):=z8;have up:∀ c o,c≠z->g5.get? c=some o->g8.get? c=some o:=λc o n e=>e8.extBut _ _ n (e7.extBut _ _ n (Df _ e))
 have t8:Kc g8 g5.objs.size x y:=e8.extBut _ _ (FB lz) (e7.extBut _ _ (FB lz) (Dl _ rfl));rw[sz] at z8 t8;refine Dg ⟨_,rfl,Dg ?_⟩;show Q (some (.ref g5.objs.size)) _;rw[sz];exact fin g8 ⟨z8,up _ _ D.a1 (k5 _ _ D.a1 D.a5 D.a6 D.a7 hi),⟨x,y,up _ _ D.a2 o5⟩,i5.keep (λo e=>up _ o D.a3 e) (λo e=>up _ o D.c1 e),i6.keep (λo e=>up _ o D.a4 e) (λo e=>up _ o D.d1 e)⟩ t8
  λc o n1 n2 n3 n4 e=>up c o n1 (k5 c o n1 n2 n3 n4 e)
theorem A9 {k:Nat} (hh:A.handled=none) (D:Bx z ti to j1 j2 q1 q2) (Z:Cp b1 b2 s.heap z ti to j1 j2 q1 q2 .none k xs ys) (hv:xs[k]?=none\/ys[k]?=none)
  (fin:∀ g,(∀ c o,c≠z->c≠to->c≠j1->c≠j2->s.heap.get? c=some o->g.get? c=some o)->Q none { s with heap:=g }):Dy (DK prog w) A (HR (.ref z)) Q E s:=by
 obtain⟨hz,hi,⟨pa,pb,ho⟩,hs1,hs2⟩:=Z;have ht:s.TypeIs (.ref z) "zip":=⟨_,hz,rfl⟩
 have stopped:∀ (g:Fp) (e:Du),(∀ c o,c ≠ z->c ≠ to->c ≠ j1->c ≠ j2->s.heap.get? c=some o->g.get? c=some o)->(∃ o,g.get? e=some o/\o.cls=.type "StopIteration") ->
   Dy (DK prog w) A (do if <- JI (.ref e) (.type "StopIteration") then pure none else throw (.ref e)) Q E { s with heap:=g }:=λg e kk ⟨o,h1,h2⟩=>
  De (Hl (T:="StopIteration") (b:=true) ⟨o,h1,h2⟩ K4 (Dg (fin g kk)))
 unfold HR;refine De (F0 (EJ (name:=E4 "__next__") ht IG (EU IG ht F.entry_zip_next ?_ (F.args_zip_next_1 _))));show Dy _ _ (field (.ref z) 2>>=_) _ _ s;refine De (EC hz rfl (x:=.bool false) rfl ?_);show Dy _ _ (field (.ref z) 3>>=_) _ _ s;refine De (EC hz rfl (x:=.ref ti) rfl ?_);refine De (FA hi rfl ?_);show Dy _ _ (Fe (.ref z)>>=_) _ _ s;refine De ?_;unfold Fe;refine De (EC hz rfl (x:=.none) rfl (Dg ?_));simp only[GQ];refine De (Hw (De (EC hz rfl (x:=.ref to) rfl ?_)));refine De (EQ hz (by simp) λg1 z1 e1=>?_);have z1:MD g1 z ti to .ellipsis:=z1;refine De ?_;simp only[List.zipIdx_cons,List.zipIdx_nil,Kx,K3];refine De (De (Kb ?_));show Dy _ _ (Ej (.ref j1)>>=_) _ _ { s with heap:=g1 };cases hx:xs[k]? with
 |none=>
  refine De ((hs1.ext e1.extBut D.a3 D.c1).stops hh hx λg2 e e2 he=>?_);obtain⟨oe,q1',q2'⟩:=he;have z2:MD g2 z ti to .ellipsis:=e2 _ _ D.a3.symm z1;have ne:e≠z:=λc=>by subst c;rw[z2] at q1';cases q1';simp at q2'
  exact EQ z2 (by simp) λg3 _ e3=>stopped g3 e (λc o n1 _ n3 _ u=>e3.extBut _ _ n1 (e2 _ _ n3 (e1.extBut _ _ n1 u))) ⟨oe,e3.extBut _ _ ne q1',q2'⟩
 |some x=>
  have hy:ys[k]?=none:=hv.resolve_left (by rw[hx];exact λc=>nomatch c);refine De ((hs1.ext e1.extBut D.a3 D.c1).next hx λg2 i2 e2=>Dg ?_);have o2:Kc g2 to pa pb:=e2.extBut _ _ D.a8 (e1.extBut _ _ D.a2 ho);refine De (FA o2 rfl (De (Iv o2 λg3 o3 e3=>?_)));refine De (J_ (Dg ?_));refine De (De (Kb ?_));show Dy _ _ (Ej (.ref j2)>>=_) _ _ { s with heap:=g3 };refine De ((((hs2.ext e1.extBut D.a4 D.d1).ext e2.extBut D.b1.symm D.d3).ext e3.extBut D.a9.symm D.d2).stops hh hy λg4 e e4 he=>?_);obtain⟨oe,q1',q2'⟩:=he;have z4:MD g4 z ti to .ellipsis:=e4 _ _ D.a4.symm (e3.extBut _ _ D.a2.symm (e2.extBut _ _ D.a3.symm z1));have ne:e≠z:=λc=>by subst c;rw[z4] at q1';cases q1';simp at q2'
  exact EQ z4 (by simp) λg5 _ e5=>stopped g5 e (λc o n1 n2 n3 n4 u=>e5.extBut _ _ n1 (e4 _ _ n4 (e3.extBut _ _ n2 (e2.extBut _ _ n3 (e1.extBut _ _ n1 u))))) ⟨oe,e5.extBut _ _ ne q1',q2'⟩
end
def cq (K:Dd)(H:Hp)(a:Du)(xs:List V):Bool->Prop
 |true=>bj K H a xs
 |false=>f7 K H a xs
def uT (h:Fp)(j q:Du)(k:Nat):Bool->Prop
 |true=>h.IsListIter j q k
 |false=>h.IsTupleIter j q k
theorem uT.keep {k:Nat}:∀ {b:Bool},uT h j q k b->(∀ o,h.get? j=some o->g.get? j=some o)->uT g j q k b
 |true,⟨o,e,r⟩,f=>⟨o,f o e,r⟩
 |false,⟨o,e,r⟩,f=>⟨o,f o e,r⟩
theorem uT.fields {k:Nat}:∀ {b:Bool},uT h j q k b->∃ o vs,h.get? j=some o/\o.data=.fields vs
 |true,⟨o,e,_,d⟩=>⟨o,_,e,d⟩
 |false,⟨o,e,_,d⟩=>⟨o,_,e,d⟩
section
variable {X:Cx}{pins:List (Du×Obj)}{σ:L2.St}{H:Hp}{s:Dk}
theorem j8 {k:Nat}(I:av X pins σ H s):∀ {b:Bool},cq X.K H q xs b->uT s.heap j q k b->∃ its:List Di,aJ xs its/\jZ b s.heap j q k its.toArray
 |true,h,i=>by
  obtain⟨its,rv,p,_⟩:=I.list h;exact⟨its,rv,i,p.isList⟩
 |false,h,i=>by
  obtain⟨its,rv,p,_⟩:=I.tuple h;exact⟨its,rv,i,p⟩
theorem vZ {k:Nat}(x:jZ b h j q k its):uT h j q k b:=by
 cases b with
 |true=>exact x.1
 |false=>exact x.1
theorem qT (I:av X pins σ H s):∀ {b:Bool},cq X.K H q xs b->cq X.K H q ys b->xs=ys
 |true,h,h'=>I.list_inj h h'
 |false,h,h'=>I.tuple_inj h h'
theorem lW (I:av X pins σ H s):∀ {b:Bool},cq X.K H q xs b->∃ o its n,s.heap.get? q=some o/\o.data=.seq its n
 |true,h=>by
  obtain⟨its,rv,⟨o,n,e,_,_,d⟩,_⟩:=I.list h;exact⟨o,_,n,e,d⟩
 |false,h=>by
  obtain⟨its,rv,⟨o,e,_,n,d⟩,_⟩:=I.tuple h;exact⟨o,_,n,e,d⟩
theorem f9 (I:av X pins σ H s) (hn:H T=none) (h1:X.s₀.heap.objs.size <= T) (hL:T ≠ X.env.locals) (h2:∀ x c,X.env.cells.lookup x=some c->c ≠ T) (h3:∀ p ∈ X.pn ++ pins,p.1 ≠ T)
  (ok:be X.prog X.w (upd H T o) s.heap T o):av X pins σ (upd H T o) s:=by
 have J:=I.step (h':=s.heap) (g':=s.gens) (t':=s.toks) (d':=s.drawn) (H':=upd H T o) (ch:=[T]) (λb hb=>?_) (λb o _ _ _ e _=>e) (λb o _ _ _ e _=>⟨o.slots,e⟩) (λb o hb _ n=>by rw[ap (show b≠T from λz=>hb (by simp[z]))];exact n)
  (λb o _ e=>⟨o,e⟩) (λb xs e=>by rw[ap (aK e hn)];exact e) (λb u w e=>by rw[ap (aK e hn)];exact e) (λb ps e=>⟨#[],by rw[ap (aK e hn),e];simp⟩) (λm hm=>hm) (λb u e=>?_) I.bare
 ·exact J
 ·cases DC.mp hb;exact⟨.inr h1,hL,h2,h3⟩
 ·by_cases hb:b=T
  ·subst hb;rw[ac] at e;cases e;exact ok
  ·rw[ap hb] at e;exact(I.hok b u e).stay (λ_ _ _ q=>q) (λc q=>by rw[ap (aK q hn)];exact q) λc xs q=>by rw[ap (aK q hn)];exact q
end
def Bs (K:Dd)(b1 b2:Bool)(q1 q2:Du):It:=
 ⟨λi H=>∃ xs ys x y,cq K H q1 xs b1/\cq K H q2 ys b2/\xs[i]?=some x/\ys[i]?=some y,
  λi H v H'=>∃ x y T,(∀ xs,cq K H q1 xs b1->xs[i]?=some x)/\(∀ ys,cq K H q2 ys b2->ys[i]?=some y)/\H T=none/\v=.ref T/\H'=upd H T (.tup [x,y]),
  λi H=>∃ xs ys,cq K H q1 xs b1/\cq K H q2 ys b2/\(xs.length<=i\/ys.length<=i)⟩
def Cm (z ti to j1 j2 q1 q2:Du)(b1 b2:Bool)(k:Nat)(h:Fp):Prop:=MD h z ti to .none/\Kc h ti (.ref j1) (.ref j2)/\(∃ a b,Kc h to a b)/\uT h j1 q1 k b1/\uT h j2 q2 k b2
theorem uX {P:DN}{w:Ez}{K:Dd}{elts:List Fs}{tk:Nat}{pos:Pos}{z ti to j1 j2 q1 q2:Du}{b1 b2:Bool} (D:ti ≠ z/\to ≠ z/\j1 ≠ z/\j2 ≠ z/\ti ≠ to/\ti ≠ j1/\ti ≠ j2/\to ≠ j1/\to ≠ j2/\j1 ≠ j2) :
  lB P w K (.Tuple elts tk pos) (Bs K b1 b2 q1 q2) [z,ti,to,j1,j2] z (Cm z ti to j1 j2 q1 q2 b1 b2) where
 mem:=by simp
 obj:=λi h st b hb=>by
  obtain⟨h1,h2,⟨a,c,h3⟩,h4,h5⟩:=st;simp only[Dx,Ef,Gu] at hb;rcases hb with rfl|rfl|rfl|rfl|rfl
  ·exact⟨_,h1,λv e=>nomatch e⟩
  ·exact⟨_,h2,λv e=>nomatch e⟩
  ·exact⟨_,h3,λv e=>nomatch e⟩
  ·obtain⟨o,vs,e,d⟩:=h4.fields;exact⟨o,e,λv u=>by rw[d] at u;cases u⟩
  ·obtain⟨o,vs,e,d⟩:=h5.fields;exact⟨o,e,λv u=>by rw[d] at u;cases u⟩
 keep:=λi h h' st k=>by
  obtain⟨h1,h2,⟨a,c,h3⟩,h4,h5⟩:=st;exact⟨k z (by simp) _ h1,k ti (by simp) _ h2,⟨a,c,k to (by simp) _ h3⟩,h4.keep λo e=>k j1 (by simp) o e,h5.keep λo e=>k j2 (by simp) o e⟩
 item:=by
  intro X hP hw hK hc i pins s σ H E I hf st hg;subst hP hw hK;obtain⟨xs,ys,x,y,hq1,hq2,hx,hy⟩:=hg;obtain⟨hz,hi,⟨a,c,ho⟩,t1,t2⟩:=st;obtain⟨us,r1,s1⟩:=j8 I hq1 t1;obtain⟨vs,r2,s2⟩:=j8 I hq2 t2;obtain⟨u,eu,ru⟩:=r1.get hx;obtain⟨v,ev,rv⟩:=r2.get hy;obtain⟨d1,d2,d3,d4,d5,d6,d7,d8,d9,d10⟩:=D;have tr:∀ {q:Du}{zs:List V}{b:Bool},cq X.K H q zs b->∀ b'∈[z,ti,to,j1,j2],(∃ o ws,s.heap.get? b'=some o/\o.data=.fields ws)->q≠b':=λ{q zs b} hq b' _ ⟨o,ws,e,d⟩ n=>by
   obtain⟨o',its,nn,e',d'⟩:=lW I hq;rw[n,e] at e';cases e';rw[d] at d';cases d'
  have zf:∃ o ws,s.heap.get? z=some o/\o.data=.fields ws:=⟨_,_,hz,rfl⟩
  have tof:∀ {q:Du}{zs:List V}{b:Bool},cq X.K H q zs b->q≠to:=λ{q zs b} hq n=>by
   have fto:H to=none:=(hf to (by simp)).1;have ft:=(hf to (by simp)).2;cases b with
   |true=>
    obtain⟨its,_,⟨o',nn,e',cc,_,d'⟩,_⟩:=I.list hq;rw[n,ho] at e';cases e';simp at cc
   |false=>
    rcases hq with (hq|⟨o',hq⟩)|⟨o',its,nn,kk,_⟩
    ·rw[n,fto] at hq;cases hq
    ·rw[n,fto] at hq;cases hq
    ·have bb:=I.mod.kin q o' kk;rw[n] at bb;rcases ft.2.2.1 with e|e
     ·exact I.ok.noex to o' bb e
     ·exact absurd (DD (Dj bb) (Dt I.ok.bsz e)) (Eh _)
  have AP:Bx z ti to j1 j2 q1 q2:=⟨d1,d2,d3,d4,d5,d6,d7,d8,d9,d10,tr hq1 z (by simp) zf,tof hq1,tr hq1 j2 (by simp) t2.fields,tr hq2 z (by simp) zf,tof hq2,tr hq2 j1 (by simp) t1.fields⟩
  refine AM AP ⟨hz,hi,⟨a,c,ho⟩,s1,s2⟩ (x:=u) (y:=v) (by simpa using eu) (by simpa using ev) λg Z hp kk=>⟨_,rfl,?_⟩
  refine wpAny_letOwnedTupleGo_zip Z.zp λg' z' sb=>?_
  have tz:s.heap.objs.size≠z:=FB (Dj hz);have fp0:∀ b∈[z,ti,to,j1,j2],b≠s.heap.objs.size:=λb hb n=>by
   simp only[Dx,Ef,Gu] at hb;rcases hb with rfl|rfl|rfl|rfl|rfl
   ·exact tz n.symm
   ·exact Eh _ (n▸Dj hi)
   ·exact Eh _ (n▸Dj ho)
   ·obtain⟨o,_,e,_⟩:=t1.fields;exact Eh _ (n▸Dj e)
   ·obtain⟨o,_,e,_⟩:=t2.fields;exact Eh _ (n▸Dj e)
  have k2:∀ b o,b∉[z,ti,to,j1,j2]->s.heap.get? b=some o->g'.get? b=some o:=λb o hb e=>
   sb.extBut b o (λn=>hb (by simp[n])) (kk b o (λn=>hb (by simp[n])) (λn=>hb (by simp[n])) (λn=>hb (by simp[n])) (λn=>hb (by simp[n])) e)
  have nfp:∀ b u',H b=some u'->b∉[z,ti,to,j1,j2]:=λb u' e hb=>by rw[(hf b hb).1] at e;cases e
  have I1:av X pins σ H { s with heap:=g' }:=by
   refine I.step (g':=s.gens) (d':=s.drawn) (t':=s.toks) (ch:=[z,ti,to,j1,j2]) (λb hb=>?_) (λb o _ _ hb e _=>k2 b o hb e) (λb o _ _ hb e _=>⟨o.slots,k2 b o hb e⟩) (λ_ _ _ _ n=>n) (λb o hb e=>⟨o,k2 b o hb e⟩) (λ_ _ e=>e) (λ_ _ _ e=>e)
    (λb ps e=>⟨#[],by rw[e];simp⟩) (λm hm=>?_) (λb u' e=>?_) I.bare
   ·obtain⟨_,g1,_,g3,g4,g5⟩:=hf b hb;exact⟨g3,g1,g4,g5⟩
   ·obtain⟨o,es,ep,ho',r'⟩:=hm;exact⟨o,es,ep,k2 _ o (λn=>(hf _ n).2.1 rfl) ho',r'⟩
   ·refine(I.hok b u' e).stay (λc' v' hc' q=>k2 c' v' ?_ q) (λ_ q=>q) λ_ _ q=>q
    rcases hc' with rfl|hc'
    ·exact nfp _ _ e
    ·exact nfp _ _ hc'
  have hT:g'.get? s.heap.objs.size=some { cls:=.type "tuple",data:=.seq #[u,v] }:=sb.extBut _ _ tz hp;have fT:H s.heap.objs.size=none:=I.hok.fresh (Dn _);have F:=I.fpOk (b:=s.heap.objs.size) (H':=H) (Dn _) fT;have I2:av X pins σ (upd H s.heap.objs.size (.tup [x,y])) { s with heap:=g' }:=f9 I1 fT I.sz F.2.1 F.2.2.2.2.1 F.2.2.2.2.2 ⟨by show 2<=Ds;decide,[u,v],.cons ru (.cons rv .nil),⟨_,hT,rfl,_,rfl⟩⟩;have cl:∀ {j q:Du}{b:Bool}{its:Array Di},jZ b g j q (i+1) its->j≠z->uT g' j q (i+1) b:=λ{j q b its} x n=>(vZ x).keep λo e=>sb.extBut _ _ n e
  exact⟨.ref s.heap.objs.size,_,I2,rfl,⟨x,y,s.heap.objs.size,λxs' h'=>by rw[qT I h' hq1];exact hx,λys' h'=>by rw[qT I h' hq2];exact hy,fT,rfl,rfl⟩,
   ⟨z',sb.extBut _ _ d1 Z.pi,(let ⟨a',b',e'⟩:=Z.po;⟨a',b',sb.extBut _ _ d2 e'⟩),cl Z.s1 d3,cl Z.s2 d4⟩,λb hb=>by rw[ap (fp0 b hb)];exact(hf b hb).1⟩
 done:=by
  intro X hP hw hK hc i pins s σ H E I hf st hg;subst hP hw hK;obtain⟨xs,ys,hq1,hq2,hl⟩:=hg;obtain⟨hz,hi,⟨a,c,ho⟩,t1,t2⟩:=st;obtain⟨us,r1,s1⟩:=j8 I hq1 t1;obtain⟨vs,r2,s2⟩:=j8 I hq2 t2;have l1:=r1.length;have l2:=r2.length;obtain⟨d1,d2,d3,d4,d5,d6,d7,d8,d9,d10⟩:=D;have tr:∀ {q:Du}{zs:List V}{b:Bool},cq X.K H q zs b->∀ b'∈[z,ti,to,j1,j2],(∃ o ws,s.heap.get? b'=some o/\o.data=.fields ws)->q≠b':=λ{q zs b} hq b' _ ⟨o,ws,e,d⟩ n=>by
   obtain⟨o',its,nn,e',d'⟩:=lW I hq;rw[n,e] at e';cases e';rw[d] at d';cases d'
  have zf:∃ o ws,s.heap.get? z=some o/\o.data=.fields ws:=⟨_,_,hz,rfl⟩
  have tof:∀ {q:Du}{zs:List V}{b:Bool},cq X.K H q zs b->q≠to:=λ{q zs b} hq n=>by
   have fto:H to=none:=(hf to (by simp)).1;have ft:=(hf to (by simp)).2;cases b with
   |true=>
    obtain⟨its,_,⟨o',nn,e',cc,_,d'⟩,_⟩:=I.list hq;rw[n,ho] at e';cases e';simp at cc
   |false=>
    rcases hq with (hq|⟨o',hq⟩)|⟨o',its,nn,kk,_⟩
    ·rw[n,fto] at hq;cases hq
    ·rw[n,fto] at hq;cases hq
    ·have bb:=I.mod.kin q o' kk;rw[n] at bb;rcases ft.2.2.1 with e|e
     ·exact I.ok.noex to o' bb e
     ·exact absurd (DD (Dj bb) (Dt I.ok.bsz e)) (Eh _)
  have AP:Bx z ti to j1 j2 q1 q2:=⟨d1,d2,d3,d4,d5,d6,d7,d8,d9,d10,tr hq1 z (by simp) zf,tof hq1,tr hq1 j2 (by simp) t2.fields,tr hq2 z (by simp) zf,tof hq2,tr hq2 j1 (by simp) t1.fields⟩
  have nfp:∀ b u',H b=some u'->b∉[z,ti,to,j1,j2]:=λb u' e hb=>by rw[(hf b hb).1] at e;cases e
  refine A9 (I.ok.hd hc) AP ⟨hz,hi,⟨a,c,ho⟩,s1,s2⟩ (by simp;omega) λg kk=>⟨rfl,?_⟩
  have k2:∀ b o,b∉[z,ti,to,j1,j2]->s.heap.get? b=some o->g.get? b=some o:=λb o hb e=>
   kk b o (λn=>hb (by simp[n])) (λn=>hb (by simp[n])) (λn=>hb (by simp[n])) (λn=>hb (by simp[n])) e
  refine I.step (g':=s.gens) (d':=s.drawn) (t':=s.toks) (ch:=[z,ti,to,j1,j2]) (λb hb=>?_) (λb o _ _ hb e _=>k2 b o hb e) (λb o _ _ hb e _=>⟨o.slots,k2 b o hb e⟩) (λ_ _ _ _ n=>n) (λb o hb e=>⟨o,k2 b o hb e⟩) (λ_ _ e=>e) (λ_ _ _ e=>e)
   (λb ps e=>⟨#[],by rw[e];simp⟩) (λm hm=>?_) (λb u' e=>?_) I.bare
  ·obtain⟨_,g1,_,g3,g4,g5⟩:=hf b hb;exact⟨g3,g1,g4,g5⟩
  ·obtain⟨o,es,ep,ho',r'⟩:=hm;exact⟨o,es,ep,k2 _ o (λn=>(hf _ n).2.1 rfl) ho',r'⟩
  ·refine(I.hok b u' e).stay (λc' v' hc' q=>k2 c' v' ?_ q) (λ_ q=>q) λ_ _ q=>q
   rcases hc' with rfl|hc'
   ·exact nfp _ _ e
   ·exact nfp _ _ hc'
 self:=λ_ _ _ _ _ st h=>wpAny_pyIter_zip st.1 h
theorem zj:Ey "zip"=some (.type "zip"):=by decide +kernel
theorem vT {a b:Nat}(h:@Ne Nat a b):@Ne Du a b:=h
def x_ (q:Du):Bool->Obj
 |true=>{ cls:=.type "list_iterator",data:=.fields #[.ref q,.int 0 0] }
 |false=>{ cls:=.type "tuple_iterator",data:=.fields #[.ref q,.int 0 0] }
def t7 (h:Fp)(q:Du)(its:Array Di):Bool->Prop
 |true=>h.IsList q its
 |false=>h.IsTuple q its
abbrev zA (h:Fp)(q1:Du)(b1:Bool):Fp:=h.push (x_ q1 b1)
abbrev zB (h:Fp)(q1 q2:Du)(b1 b2:Bool):Fp:=(zA h q1 b1).push (x_ q2 b2)
abbrev zC (h:Fp)(q1 q2:Du)(b1 b2:Bool):Fp:=(zB h q1 q2 b1 b2).push { cls:=.type "tuple",data:=.seq #[.ref h.objs.size,.ref (zA h q1 b1).objs.size] }
abbrev zD (h:Fp)(q1 q2:Du)(b1 b2:Bool):Fp:=(zC h q1 q2 b1 b2).push { cls:=.type "tuple",data:=.seq #[.none,.none] }
abbrev zE (h:Fp)(q1 q2:Du)(b1 b2:Bool):Fp:=(zD h q1 q2 b1 b2).push { cls:=.type "zip",data:=.fields #[.none,.bool false,.bool false,.ref (zB h q1 q2 b1 b2).objs.size,.ref (zC h q1 q2 b1 b2).objs.size] }
theorem AD (q1 q2:Du) (xs ys:Array Di) (b1 b2:Bool):Meets (Gn.«zip.__new__» ⟨[.type "zip",.ref q1,.ref q2],[]⟩)
  (λ_ R s=>t7 s.heap q1 xs b1/\t7 s.heap q2 ys b2/\R (.ok (.ret (.ref (zD s.heap q1 q2 b1 b2).objs.size))) { s with heap:=zE s.heap q1 q2 b1 b2 }):=
 .of_wp λprog w A R s h=>by
  obtain⟨hp,g,d,tk,os⟩:=s;obtain⟨h1,h2,h⟩:=h;have hsub:=sub_zip;cases b1<;>cases b2
  ·have k1:Kr (Hs ⟨hp,g,d,tk,os⟩) q1 xs:=h1;have k2:Kr (Hs ⟨hp.push { cls:=.type "tuple_iterator",data:=.fields #[.ref q1,.int 0 0] },g,d,tk,os⟩) q2 ys:=LN h2 _
   wp_walk using GH k1,GH k2
   exact⟨_,rfl,h⟩
  ·have k1:Kr (Hs ⟨hp,g,d,tk,os⟩) q1 xs:=h1;have k2:Ld (Hs ⟨hp.push { cls:=.type "tuple_iterator",data:=.fields #[.ref q1,.int 0 0] },g,d,tk,os⟩) q2 ys:=Mi h2 _
   wp_walk using GH k1,Fw k2
   exact⟨_,rfl,h⟩
  ·have k1:Ld (Hs ⟨hp,g,d,tk,os⟩) q1 xs:=h1;have k2:Kr (Hs ⟨hp.push { cls:=.type "list_iterator",data:=.fields #[.ref q1,.int 0 0] },g,d,tk,os⟩) q2 ys:=LN h2 _
   wp_walk using Fw k1,GH k2
   exact⟨_,rfl,h⟩
  ·have k1:Ld (Hs ⟨hp,g,d,tk,os⟩) q1 xs:=h1;have k2:Ld (Hs ⟨hp.push { cls:=.type "list_iterator",data:=.fields #[.ref q1,.int 0 0] },g,d,tk,os⟩) q2 ys:=Mi h2 _
   wp_walk using Fw k1,Fw k2
   exact⟨_,rfl,h⟩
section
variable {prog:DN}{w:Ez}{A:EK}{E:Di->Dk->Prop}{s:Dk}
theorem AZ (h1:t7 s.heap q1 xs b1) (h2:t7 s.heap q2 ys b2)
  (fin:∀ g,MD g (s.heap.objs.size+4) (s.heap.objs.size+2) (s.heap.objs.size+3) .none->Kc g (s.heap.objs.size+2) (.ref s.heap.objs.size) (.ref (s.heap.objs.size+1)) ->
   Kc g (s.heap.objs.size+3) .none .none->g.get? s.heap.objs.size=some (x_ q1 b1)->g.get? (s.heap.objs.size+1)=some (x_ q2 b2)->(∀ c o,s.heap.get? c=some o->g.get? c=some o)->Q (.ref (s.heap.objs.size+4)) { s with heap:=g }) :
  Dy (DK prog w) A (call (.type "zip") [.ref q1,.ref q2]) Q E s:=by
 refine callType_new F.called_zip (by decide) (F.typeCall_zip_2 _ _) (F.newCall_zip_2 _ _) (λobj=>F.args_object_init_3 obj _ _) F.entry_zip_new (AD q1 q2 xs ys b1 b2) ⟨h1,h2,?_⟩;have n1:(zA s.heap q1 b1).objs.size=s.heap.objs.size+1:=EA ..;have n2:(zB s.heap q1 q2 b1 b2).objs.size=s.heap.objs.size+2:=by rw[EA,n1]
 have n3:(zC s.heap q1 q2 b1 b2).objs.size=s.heap.objs.size+3:=by rw[EA,n2]
 have n4:(zD s.heap q1 q2 b1 b2).objs.size=s.heap.objs.size+4:=by rw[EA,n3]
 have fr:∀ b q,(x_ q b).isFreed=false:=λb q=>by cases b<;>rfl
 have m5:(zE s.heap q1 q2 b1 b2).get? (zD s.heap q1 q2 b1 b2).objs.size=some _:=Dl _ rfl;have m4:(zE s.heap q1 q2 b1 b2).get? (zC s.heap q1 q2 b1 b2).objs.size=some _:=Df _ (Dl _ rfl);have m3:(zE s.heap q1 q2 b1 b2).get? (zB s.heap q1 q2 b1 b2).objs.size=some _:=Df _ (Df _ (Dl _ rfl));have m2:(zE s.heap q1 q2 b1 b2).get? (zA s.heap q1 b1).objs.size=some (x_ q2 b2):=Df _ (Df _ (Df _ (Dl _ (fr _ _))));have m1:(zE s.heap q1 q2 b1 b2).get? s.heap.objs.size=some (x_ q1 b1):=Df _ (Df _ (Df _ (Df _ (Dl _ (fr _ _)))));show _/\_;rw[n2,n3,n4] at m5;rw[n1,n2] at m3;rw[n3] at m4;rw[n1] at m2;rw[n4];exact⟨⟨_,m5,rfl⟩,fin _ m5 m3 m4 m1 m2 λc o x=>Df _ (Df _ (Df _ (Df _ (Df _ x))))⟩
end
section
variable {X:Cx}{tg:Fs}
theorem nh (I:av X pins σ H s):∀ {b:Bool},cq X.K H q xs b->∃ its:List Di,aJ xs its/\t7 s.heap q its.toArray b
 |true,h=>by
  obtain⟨its,rv,p,_⟩:=I.list h;exact⟨its,rv,p.isList⟩
 |false,h=>by
  obtain⟨its,rv,p,_⟩:=I.tuple h;exact⟨its,rv,p⟩
def Bc (K:Dd)(ta:TA):TI:=λσ H R=>ta σ H λvs H1=>∃ q1 q2 b1 b2,vs=[.ref q1,.ref q2]/\(∃ xs,cq K H1 q1 xs b1)/\(∃ ys,cq K H1 q2 ys b2)/\R (Bs K b1 b2 q1 q2) H1
theorem zq {tk:Nat} (hg:Gl X "zip") (hm:X.mg "zip"=none) (ha:PA X [a,b] ta) (hs:DO [a,b] X.env=[(false,GI a X.env),(false,GI b X.env)]:=by rfl) (hs2:DO [b] X.env=[(false,GI b X.env)]:=by rfl) :
  PI X (.Tuple elts tk tpos) (.Call (.Name "zip" p) [a,b] [] pos) (Bc X.K ta):=by
 intro pins s σ H R I h;refine Call_ (e6 I hg hm zj (E3 (bo (ha pos pins s σ H _ I h) λus s1 ⟨vs,H1,I1,r1,q1⟩=>?_) (by rw[hs,hs2]) (by rw[hs2];rfl)));obtain⟨qa,qb,b1,b2,rfl,⟨xs,hx⟩,⟨ys,hy⟩,q⟩:=q1;obtain⟨u,v,rfl,ru,rv⟩:=iB r1;cases ru;cases rv;obtain⟨its,_,sa⟩:=nh I1 hx;obtain⟨jts,_,sb⟩:=nh I1 hy;refine AZ sa sb λg z5 z3 z4 z1 z2 kk=>?_
 refine wpAny_pyIter_zip z5 ?_;have io:∀ {j q:Du}{b:Bool},g.get? j=some (x_ q b)->uT g j q 0 b:=λ{j q b} e=>by cases b<;>exact⟨_,e,rfl,rfl⟩
 refine⟨s1.heap.objs.size+4,[s1.heap.objs.size+4,s1.heap.objs.size+2,s1.heap.objs.size+3,s1.heap.objs.size,s1.heap.objs.size+1],_,_,H1,rfl,I1.kept (t':=s1.toks) kk,
  uX (z:=s1.heap.objs.size+4) (ti:=s1.heap.objs.size+2) (to:=s1.heap.objs.size+3) (j1:=s1.heap.objs.size) (j2:=s1.heap.objs.size+1) ⟨vT (by omega),vT (by omega),vT (by omega),vT (by omega),vT (by omega),vT (by omega),vT (by omega),vT (by omega),vT (by omega),vT (by omega)⟩,⟨z5,z3,⟨_,_,z4⟩,io z1,io z2⟩,λb hb=>?_,q⟩
 have le:s1.heap.objs.size<=b:=by
  simp only[Dx,Ef,Gu] at hb;rcases hb with e|e|e|e|e<;>(rw[e];omega)
 exact I1.fpOk le (I1.hok.fresh le)
def pZ (K:Dd)(a:Du):Bool->It
 |true=>AA K a
 |false=>Bl K a
inductive C7 (K:Dd)(x:V)(H:Hp)(R:It->Hp->Prop):Prop
 |mk (a:Du) (b:Bool) (_:x=.ref a) (_:∃ xs,cq K H a xs b) (_:R (pZ K a b) H)
def As (K:Dd)(tl:TE):TI:=λσ H R=>tl σ H λx H1=>C7 K x H1 R
theorem zk (hl:PE X l tl):PI X tg l (As X.K tl):=by
 intro pins s σ H R I h;refine bo (hl pins s σ H _ I h) λv s1 ⟨x,H1,I1,r1,q1⟩=>?_
 obtain⟨a,b,e,⟨xs,hq⟩,q⟩:=q1;subst e;cases r1;obtain⟨its,rv,sr⟩:=nh I1 hq;have fp:∀ c∈[s1.heap.objs.size],eV X pins H1 c:=λc hc=>by
  cases DC.mp hc;exact I1.fpOk (Dn _) (I1.hok.fresh (Dn _))
 cases b with
 |true=>exact Fw sr ⟨s1.heap.objs.size,[s1.heap.objs.size],_,_,H1,rfl,I1.kept (t':=s1.toks) λb o e=>Df _ e,sS a _,⟨_,Dl _ rfl,rfl,rfl⟩,fp,q⟩
 |false=>exact GH sr ⟨s1.heap.objs.size,[s1.heap.objs.size],_,_,H1,rfl,I1.kept (t':=s1.toks) λb o e=>Df _ e,qB a _,⟨_,Dl _ rfl,rfl,rfl⟩,fp,q⟩
end
theorem ss (bs:List Bool):(Fm bs.length).all (λi=>(bs[i]?).getD true)=bs.all id:=by
 rw[Bool.eq_iff_iff,DU,DU];constructor
 ·intro h b hb;obtain⟨i,hi,rfl⟩:=ER hb;have:=h i (Fi.mpr hi)
  simpa [hi] using this
 ·intro h i hi;have hi:=Fi.mp hi
  simpa [hi] using h bs[i] (FU hi)
section
variable {X:Cx}
theorem ui (hc:X.calm=true):br X (.builtin "all") (λxs H Q=>∃ (p:Du) (bs:List Bool),xs=[.ref p]/\bj X.K H p (bs.map V.bl)/\Q (.bl (bs.all id)) H):=by
 intro pins s σ H xs us Q I r h;obtain⟨p,bs,rfl,hp,q⟩:=h;obtain⟨u,rfl,ru⟩:=fk r;cases ru;obtain⟨its,rv,pl,hz⟩:=I.list hp;have hl:=rv.length;rw[Dh] at hl;have lt:p<s.heap.objs.size:=by
  obtain⟨o,e,_⟩:=pl.isList;exact Dj e
 refine call_all_walk (Fw pl.isList ?_);refine⟨s.heap.objs.size,_,_,_,_,_,λi=>(bs[i]?).getD true,rfl,Walks.list (A:=X.A.in1) (show X.A.in1.handled=none from I.ok.hd hc) _ p (DI lt) its.toArray,⟨⟨_,Dl _ rfl,rfl,rfl⟩,pl.isList.push _⟩,λi v s' Q' E' hv hq=>?_,λh' tk kk=>?_⟩
 ·have hi:i<bs.length:=by
   have:=(Eg.mp hv).1;rw[DJ] at this;omega
  obtain⟨w,ew,rw'⟩:=rv.get (i:=i) (x:=.bl bs[i]) (by simp[hi]);have:its[i]?=some v:=by simpa using hv
  rw[ew] at this;have e2:v=IA bs[i]:=(Dm this).symm.trans rw';rw[e2];refine Fg ?_;have e:(bs[i]?).getD true=bs[i]:=by simp[hi]
  exact e▸hq
 ·have I1:av X pins σ H { s with heap:=h',toks:=tk }:=I.kept λb o e=>kk b o (by simp;exact DI (Dj e)) (Df _ e)
  refine⟨.bl _,H,I1,?_,q⟩;show IA _=IA _;rw[<- ss,DJ,<- hl]
end
section
variable {X:Cx}{pos:Pos}
def A7 (K:Dd)(n:Nat)(t:wc):TG:=λv σ H Q=>∃ a xs,v=.ref a/\(bj K H a xs\/f7 K H a xs)/\xs.length=n/\t xs σ H Q
theorem zh {k:Nat}{n:Nat} (hc:X.calm=true) (h:Cr X es t)
  (hn:(Fn es X.env).length=n:=by rfl)(hst:(Fn es X.env).findIdx? (·.1)=none:=by rfl):PG X (.Tuple es k pos) (A7 X.K n t):=by
 intro pins s σ H v u Q I r hw;obtain⟨a,xs,e1,hq,hl,hw⟩:=hw;subst e1;cases r;rcases hq with hq|hq
 ·obtain⟨its,rv,pl,hz⟩:=I.list hq;rw[assign_Tuple];refine De (Fl ?_);unfold unpack;have hs:(Fn es X.env).length=its.toArray.size:=by rw[hn,<- hl,rv.length,DJ]
  rw[hs,hst];refine De (Em (PySem.W.kun_itemsOf (I.ok.hd hc) pl.isList λh' hx=>?_));have I1:av X pins σ H { s with heap:=h' }:=I.kept (t':=s.toks) λb o e=>hx b o (DI (Dj e)) e
  exact h pins _ σ H xs _ Q I1 (by simpa using rv) hw
 ·obtain⟨its,rv,ht,hz⟩:=I.tuple hq;refine assign_Tuple_tuple (I.ok.hd hc) ht (by simp[hn,<- hl,rv.length]) hst λh' hx=>?_
  have I1:av X pins σ H { s with heap:=h' }:=I.kept (t':=s.toks) λb o e=>hx b o (DI (Dj e)) e
  exact h pins _ σ H xs _ Q I1 (by simpa using rv) hw
end
abbrev rD (q:Rat):DZ:=Af q.num (q.den:Int)
theorem yu (q:Rat):q=(q.num:Rat)/((q.den:Int):Rat):=by rw[<- Rat.divInt_eq_div,Rat.num_divInt_den]
theorem rf {t b:Int}(hb:b≠0):vH t b ((t:Rat)/(b:Rat)).num (((t:Rat)/(b:Rat)).den:Int):=by
 have hq:=yu ((t:Rat)/(b:Rat));have hd:0<((t:Rat)/(b:Rat)).den:=((t:Rat)/(b:Rat)).den_pos;have hr:=((t:Rat)/(b:Rat)).reduced;generalize hz:(t:Rat)/(b:Rat)=q at *;refine⟨by omega,hr,?_⟩;have hb':(b:Rat)≠0:=by
  intro z;exact hb (by exact_mod_cast z)
 have hd':((q.den:Int):Rat)≠0:=by
  intro z;have:q.den=0:=by exact_mod_cast z
  omega
 have:(q.num:Rat)*(b:Rat)=(t:Rat)*((q.den:Int):Rat):=by
  generalize (q.num:Rat)=x at *;generalize ((q.den:Int):Rat)=y at *;generalize (b:Rat)=b' at *;generalize (t:Rat)=t' at *;have e:t'/b'=x/y:=hz.trans hq;grind
 exact_mod_cast this
theorem wY {t b n d:Int}(hb:b≠0)(h:vH t b n d):n=((t:Rat)/(b:Rat)).num/\d=(((t:Rat)/(b:Rat)).den:Int):=p9 hb h (rf hb)
abbrev Bq (k:Nat)(q:Rat):Prop:=Ok k q.num (q.den:Int)
theorem xS {k:Nat}{t b:Int}(hb:b≠0)(ht:Sm k t)(sb:Sm k b):Bq k ((t:Rat)/(b:Rat)):=(rf hb).ok hb ht sb
def B6 (K:Dd)(H:Hp)(q:Rat)(Q:VK):Prop:=∀ v H',ae H H'->aQ K H' (rD q) v->Q v H'
theorem B6.sh {K:Dd}{H:Hp}{t b:Int}{Q:VK}(hb:b≠0)(h:B6 K H ((t:Rat)/(b:Rat)) Q):Sh K H t b Q:=λv n d H' s hv lw=>by
 obtain⟨e1,e2⟩:=wY hb lw;subst e1 e2;exact h v H' s hv
theorem bK {i:Int}(hg:Gl X x)(hm:∃ t,X.mg x=some (.int i t))(hd:(x==("__debug__":Str))=false:=by decide):WE X (.Name x pos) (tC (.int i)):=by
 refine⟨?_⟩;obtain⟨t,e⟩:=hm;exact rh hg e ⟨t,rfl⟩ hd
theorem aw.get {K:Dd}{H:Hp}:∀ {ds:List DZ}{xs:List V}{i:Nat}{x:V},aw K H ds xs->xs[i]?=some x->∃ d,ds[i]?=some d/\aQ K H d x
 |_,_,_,_,.nil,e=>by simp at e
 |_,_,0,_,.cons h _,e=>by simp at e;subst e;exact⟨_,rfl,h⟩
 |_,_,i+1,x,.cons _ q,e=>by
  obtain⟨d,h1,h2⟩:=aw.get (i:=i) (x:=x) q (by simpa using e);exact⟨d,by simpa using h1,h2⟩
theorem aw.snoc {K:Dd}{H:Hp}{d:DZ}{x:V}:∀ {ds:List DZ}{xs:List V},aw K H ds xs->aQ K H d x->aw K H (ds++[d]) (xs++[x])
 |_,_,.nil,h=>.cons h .nil
 |_,_,.cons a q,h=>.cons a (aw.snoc q h)
theorem cq.same {K:Dd}{H H':Hp}{a:Du}{xs:List V}(e:ae H H'):∀ {b:Bool},cq K H a xs b->cq K H' a xs b
 |true,h=>e.seq h
 |false,h=>uK e h
theorem cO {n:Nat}(h:n<=1000):n<=Ds:=Gm (bP h)
theorem c7 {α:Type}{l:List α}{i:Nat}{x:α}(h:l[i]?=some x):l.take (i+1)=l.take i++[x]:=by
 rw[List.take_succ,h];rfl
section
variable {K:Dd}{g:TG}{tt:TT}{te:TE}{σ0:L2.St}{Fin:List V->Hp->Prop}{H1:Hp}
def jm (g:TG)(tt:TT)(te:TE)(σ0:L2.St)(x:V)(H:Hp)(post:V->Hp->Prop):Prop:=∀ R:VK,(∀ y H',post y H'->R y H')->∀ S:Hp->Prop,g x σ0 H λσ' H4=>tt σ' H4 λb H5=>if b=true then te σ' H5 R else S H5
theorem ig {a:Du}{b:Bool}{xs:List V}{ds:List DZ}{f:DZ->DZ} (hsrc:cq K H1 a xs b) (hds:aw K H1 ds xs) (hl:ds.length <= 1000)
  (he:∀ (i:Nat) (d:DZ) (x:V) (H:Hp),ds[i]?=some d->ae H1 H->aQ K H d x->jm g tt te σ0 x H λy H'=>ae H H'/\aQ K H' (f d) y)
  (hd:∀ ys H,ae H1 H->aw K H (ds.map f) ys->Fin ys H):fb (pZ K a b) g tt te σ0 Fin H1:=by
 have hlen:=hds.length;refine⟨λi m ys H=>m=xs.length-i/\i<=xs.length/\ae H1 H/\aw K H ((ds.take i).map f) ys,⟨xs.length,by omega,ES _,ae.refl _,.nil⟩,?_⟩;rintro i m ys H ⟨rfl,hi,s,hys⟩;have hyl:=hys.length;rw[Dh,Ei] at hyl
 by_cases hlt:i<xs.length
 ·have go:(pZ K a b).go i H:=by
   have q:=cq.same s hsrc;cases b with
   |true=>exact⟨xs,xs[i],q,by simp[hlt]⟩
   |false=>exact⟨xs,xs[i],q,by simp[hlt]⟩
  refine .inr ⟨go,bP (by omega),λx H3 y3=>?_⟩;have e3:H3=H/\xs[i]?=some x:=by
   have q:=cq.same s hsrc;cases b with
   |true=>exact⟨y3.1,y3.2 xs q⟩
   |false=>exact⟨y3.1,y3.2 xs q⟩
  obtain⟨rfl,hx⟩:=e3;obtain⟨d,hdd,hdx⟩:=hds.get hx;refine he i d x _ hdd s (aQ.same s hdx) _ (λy H' ⟨s',hy⟩=>⟨xs.length-(i+1),by omega,rfl,hlt,s.trans s',?_⟩) λH5=>∃ m',m'<xs.length-i/\(m'=xs.length-(i+1)/\i+1<=xs.length/\ae H1 H5/\aw K H5 ((ds.take (i+1)).map f) ys)
  rw[c7 hdd,FP];exact(aw.same s' hys).snoc hy
 ·have e:i=xs.length:=by omega
  subst e;have stop:(pZ K a b).stop xs.length H:=by
   have q:=cq.same s hsrc;cases b with
   |true=>exact⟨xs,q,Dn _⟩
   |false=>exact⟨xs,q,Dn _⟩
  rw[EM (by omega)] at hys;exact .inl ⟨stop,cO (by omega),hd ys H s hys⟩
theorem gU {lo:Int}{n:Nat} (Pv:Nat->List V->Hp->Prop) (h0:Pv 0 [] H1) (hl:n <= 1000) (hy:∀ i ys H,i <= n->Pv i ys H->ys.length <= i)
  (he:∀ i ys H,i<n->Pv i ys H->jm g tt te σ0 (.int (lo+i)) H λy H'=>Pv (i+1) (ys++[y]) H')(hd:∀ ys H,Pv n ys H->Fin ys H):fb (vn lo n) g tt te σ0 Fin H1:=by
 refine⟨λi m ys H=>m=n-i/\i<=n/\Pv i ys H,⟨n,by omega,ES _,h0⟩,?_⟩;rintro i m ys H ⟨rfl,hi,p⟩;have hyl:=hy i ys H hi p
 by_cases hlt:i<n
 ·refine .inr ⟨hlt,bP (by omega),λx H3 y3=>?_⟩;obtain⟨rfl,rfl⟩:=y3;exact he i ys _ hlt p _ (λy H' p'=>⟨n-(i+1),by omega,rfl,hlt,p'⟩) λH5=>∃ m',m'<n-i/\(m'=n-(i+1)/\i+1<=n/\Pv (i+1) ys H5)
 ·have e:i=n:=by omega
  subst e;exact .inl ⟨Dn _,cO (by omega),hd ys H p⟩
theorem cr:∀ {bs:List Bool}{ys:List V},aw K H (bs.map F5) ys->ys=bs.map V.bl
 |[],_,.nil=>rfl
 |b::bs,_,.cons (.bl _) q=>by rw[cr q];rfl
end
def yI (b:Bool)(ds:List DZ):DZ:=if b=true then .list ds else .tuple ds
structure R3 where
 a:Int
 b:Int
 c:Int
def R3.ds (r:R3):List DZ:=[.int r.a,.int r.b,.int r.c]
def R3.vs (r:R3):List V:=[.int r.a,.int r.b,.int r.c]
def tL (k:Bool)(r:R3):DZ:=yI k r.ds
structure R3.In (r:R3)(m:Int):Prop where
 a1:-m<=r.a
 a2:r.a<=m
 b1:-m<=r.b
 b2:r.b<=m
 c1:-m<=r.c
 c2:r.c<=m
structure S9 where
 k:Bool
 k1:Bool
 k2:Bool
 k3:Bool
 x:R3
 y:R3
 z:R3
def S9.rows (s:S9):List DZ:=[tL s.k1 s.x,tL s.k2 s.y,tL s.k3 s.z]
def S9.d (s:S9):DZ:=yI s.k s.rows
structure S9.In (s:S9):Prop where
 x:s.x.In 4000
 y:s.y.In 4000
 z:s.z.In 4000
theorem b9 {K:Dd}{H:Hp}{b:Bool}{ds:List DZ}{v:V}(h:aQ K H (yI b ds) v):∃ a xs,v=.ref a/\cq K H a xs b/\aw K H ds xs:=by
 cases b with
 |true=>
  cases h with
  |lst h q=>exact⟨_,_,rfl,.inl h,q⟩
 |false=>
  cases h with
  |tup h q=>exact⟨_,_,rfl,f7.of h,q⟩
theorem jc {K:Dd}{H:Hp}{r:R3}{xs:List V}(h:aw K H r.ds xs):xs=r.vs:=by
 cases h with
 |cons h1 h=>
  cases h1;cases h with
  |cons h2 h=>
   cases h2;cases h with
   |cons h3 h=>
    cases h3;cases h;rfl
theorem Br {K:Dd}{H:Hp}{Q:VK}{a:Du}{xs:List V}{b:Bool}{i:Nat}{v:V}(h:cq K H a xs b)(e:xs[i]?=some v)(q:Q v H):xK K (.ref a) (.int (i:Int)) H Q:=by
 cases b with
 |true=>exact .inl ⟨a,xs,_,v,rfl,rfl,h,eX e,q⟩
 |false=>exact .inr (.inl ⟨a,xs,_,v,rfl,rfl,h,eX e,q⟩)
theorem qu {K:Dd}{H:Hp}{a:Du}{xs:List V}{b:Bool}(h:cq K H a xs b):bj K H a xs\/f7 K H a xs:=by
 cases b with
 |true=>exact .inl h
 |false=>exact .inr h
def S9.det (s:S9):Int:=s.x.a*(s.y.b*s.z.c-s.y.c*s.z.b)-s.x.b*(s.y.a*s.z.c-s.y.c*s.z.a)+s.x.c*(s.y.a*s.z.b-s.y.b*s.z.a)
def cut (T:List Du)(H:Hp):Hp:=λb=>if b∈T then none else H b
theorem n_:ae (cut T H) H:=λb o e=>by
 unfold cut at e
 split at e
 ·cases e
 ·exact e
theorem hV (h:b∉T):cut T H b=H b:=DS h
theorem Mv.cut (h:Mv T H H'):ae (cut T H) (cut T H'):=λb o e=>by
 unfold TR.cut at e ⊢
 split at e
 ·cases e
 ·rename_i n
  rw[DS n];exact h b o e n
theorem ae.cut (h:ae H H'):ae (TR.cut T H) (TR.cut T H'):=(Mv.of h).cut
theorem bv.not (h:bv H t r)(hp:H p=none):p∉[t,r]:=λm=>by
 obtain⟨xs,e⟩:=h.lists p m;rw[hp] at e;cases e
theorem aQ.uncut {K:Dd}{T:List Du}{H:Hp}{d:DZ}{v:V}(h:aQ K (cut T H) d v):aQ K H d v:=aQ.same n_ h
mutual
theorem aQ.cutT {K:Dd}{T:List Du}{H:Hp}(l:cV H T):∀ {d:DZ}{v:V},lP d=true->aQ K H d v->aQ K (cut T H) d v
 |_,_,_,.non=>.non
 |_,_,_,.bl b=>.bl b
 |_,_,_,.int i=>.int i
 |_,_,_,.str x=>.str x
 |_,_,t,.lst _ _=>by simp[lP] at t
 |_,_,t,.tup h q=>.tup (by rw[hV (l.not h λ_ z=>nomatch z)];exact h) (aw.cutT l (by simpa [lP] using t) q)
 |_,_,t,.dct _=>by simp[lP] at t
theorem aw.cutT {K:Dd}{T:List Du}{H:Hp}(l:cV H T):∀ {ds:List DZ}{vs:List V},gG ds=true->aw K H ds vs->aw K (cut T H) ds vs
 |_,_,_,.nil=>.nil
 |_,_,t,.cons h q=>by
  simp only[gG,Dw] at t;exact .cons (aQ.cutT l t.1 h) (aw.cutT l t.2 q)
end
theorem oO {K:Dd}{t r D:Du}{H:Hp}{ds:List DZ}{ys:List V}(tw:bv H t r)(hD:H D=none)(h:aw K (cut [t,r] H) ds ys):aQ K (cut [t,r] (upd H D (.lst ys))) (.list ds) (.ref D):=by
 refine .lst (.inl ?_) (aw.same (ae.cut (ae.new hD)) h);rw[hV (tw.not hD)];exact ac
theorem aQ.listN {K:Dd}{D:Du}{H:Hp}{ds:List DZ}{ys:List V}(hD:H D=none)(h:aw K H ds ys):aQ K (upd H D (.lst ys)) (.list ds) (.ref D):=.lst (.inl ac) (aw.same (ae.new hD) h)
theorem aQ.tupN {K:Dd}{D:Du}{H:Hp}{ds:List DZ}{ys:List V}(hD:H D=none)(h:aw K H ds ys):aQ K (upd H D (.tup ys)) (.tuple ds) (.ref D):=.tup ac (aw.same (ae.new hD) h)
abbrev BK (J:It)(g:TG)(tb:TS)(D:ju)(σ:L2.St)(H:Hp):Prop:=∃ W:Nat->Nat->L2.St->Hp->Prop,(∃ m,W 0 m σ H)/\∀ i m σ H,W i m σ H ->
 (J.stop i H/\D.nx σ H)\/(J.go i H/\∃ N:L2.St->Hp->Prop,(∀ σ' H',N σ' H'->∃ m',m'<m/\W (i+1) m' σ' H')/\∀ x H',J.yld i H x H'->g x σ H' λσ2 H2=>tb { D with nx:=N,ct:=N,bk:=D.nx } σ2 H2)
theorem mG {K:Dd}{a:Du}{b:Bool}{xs:List V}{g:TG}{tb:TS}{D:ju}{σ:L2.St}{H:Hp} (Pv:Nat->L2.St->Hp->Prop) (h0:Pv 0 σ H) (hl:∀ i σ H,i <= xs.length->Pv i σ H->cq K H a xs b)
  (hs:∀ i x σ H,xs[i]?=some x->Pv i σ H->g x σ H λσ2 H2=>tb { D with nx:=Pv (i+1),ct:=Pv (i+1),bk:=D.nx } σ2 H2)(hd:∀ σ H,Pv xs.length σ H->D.nx σ H):BK (pZ K a b) g tb D σ H:=by
 cases b with
 |true=>exact uH Pv h0 hl hs hd
 |false=>exact ww Pv h0 hl hs hd
section
variable {K:Dd}{g:TG}{tt:TT}{te:TE}{σ0:L2.St}{Fin:List V->Hp->Prop}{H1:Hp}
theorem bT {lo:Int}{n:Nat} (hn:ds.length=n) (hl:n <= 1000)
  (he:∀ (i:Nat) (d:DZ) (H:Hp),ds[i]?=some d->ae H1 H->jm g tt te σ0 (.int (lo+i)) H λy H'=>ae H H'/\aQ K H' d y)(hd:∀ ys H,ae H1 H->aw K H ds ys->Fin ys H):fb (vn lo n) g tt te σ0 Fin H1:=by
 refine gU (λi ys H=>ae H1 H/\aw K H (ds.take i) ys) ⟨ae.refl _,.nil⟩ hl (λi ys H hi p=>?_) (λi ys H hi p=>?_) (λys H p=>?_)
 ·rw[<- p.2.length,Ei];omega
 ·obtain⟨s,q⟩:=p;have e:ds[i]?=some ds[i]:=by simp[show i<ds.length by omega]
  intro R kk S;refine he i ds[i] H e s R (λy H' ⟨s',hy⟩=>kk _ _ ⟨s.trans s',?_⟩) S;rw[c7 e];exact(aw.same s' q).snoc hy
 ·obtain⟨s,q⟩:=p;rw[EM (by omega)] at q;exact hd ys H s q
theorem jh {lo:Int}{t r:Du}{n:Nat}{Pd:DZ->Prop} (tw:bv H1 t r) (hl:n <= 1000)
  (he:∀ (i:Nat) (H:Hp),i<n->bv H t r->Mv [t,r] H1 H->jm g tt te σ0 (.int (lo+i)) H λy H'=>bv H' t r/\Mv [t,r] H H'/\∃ d,Pd d/\aQ K (cut [t,r] H') d y)
  (hd:∀ ds ys H,ds.length=n->(∀ d∈ds,Pd d)->bv H t r->Mv [t,r] H1 H->aw K (cut [t,r] H) ds ys->Fin ys H):fb (vn lo n) g tt te σ0 Fin H1:=by
 refine gU (λi ys H=>bv H t r/\Mv [t,r] H1 H/\∃ ds:List DZ,ds.length=i/\(∀ d∈ds,Pd d)/\aw K (cut [t,r] H) ds ys) ⟨tw,Mv.refl,[],rfl,λ_ h=>(Ef h).elim,.nil⟩ hl (λi ys H hi p=>?_) (λi ys H hi p=>?_) (λys H p=>?_)
 ·obtain⟨_,_,ds,e,_,q⟩:=p;rw[<- q.length];omega
 ·obtain⟨tw',mv,ds,e,hP,q⟩:=p;intro R kk S;refine he i H hi tw' mv R (λy H' ⟨tw2,mv2,d,hd,hy⟩=>kk _ _ ⟨tw2,mv.trans mv2,ds++[d],by rw[EF,e];rfl,λd' m=>?_,(aw.same mv2.cut q).snoc hy⟩) S;rcases Ek.mp m with m|m
  ·exact hP d' m
  ·cases DC.mp m;exact hd
 ·obtain⟨tw',mv,ds,e,hP,q⟩:=p;exact hd ds ys H e hP tw' mv q
end
structure Q3 where
 a:Rat
 b:Rat
 c:Rat
def Q3.ds (q:Q3):List DZ:=[rD q.a,rD q.b,rD q.c]
def Q3.col (q:Q3):DZ:=.tuple q.ds
structure Q3.Bd (k:Nat)(q:Q3):Prop where
 a:Bq k q.a
 b:Bq k q.b
 c:Bq k q.c
def yn (p q:Q3):Rat:=0+p.a*q.a+p.b*q.b+p.c*q.c
structure M9 where
 x:Q3
 y:Q3
 z:Q3
def M9.d (m:M9):DZ:=.list [.list m.x.ds,.list m.y.ds,.list m.z.ds]
def M9.led (m:M9)(c:Q3):Q3:=⟨yn m.x c,yn m.y c,yn m.z c⟩
structure M9.Bd (k:Nat)(m:M9):Prop where
 x:m.x.Bd k
 y:m.y.Bd k
 z:m.z.Bd k
def R3.q (r:R3):Q3:=⟨(r.a:Rat)/((1000:Int):Rat),(r.b:Rat)/((1000:Int):Rat),(r.c:Rat)/((1000:Int):Rat)⟩
def S9.m (s:S9):M9:=⟨s.x.q,s.y.q,s.z.q⟩
def R3.cross (r s:R3):R3:=⟨r.b*s.c-r.c*s.b,r.c*s.a-r.a*s.c,r.a*s.b-r.b*s.a⟩
def R3.dot (r s:R3):Int:=r.a*s.a+r.b*s.b+r.c*s.c
def S9.ca (s:S9):R3:=⟨s.x.a,s.y.a,s.z.a⟩
def S9.cb (s:S9):R3:=⟨s.x.b,s.y.b,s.z.b⟩
def S9.cc (s:S9):R3:=⟨s.x.c,s.y.c,s.z.c⟩
def R3.by (r:R3)(s:S9):Q3:=⟨(r.dot s.ca:Rat)/((1000*1000:Int):Rat),(r.dot s.cb:Rat)/((1000*1000:Int):Rat),(r.dot s.cc:Rat)/((1000*1000:Int):Rat)⟩
section
variable {K:Dd}{g:TG}{tt:TT}{te:TE}{σ0:L2.St}{Fin:List V->Hp->Prop}{H1:Hp}
theorem bL (hsrc:cq K H1 a xs b) (hds:aw K H1 ds xs) (hle:es.length=ds.length) (hl:ds.length <= 1000)
  (he:∀ (i:Nat) (d e:DZ) (x:V) (H:Hp),ds[i]?=some d->es[i]?=some e->ae H1 H->aQ K H d x->jm g tt te σ0 x H λy H'=>ae H H'/\aQ K H' e y)
  (hd:∀ ys H,ae H1 H->aw K H es ys->Fin ys H):fb (pZ K a b) g tt te σ0 Fin H1:=by
 have hlen:=hds.length;refine⟨λi m ys H=>m=xs.length-i/\i<=xs.length/\ae H1 H/\aw K H (es.take i) ys,⟨xs.length,by omega,ES _,ae.refl _,.nil⟩,?_⟩;rintro i m ys H ⟨rfl,hi,s,hys⟩;have hyl:=hys.length;rw[Ei] at hyl
 by_cases hlt:i<xs.length
 ·have go:(pZ K a b).go i H:=by
   have q:=cq.same s hsrc;cases b with
   |true=>exact⟨xs,xs[i],q,by simp[hlt]⟩
   |false=>exact⟨xs,xs[i],q,by simp[hlt]⟩
  refine .inr ⟨go,bP (by omega),λx H3 y3=>?_⟩;have e3:H3=H/\xs[i]?=some x:=by
   have q:=cq.same s hsrc;cases b with
   |true=>exact⟨y3.1,y3.2 xs q⟩
   |false=>exact⟨y3.1,y3.2 xs q⟩
  obtain⟨rfl,hx⟩:=e3;obtain⟨d,hdd,hdx⟩:=hds.get hx;have hee:es[i]?=some es[i]:=by simp[show i<es.length by omega]
  refine he i d es[i] x _ hdd hee s (aQ.same s hdx) _ (λy H' ⟨s',hy⟩=>⟨xs.length-(i+1),by omega,rfl,hlt,s.trans s',?_⟩) λH5=>∃ m',m'<xs.length-i/\(m'=xs.length-(i+1)/\i+1<=xs.length/\ae H1 H5/\aw K H5 (es.take (i+1)) ys)
  rw[c7 hee];exact(aw.same s' hys).snoc hy
 ·have e:i=xs.length:=by omega
  subst e;have stop:(pZ K a b).stop xs.length H:=by
   have q:=cq.same s hsrc;cases b with
   |true=>exact⟨xs,q,Dn _⟩
   |false=>exact⟨xs,q,Dn _⟩
  rw[EM (by omega)] at hys;exact .inl ⟨stop,cO (by omega),hd ys H s hys⟩
end
theorem B5 {i:Nat}(h:[a,b,c][i]?=some x):(i=0/\x=a)\/(i=1/\x=b)\/(i=2/\x=c):=by
 match i,h with
 |0,h=>exact .inl ⟨rfl,(Dm h).symm⟩
 |1,h=>exact .inr (.inl ⟨rfl,(Dm h).symm⟩)
 |2,h=>exact .inr (.inr ⟨rfl,(Dm h).symm⟩)
 |n+3,h=>simp at h
section
variable {X:Cx}{K:Dd}{pos:Pos}{tg:Fs}
def Ao (K:Dd):List V->Hp->VK->Prop:=λxs H Q=>∃ p ys,xs=[.ref p]/\(bj K H p ys\/f7 K H p ys)/\Q (.int ys.length) H
def xA (K:Dd):List V->Hp->VK->Prop:=λxs H Q=>∃ p ys,xs=[.ref p]/\(bj K H p ys\/f7 K H p ys)/\∀ l,H l=none->Q (.ref l) (upd H l (.lst ys))
def ym (K:Dd):List V->Hp->VK->Prop:=λxs H Q=>∃ p ys,xs=[.ref p]/\((bj K H p ys/\∀ l,H l=none->Q (.ref l) (upd H l (.tup ys)))\/(f7 K H p ys/\Q (.ref p) H))
def B2 (K:Dd):List V->Hp->VK->Prop:=λxs H Q=>∃ (p:Du) (bs:List Bool),xs=[.ref p]/\bj K H p (bs.map V.bl)/\Q (.bl (bs.all id)) H
theorem dM (e:X.K=K):br X (.builtin "len") (Ao K):=by subst e;exact ni
theorem pR (e:X.K=K):br X (.type "list") (xA K):=by subst e;exact nM
theorem mS (e:X.K=K):br X (.type "tuple") (ym K):=by subst e;exact lO
theorem gF (e:X.K=K)(hc:X.calm=true):br X (.builtin "all") (B2 K):=by subst e;exact ui hc
theorem kY (e:X.K=K):br X (.builtin "isinstance") (yH K):=by subst e;exact oY
theorem vN (e:X.K=K)(hu:X.A.units+64<cLine):gg X (Fk .NotEq) (A5 K):=by subst e;exact yN hu
theorem wU (e:X.K=K)(hu:X.A.units+64<cLine):gg X (Fk .NotEq) (va K):=by subst e;exact uh hu
theorem BB (e:X.K=K):vV X (xK K):=by subst e;exact yB
theorem zQ (e:X.K=K):By X (AL K):=by subst e;exact wG
theorem bG (e:X.K=K)(hl:WE X l tl):WI X tg l (As K tl):=by
 have hl:=hl.go;refine⟨?_⟩;subst e;exact zk hl
theorem qO (e:X.K=K) {tk:Nat} (hg:Gl X "zip") (hm:X.mg "zip"=none) (ha:WA X [a,b] ta) (hs:DO [a,b] X.env=[(false,GI a X.env),(false,GI b X.env)]:=by rfl) (hs2:DO [b] X.env=[(false,GI b X.env)]:=by rfl) :
  WI X (.Tuple elts tk tpos) (.Call (.Name "zip" p) [a,b] [] pos) (Bc K ta):=by
 have ha:=ha.go;refine⟨?_⟩;subst e;exact zq hg hm ha hs hs2
theorem m_ (e:X.K=K){k:Nat}{n:Nat}(hc:X.calm=true)(h:Ad X es t)(hn:(Fn es X.env).length=n:=by rfl)(hst:(Fn es X.env).findIdx? (·.1)=none:=by rfl):WG X (.Tuple es k pos) (Bi K n t):=by
 have h:=h.go;refine⟨?_⟩;subst e;exact zu hc h hn hst
theorem vi (e:X.K=K){k:Nat}{n:Nat}(hc:X.calm=true)(h:Ad X es t)(hn:(Fn es X.env).length=n:=by rfl)(hst:(Fn es X.env).findIdx? (·.1)=none:=by rfl):WG X (.Tuple es k pos) (A7 K n t):=by
 have h:=h.go;refine⟨?_⟩;subst e;exact zh hc h hn hst
end
def S9.one:S9:=⟨false,false,false,false,⟨1000,0,0⟩,⟨0,1000,0⟩,⟨0,0,1000⟩⟩
def S9.c0 (s:S9):R3:=s.y.cross s.z
def S9.c1 (s:S9):R3:=s.z.cross s.x
def S9.c2 (s:S9):R3:=s.x.cross s.y
def S9.f (s:S9)(n:Int):Rat:=((1000*n:Int):Rat)/((s.det:Int):Rat)
def S9.back (s:S9):M9:=⟨⟨s.f s.c0.a,s.f s.c1.a,s.f s.c2.a⟩,⟨s.f s.c0.b,s.f s.c1.b,s.f s.c2.b⟩,⟨s.f s.c0.c,s.f s.c1.c,s.f s.c2.c⟩⟩
def kD (h:Fp)(e C:Du)(T:Option Du):Prop:=∃ oe vs,h.get? e=some oe/\oe.cls=.ref C/\oe.data=.fields vs/\match T with
 |none=>vs[1]?=some .none
 |some T=>vs[1]?=some (.ref T)/\T≠e/\∃ oT ts,h.get? T=some oT/\oT.data=.fields ts/\ts[3]?=some .none
section
variable {M:Model}{A:EK}{E:Di->Dk->Prop}{s:Dk}
theorem l7 (hfr:A.frames=some (env :: outer)) (hl:s.heap.FunFrames base (env :: outer)) (hf:env.frame=some L) (x:kD s.heap e C T)
  (h:∀ h' T',(∀ b o,s.heap.get? b=some o->b∉dB (env::outer)->b≠e->T≠some b->h'.get? b=some o)->(∀ b o,s.heap.get? b=some o->b∈dB (env::outer)->∃ sl,h'.get? b=some { o with slots:=sl }) ->
   kD h' e C (some T')->(s.heap.get? T'=none\/T=some T')->Q () { s with heap:=h' }):Dy M A (leaving env (.ref e)) Q E s:=by
 obtain⟨oe,vs,he,hcls,hd,hT⟩:=x;have hl':=PySem.W.funFrames_hide (as:=dB (env::outer)++e::T.toList) hl λenv he a ha=>E7 _ (EG.mpr ⟨env,he,ha⟩)
 have hkb:(IM s.heap (dB (env::outer)++e::T.toList)).StaysIn s.heap:=λb o q=>Lz _ q
 have hen:(IM s.heap (dB (env::outer)++e::T.toList)).get? e=none:=Iq _ (Dq _ (DL ..));have fin:∀ h',Heap.Left (IM s.heap (dB (env::outer)++e::T.toList)) (env::outer) e (.ref C) s.heap h'->Q () { s with heap:=h' }:=λh' hL=>by
  obtain⟨k1,k2,⟨oe',vs',T',oT',ts',he',hc',hd',h1',hn',hTe',hT',hdT',h3'⟩,k4⟩:=hL;have slots:∀ b o,s.heap.get? b=some o->b∈dB (env::outer)->∃ sl,h'.get? b=some { o with slots:=sl }:=λb o q m=>by
   obtain⟨_,o',ho',nf⟩:=hl.mem m;rw[q] at ho';cases ho';exact k4 b o q nf
  refine h h' T' (λb o q n1 n2 n3=>k1 b o (IN _ q λm=>?_)) slots ⟨oe',vs',he',hc',hd',h1',hTe',oT',ts',hT',hdT',h3'⟩ ?_
  ·rcases Ek.mp m with m|m
   ·exact n1 m
   ·rcases Dx.mp m with m|m
    ·exact n2 m
    ·exact n3 (HY.mp m)
  ·cases q:s.heap.get? T' with
   |none=>exact .inl rfl
   |some o=>
    refine .inr ?_
    by_cases m:T'∈dB (env::outer)++e::T.toList
    ·rcases Ek.mp m with m|m
     ·obtain⟨_,o',ho',nf⟩:=hl.mem m;obtain⟨sl,e2⟩:=slots T' o' ho' m;rw[hT'] at e2;cases e2;exact absurd hdT' (nf _)
     ·rcases Dx.mp m with m|m
      ·exact absurd m hTe'
      ·exact HY.mp m
    ·have:=IN _ q m;rw[hn'] at this;cases this
 cases T with
 |none=>exact wpAny_leaving_first hfr hl' hf he hkb hen hd hT λh' hL=>fin h' (hcls▸hL)
 |some T=>
  obtain⟨h1,hTe,oT,ts,hoT,hdT,h3⟩:=hT;refine wpAny_leaving_next hfr hl' hf ⟨oe,vs,T,oT,ts,he,hcls,hd,h1,Iq _ ?_,hTe,hoT,hdT,h3⟩ hkb hen fin;exact Dq _ (Do _ (by simp))
end
theorem gf (x:gm P w H h)(k:∀ b u o,H b=some u->h.get? b=some o->h'.get? b=some o):gm P w H h':=λa o e=>
 (x a o e).stay (λb u hb q=>by
  rcases hb with rfl|hb
  ·exact k _ _ _ e q
  ·exact k _ _ _ hb q) (λ_ q=>q) λ_ _ q=>q
theorem dN:∀ {o:HO},be P w H h a o->∃ u,h.get? a=some u
 |.lst _,x=>by obtain⟨_,_,_,_,e⟩:=x;exact⟨_,e⟩
 |.tup _,x=>by obtain⟨_,_,_,o,e,_⟩:=x;exact⟨o,e⟩
 |.dK _,x=>by obtain⟨_,_,_,_,o,_,_,e,_⟩:=x;exact⟨o,e⟩
 |.dT _,x=>by obtain⟨_,_,_,_,o,_,_,e,_⟩:=x;exact⟨o,e⟩
 |.set _ _,x=>by obtain⟨o,_,_,_,e,_⟩:=x;exact⟨o,e⟩
 |.ins _ _ _,x=>by obtain⟨_,_,_,e,_⟩:=x;exact⟨_,e⟩
 |.own _,x=>x
 |.xd _,x=>by obtain⟨_,⟨o,_,_,e,_⟩,_⟩:=x;exact⟨o,e⟩
 |.met _ _,x=>⟨_,x⟩
 |.rng _ _,x=>by obtain⟨_,_,_,e⟩:=x;exact⟨_,e⟩
 |.frz o _,x=>⟨o,x.1⟩
 |.tbl _,x=>by obtain⟨_,e,_⟩:=x;exact⟨_,e⟩
 |.ext _,x=>x.2.1
def cC (P:DN)(w:Ez):iG:=λouter H s E v s'=>∃ (e C:Du) (T:Option Du) (H':Hp),v=.ref e/\s'.os=s.os/\Ko s'.gens/\Un (dB outer) [] H H' s.heap s'.heap/\gm P w H' s'.heap/\kD s'.heap e C T /\
 (s.heap.get? e=none/\H' e=none)/\(∀ t,T=some t->s.heap.get? t=none/\H' t=none)/\E (.ref C) none H'
theorem aU:yM (cC P w):=λ_ _ _ _ _ ⟨_,_,_,_,_,_,_,_,_,_,_,_,h⟩=>h
structure d_ (X:Cx)(pins:List (Du×Obj))(H:Hp)(b:Du):Prop where
 new:X.s₀.heap.get? b=none
 free:H b=none
 loc:b≠X.env.locals
 cell:∀ x c,X.env.cells.lookup x=some c->c≠b
 pin:∀ p∈X.pn++pins,p.1≠b
def zv (X:Cx)(W:L2.St->Du->Hp->Prop):Prop:=∀ (pins:List (Du×Obj)) (σ:L2.St) (H:Hp) (s:Dk) (e C:Du) (T:Option Du),av X pins σ H s->kD s.heap e C T->d_ X pins H e->(∀ t,T=some t->d_ X pins H t)->W σ C H->X.xe (.ref e) s
theorem bx {P:DN}{w:Ez}{K:Dd}{mg:Str->Option Di}{base:Fp}{N:List Str}{qual:Str}{scope:He}{f:Du}{cd:Di}{A:EK}{outer:List Env}{s:Dk}{H:Hp}{E:XK} :
  zv (kF (cC P w) P w K mg base N qual scope f cd A outer s H E) (λ_ C H'=>E (.ref C) none H'):=by
 intro pins σ H' s' e C T I x oe oT q;have fl:=I.stack;show Dy _ _ (leaving _ _) _ _ _;refine l7 (base:=base) I.ok.frames fl rfl x λh' T' keep slot x' nT=>?_
 have sz:∀ b o,s.heap.get? b=some o->b≠s.heap.objs.size:=λb o e=>DI (Dj e)
 have nf:∀ b o,s.heap.get? b=some o->b∉dB outer->b∉dB (envOfC qual scope s.heap.objs.size f cd::outer):=λb o e n m=>by
  obtain⟨env,he,hf⟩:=EG.mp m;rcases Dx.mp he with rfl|he
  ·exact sz b o e (Dm hf).symm
  ·exact n (EG.mpr ⟨env,he,hf⟩)
 have inn:∀ b,b∈dB outer->b∈dB (envOfC qual scope s.heap.objs.size f cd::outer):=λb m=>by
  obtain⟨env,he,hf⟩:=EG.mp m;exact EG.mpr ⟨env,Do _ he,hf⟩
 have ne:∀ b o,s.heap.get? b=some o->b≠e:=λb o q z=>by rw[z] at q;rw[show s.heap.get? e=none from oe.new] at q;cases q
 have nt:∀ b o,s.heap.get? b=some o->T≠some b:=λb o q z=>by rw[show s.heap.get? b=none from(oT b z).new] at q;cases q
 have hT':s.heap.get? T'=none/\H' T'=none:=by
  rcases nT with nT|nT
  ·constructor
   ·cases q:s.heap.get? T' with
    |none=>rfl
    |some o=>
     obtain⟨o',q'⟩:=I.base.there T' o q (by intro z;exact absurd (show T'∈([]:List Du) from z) (by simp));rw[nT] at q';cases q'
   ·cases q:H' T' with
    |none=>rfl
    |some u=>
     have lt:=I.hok T' u q;obtain⟨o,q'⟩:∃ o,s'.heap.get? T'=some o:=dN lt;rw[nT] at q';cases q'
  ·exact⟨(oT T' nT).new,(oT T' nT).free⟩
 refine⟨e,C,some T',H',rfl,I.os,I.bare,⟨λb o q n m z=>?_,λb o q n m z=>?_,λb o q n z=>I.base.free b o q n z,λb o q z=>?_,I.base.tups,I.base.frzs,I.base.tbls⟩,gf I.hok λb u o hb q=>?_,x',⟨oe.new,oe.free⟩,λt et=>by cases et;exact hT',q⟩
 ·exact keep b o (I.base.keep b o q n m z) (nf b o q m) (ne b o q) (nt b o q)
 ·obtain⟨sl,q2⟩:=I.base.slot b o q n m z;obtain⟨sl2,q3⟩:=slot b _ q2 (inn b m);exact⟨sl2,q3⟩
 ·obtain⟨o',q2⟩:=I.base.there b o q z
  by_cases m:b∈dB (envOfC qual scope s.heap.objs.size f cd::outer)
  ·obtain⟨sl,q3⟩:=slot b o' q2 m;exact⟨_,q3⟩
  ·exact⟨o',keep b o' q2 m (ne b o q) (nt b o q)⟩
 ·refine keep b o q (λm=>?_) (λz=>?_) (λz=>?_)
  ·rw[I.stkFree b m] at hb;cases hb
  ·rw[z,oe.free] at hb;cases hb
  ·rw[(oT b z).free] at hb;cases hb
theorem uN (t:zv X W)(hex:X.ex=[])(I:av X pins σ H s)(hE:∀ C H',E (.ref C) none H'->W σ C H')(h:cC X.prog X.w X.stack H s E v s'):X.xe v s':=by
 obtain⟨e,C,T,H',rfl,os,bare,un,hok,x,⟨e1,e2⟩,hT,q⟩:=h;have I':av X pins σ H' s':=I.call' os un hok bare λb z=>absurd z (by simp)
 have ours:∀ b,s.heap.get? b=none->H' b=none->d_ X pins H' b:=λb n1 n2=>by
  have ne:∀ c o,s.heap.get? c=some o->c≠b:=λc o q z=>by rw[z,n1] at q;cases q
  refine⟨?_,n2,λz=>?_,λy c q z=>?_,λp hp z=>?_⟩
  ·cases q:X.s₀.heap.get? b with
   |none=>rfl
   |some o=>
    obtain⟨o',q'⟩:=I.base.there b o q (by rw[hex];simp);rw[n1] at q';cases q'
  ·obtain⟨m,hn,_⟩:=I.loc;obtain⟨o,_,_,ho,_⟩:=hn;exact ne _ o ho z.symm
  ·obtain⟨v,o,ho,_⟩:=I.cell y c q;exact ne _ o ho z
  ·exact ne _ _ (I.pin p hp).1 z
 exact t pins σ H' s' e C T I' x (ours e e1 e2) (λt et=>ours t (hT t et).1 (hT t et).2) (hE C H' q)
abbrev WX:=L2.St->Du->Hp->Prop
def o7 (W:WX)(σ:L2.St):XK:=λc _ H'=>∃ C,c=.ref C/\W σ C H'
def uV (sp:Sp)(dvs:List V)(W:WX)(t:TA):TE:=λσ H Q=>t σ H λvs H1=>sp (vs++dvs) H1 Q (o7 W σ)
section
variable {X:Cx}{W:WX}{k:Nat}{ps:List Str}{sp:Sp}{dvs:List V}{x:Str}{p pos:Pos}{e:Fs}{es:List Fs}{t:TA}
theorem wS (F:iX X.prog X.w X.K X.mg X.base (cC X.prog X.w) k f fd ps sp)
  (hr:Room k X.A)(hb:gJ X.K fd ps ds)(hd:aJ dvs ds)(hT:zv X W)(hex:X.ex=[])(I:av X pins σ H s)(r:aJ vs us)(h:sp (vs++dvs) H Q (o7 W σ)):
  Dy (DK X.prog X.w) X.A (call (.ref f) us) (EP X pins σ Q) X.xe s:=by
 have rr:aJ (vs++dvs) (us++ds):=aJ.append r hd;have hn:(us++ds).length=ps.length:=rr.length.symm.trans (F.len _ _ _ _ h);refine IC (GP (F.run X.A X.stack s H ⟨us,[]⟩ (us++ds) (vs++dvs) Q (o7 W σ) hr I.env0 (hb s us I.kIn hn) rr h) λz s' hz=>?_)
 match z,hz with
 |.error v,hz=>exact uN hT hex I (λC H' q=>by obtain⟨C',e,w⟩:=q;cases e;exact w) hz
 |.ok (.ret u),hz=>exact I.after hz
theorem b8 (hT:zv X W) (hex:X.ex=[]) (C:dA X.prog X.w X.K X.mg X.base (cC X.prog X.w) k x ps dvs sp) (hr:Room k X.A) (hg:Gl X x) (ha:WA X (e :: es) t) (hdb:(x == ("__debug__":Str))=false:=by decide)
  (he:DO (e::es) X.env=(false,GI e X.env)::DO es X.env:=by rfl)(hpl:(HJ pos (DO es X.env)).any (·.1)=false:=by rfl):WE X (.Call (.Name x p) (e::es) [] pos) (uV sp dvs W t):=by
 have ha:=ha.go;refine⟨?_⟩;obtain⟨f,fd,ds,F,hm,hk,hb,hv⟩:=C.ex;intro pins s σ H Q I h;refine FF (dJ I hg hm ?_ hdb);refine GF (h₀:=X.base) I.ok.mod.kin hk (bo (ha pos pins s σ H _ I h) λus s1 ⟨vs,H1,I1,r,q⟩=>⟨I1.kIn,?_⟩) he hpl;exact wS F hr hb hv hT hex I1 r q
end
theorem dz.calX {P:DN}{w:Ez}{K:Dd}{mg:Str->Option Di}{base:Fp}{CX:iG}{x:Str}{st:Gv}{N ps:List Str}{dvs:List V}{k:Nat}{sp:Sp} (F:dz K mg x st ps dvs) (S:az N ps (ai st))
  (len:∀ vs H Q E,sp vs H Q E->vs.length=ps.length:=by intro _ _ _ _ h;cases h;subst_vars;rfl)
  (bb:∀ (f:Du) (cdv:Di) (A:EK) (outer:List Env) (s:Dk) (H:Hp) (vs:List V) (Q:VK) (E:XK),Room k (A.deeper (envOfC x (ai st) s.heap.objs.size f cdv))->sp vs H Q E ->
   ∃ t,vm (kF CX P w K mg base N x (ai st) f cdv A outer s H E) (aR st) t/\t { nx:=λ_ H'=>Q .non H',rt:=Q } (fO N vs) H):dA P w K mg base CX (k+1) x ps dvs sp:=by
 obtain⟨f,fd,oc,od,dV,kV,doc,pm,an,cdv,ct,osl,ds,rfl,lk,hcd,hm,hk,hb,hv⟩:=F.ex;exact⟨f,_,ds,rn lk hcd S len λA outer s H vs Q E hr hsp=>bb f cdv A outer s H vs Q E hr hsp,hm,hk,hb,hv⟩
abbrev Bu:List Di:=[.type "ValueError",.type "Exception",.type "BaseException",.type "object"]
abbrev wA:String:="ValueError.__new__"
def bf (K:Dd)(x:Str)(C:Du):Prop:=DG K Dr x=some (some (.ref C))
theorem v7 {K:Dd}{h:Fp}{C:Du}{bmB:List Di}{newId:String} (X:K.In h) (q:HH K C bmB newId=true) :
  ∃ bm N nm qn bs hd sn sub ab col dd k0 k1 k2 k3 k5 mN,h.get? C=some (excClassObj nm qn C N bs bm hd sn sub ab col dd k0 k1 k2 k3 k5 newId)/\h.Ns N mN/\mN "__init__"=none/\OwnTail h bmB bm:=by
 unfold HH at q
 split at q
 ·rename_i dd cd sl look
  split at q
  ·rename_i C1 bm k0 k1 k2 k3 n k5 hm hs
   obtain⟨nm,bs,mro,ns,qn,hd,sn,sub,ab,col,del⟩:=cd;simp only[Dw,EV,Bool.not_eq_true'] at q hm;obtain⟨⟨⟨⟨⟨z1,z2⟩,z3⟩,z4⟩,z5⟩,z6⟩:=q;subst z1 z2 z3 hm;have es:sl=#[k0,k1,k2,k3,some (.builtin n),k5]:=by
    obtain⟨l⟩:=sl;simp only at hs;rw[hs]
   subst es;exact⟨bm,ns,nm,qn,bs,hd,sn,sub,ab,col,dd,k0,k1,k2,k3,k5,_,X _ _ look,.of_isNs (PySem.W.isNs_of_in X z5),PySem.W.nsMap_none_of_in X z5 z6,PySem.W.tail_of_in X z4⟩
  ·cases q
 ·cases q
def yQ (K:Dd)(x:Str)(W:WX)(t:TA):TS:=λ_ σ H=>t σ H λvs H1=>vs.length<=Ds/\∀ C,bf K x C->W σ C H1
theorem av.unt (I:av X pins σ H s)(h:s.heap.get? b=none):H b=none:=by
 cases q:H b with
 |none=>rfl
 |some u=>
  obtain⟨o,z⟩:=dN (I.hok b u q);rw[h] at z;cases z
theorem av.ours (hex:X.ex=[])(I:av X pins σ H s)(h:s.heap.get? b=none):d_ X pins H b:=by
 have ne:∀ c o,s.heap.get? c=some o->c≠b:=λc o q z=>by rw[z,h] at q;cases q
 refine⟨?_,av.unt I h,λz=>?_,λy c q z=>?_,λp hp z=>?_⟩
 ·cases q:X.s₀.heap.get? b with
  |none=>rfl
  |some o=>
   obtain⟨o',q'⟩:=I.base.there b o q (by rw[hex];simp);rw[h] at q';cases q'
 ·obtain⟨m,hn,_⟩:=I.loc;obtain⟨o,_,_,ho,_⟩:=hn;exact ne _ o ho z.symm
 ·obtain⟨v,o,ho,_⟩:=I.cell y c q;exact ne _ o ho z
 ·exact ne _ _ (I.pin p hp).1 z
theorem bW {X:Cx}{W:WX}{x:Str}{np cpos pos:Pos}{e:Fs}{es:List Fs}{t:TA}{K:Dd} (hK:X.K=K) (hT:zv X W) (hex:X.ex=[]) (hc:X.calm=true) (hg:Gl X x) (hC:∃ C,bf K x C/\HH K C Bu wA=true)
  (ha:WA X (e::es) t)(hdb:(x==("__debug__":Str))=false:=by decide)
  (he:DO (e::es) X.env=(false,GI e X.env)::DO es X.env:=by rfl)(hpl:(HJ cpos (DO es X.env)).any (·.1)=false:=by rfl):
  WS X (.Raise (some (.Call (.Name x np) (e::es) [] cpos)) none pos) (yQ K x W t):=by
 have ha:=ha.go;refine⟨?_⟩;subst hK;intro pins s σ H D I h;obtain⟨C,hc1,hc2⟩:=hC;have hm:X.mg x=some (.ref C):=FZ I.ok.mod.kin I.ok.mod.glob hc1;obtain⟨bm,N,nm,qn,bs,hd,sn,sub,ab,col,dd,k0,k1,k2,k3,k5,mN,hO,hN,hi,hTl⟩:=v7 I.ok.mod.kin hc2;refine wpAny_Raise_call_subT (C:=C) (nm:=nm) (q:=qn) (N:=N) (bs:=bs) (bm:=bm) (hdct:=hd) (sn:=sn) (sub:=sub) (ab:=ab) (col:=col) (dd:=dd) (k0:=k0) (k1:=k1) (k2:=k2) (k3:=k3) (k5:=k5)
  I_ (mN:=mN) (hTl.hasType I_.hasBase) (I.ok.hd hc) ?_ hi (dJ I hg hm ⟨rfl,?_⟩ hdb)
 ·rw[he];show(false||(HJ cpos (DO es X.env)).any (·.1))=false;rw[hpl];rfl
 have h2:=ha cpos pins s σ H _ I h;rw[he] at h2 ⊢;refine Io (bo h2 λus s1 ⟨vs,H1,I1,r,hl,hw⟩=>⟨rfl,?_,I1.bk _ _ hO,hN.keeps I1.bk,hTl.keeps I1.bk,λh' e0 hx=>?_⟩)
 ·rw[<- r.length];exact hl
 ·obtain⟨tp,ht,hn1,ht2⟩:=hx.there;have I2:av X pins σ H1 { s1 with heap:=h' }:=I1.kept (t':=s1.toks) hx.keeps;have o1:=av.ours hex I1 hx.new;exact hT pins σ H1 _ e0 C none I2 ⟨_,_,ht,rfl,rfl,rfl⟩ o1 (λt z=>nomatch z) (hw C hc1)
theorem tj
  (h:Dy (DK prog w) A (execs body env) Q (λv s1=>Dy (DK prog w) A (leaving env v) (λ_ s2=>Dy (DK prog w) A (handleBy v env (h0::hs)) Q E s2) E s1) s):
  Dy (DK prog w) A (exec (.Try body (h0::hs) [] [] pos) env) Q E s:=by
 rw[arm_exec_Try];refine De (Fl ?_);unfold tryStmt;simp only[EO,GG,GQ,Fx,List.isEmpty_cons,List.isEmpty_nil];refine De (F0 (DW h (λf s1 h1=>?_) λv s1 h1=>?_))
 ·cases f with
  |next=>exact HL h1
  |brk=>exact Dg h1
  |cont=>exact Dg h1
  |ret u=>exact Dg h1
 ·intro Γ p hΓ;have h2:=h1 Γ p hΓ;unfold leaving at h2;rw[Mg] at h2;show Sem.wp _ Γ (IV v env>>=λ_=>setFlight v none>>=λ_=>handleBy v env (h0::hs)) _ _ p s1;rw[Mg];refine Sem.wp_mono _ Γ _ (λ_ p1 s3 h3=>?_) (λ_ _ _ z=>z) p s1 h2;rw[Mg];exact Sem.wp_mono _ Γ _ (λ_ p2 s4 h4=>h4 Γ p2 hΓ) (λ_ _ _ z=>z) p1 s3 h3
section
variable {X:Cx}{pins pins':List (Du×Obj)}{σ:L2.St}{H:Hp}{s:Dk}{h':Fp}
theorem av.ctx (I:av X pins σ H s) (hf:A'.frames=X.A.frames) (hc:c'=true->A'.handled=none) (hp:∀ p ∈ pn' ++ pins',p ∈ X.pn ++ pins) :
  av { X with A:=A',calm:=c',pn:=pn',xe:=xe' } pins' σ H s:=
 ⟨⟨I.ok.mod,I.ok.kind,I.ok.glob,I.ok.blt,I.ok.above,I.ok.inj,I.ok.has,I.ok.cab,hc,hf.trans I.ok.frames,I.ok.stk,I.ok.exf,I.ok.bs,I.ok.bsz,I.ok.noex,I.ok.exfs,I.ok.funs,I.ok.frf⟩,
  I.os,I.bare,I.base,I.loc,I.cell,I.free,I.freeC,λp hp'=>I.pin p (hp p hp'),I.hok,I.len⟩
theorem av.back {A':EK}{c':Bool}{pn':List (Du × Obj)}{xe':Di->Dk->Prop} (J:av { X with A:=A',calm:=c',pn:=pn',xe:=xe' } pins' σ H s) (hf:X.A.frames=A'.frames) (hc:X.calm=true->X.A.handled=none)
  (hp:∀ p∈X.pn++pins,p∈pn'++pins'):av X pins σ H s:=
 ⟨⟨J.ok.mod,J.ok.kind,J.ok.glob,J.ok.blt,J.ok.above,J.ok.inj,J.ok.has,J.ok.cab,hc,hf.trans J.ok.frames,J.ok.stk,J.ok.exf,J.ok.bs,J.ok.bsz,J.ok.noex,J.ok.exfs,J.ok.funs,J.ok.frf⟩,
  J.os,J.bare,J.base,J.loc,J.cell,J.free,J.freeC,λp hp'=>J.pin p (hp p hp'),J.hok,J.len⟩
theorem av.flown {L:List Du} (I:av X pins σ H s) (ho:∀ b ∈ L,d_ X pins H b) (keep:∀ b o,s.heap.get? b=some o->b ∉ dB X.stack->b ∉ L->h'.get? b=some o)
  (slot:∀ b o,s.heap.get? b=some o->b∈dB X.stack->∃ sl,h'.get? b=some { o with slots:=sl }):av X pins σ H { s with heap:=h' }:=by
 have any:∀ b o,s.heap.get? b=some o->b∉L->∃ sl,h'.get? b=some { o with slots:=sl }:=λb o q n=>by
  by_cases m:b∈dB X.stack
  ·exact slot b o q m
  ·exact⟨o.slots,keep b o q m n⟩
 have nl:∀ b o,X.s₀.heap.get? b=some o->b∉L:=λb o q m=>by
  have z:=(ho b m).new;rw[q] at z;cases z
 have ne:∀ b o,X.s₀.heap.get? b=some o->b≠X.env.locals:=λb o q=>DI (DD (Dj q) I.ok.above)
 have out:∀ b,b≠X.env.locals->b∉X.fs->b∉dB X.stack:=λb n m z=>(Dx.mp (I.stkSub b z)).elim n m
 have cl:∀ x c,X.env.cells.lookup x=some c->∀ v,s.heap.IsCell c v->h'.IsCell c v:=λx c q v z=>by
  obtain⟨o,z1,z2⟩:=z;obtain⟨sl,y⟩:=any c o z1 λm=>(ho c m).cell x c q rfl
  exact⟨_,y,z2⟩
 refine⟨I.ok,I.os,I.bare,⟨λb o q n m z=>?_,λb o q n m z=>?_,I.base.free,λb o q z=>?_,I.base.tups,I.base.frzs,I.base.tbls⟩,?_,λx c q=>?_,I.free,I.freeC,λp hp=>?_,?_,I.len⟩
 ·exact keep b o (I.base.keep b o q n m z) (out b (ne b o q) m) (nl b o q)
 ·obtain⟨sl,y⟩:=I.base.slot b o q n m z;obtain⟨sl2,y2⟩:=any b _ y (nl b o q);exact⟨sl2,y2⟩
 ·obtain⟨o',y⟩:=I.base.there b o q z;obtain⟨sl,y2⟩:=any b o' y (nl b o q);exact⟨_,y2⟩
 ·obtain⟨m,⟨o,es,ep,z,r⟩,hl⟩:=I.loc;obtain⟨sl,y⟩:=any _ o z λw=>(ho _ w).loc rfl
  refine⟨m,⟨_,es,ep,y,r⟩,λi x v e1 e2 e3=>?_⟩;obtain⟨u,rv,l⟩:=hl i x v e1 e2 e3;refine⟨u,rv,?_⟩;rcases l with l|⟨k,c,q,z⟩
  ·exact .inl l
  ·exact .inr ⟨k,c,q,cl x c q _ z⟩
 ·obtain⟨v,z⟩:=I.cell x c q;exact⟨v,cl x c q v z⟩
 ·obtain⟨a,n,l,f,d⟩:=I.pin p hp;exact⟨keep _ _ a (out _ l f) λm=>(ho _ m).pin p hp rfl,n,l,f,d⟩
 ·exact gf I.hok λb u o hb q=>keep b o q (λm=>by rw[I.stkFree b m] at hb;cases hb) λm=>by rw[(ho b m).free] at hb;cases hb
theorem av.track (I:av X pins σ H s)(ho:d_ X pins H e)(new:be X.prog X.w (upd H e (.ext φ)) s.heap e (.ext φ)):av X pins σ (upd H e (.ext φ)) s:=by
 have un:∀ b u,H b=some u->upd H e (.ext φ) b=some u:=λb u q=>by
  rw[ap (λz=>by rw[z,ho.free] at q;cases q)];exact q
 have fr:∀ b,b≠e->H b=none->upd H e (.ext φ) b=none:=λb n q=>by rw[ap n];exact q
 refine⟨I.ok,I.os,I.bare,⟨I.base.keep,I.base.slot,λb o q n z=>fr b (λy=>?_) (I.base.free b o q n z),I.base.there,λb xs q=>un b _ (I.base.tups b xs q),λb o u q=>un b _ (I.base.frzs b o u q),λb ps q=>?_⟩,I.loc,I.cell,
  fr _ (λz=>ho.loc z.symm) I.free,λx c q=>fr c (ho.cell x c q) (I.freeC x c q),λp hp=>?_,λb u q=>?_,I.len⟩
 ·rw[y,ho.new] at q;cases q
 ·obtain⟨m,z⟩:=I.base.tbls b ps q;exact⟨m,un b _ z⟩
 ·obtain⟨a,n,r⟩:=I.pin p hp;exact⟨a,fr _ (ho.pin p hp) n,r⟩
 ·by_cases z:b=e
  ·subst z;rw[ac] at q;cases q;exact new
  ·rw[ap z] at q;exact(I.hok b u q).stay (λ_ _ _ r=>r) (λc r=>un c _ r) λc xs r=>un c _ r
theorem gh {i:Nat} (I:av X pins σ H s) (hN:X.N.Nodup) (hi:X.N[i]?=some n) (hl:X.env.scope.names.lookup n=some .local)
  (h:∀ s',av X pins (σ.set i none) H s'->Q () s'):Dy M A (do Mo X.env n .none;unbindBehindTheSuite X.env n pos) Q E s:=by
 obtain⟨m,hn,hm⟩:=id I.loc;have ne:∀ b o,X.s₀.heap.get? b=some o->b≠X.env.locals:=λb o q=>DI (DD (Dj q) I.ok.above)
 refine wpAny_nameGoes_keeps hl hn (by rw[I.ok.kind];rfl) λh1 v hn1 hs=>h _ ⟨I.ok,I.os,I.bare,⟨λb o q n m z=>(hs.2 b (ne b o q)).trans (I.base.keep b o q n m z),λb o q n m z=>?_,I.base.free,λb o q z=>?_,I.base.tups,I.base.frzs,I.base.tbls⟩,
  ⟨_,hn1,λj y v e1 e2 e3=>?_⟩,λy c q=>?_,I.free,I.freeC,λp hp=>?_,gf I.hok λb u o hb q=>(hs.2 b (λz=>by rw[z,I.free] at hb;cases hb)).trans q,by simpa using I.len⟩
 ·obtain⟨sl,y⟩:=I.base.slot b o q n m z;exact⟨sl,(hs.2 b (ne b o q)).trans y⟩
 ·obtain⟨o',y⟩:=I.base.there b o q z;exact⟨o',(hs.2 b (ne b o q)).trans y⟩
 ·have hji:j≠i:=λz=>by
   subst z;rw[List.getElem?_set] at e2;simp only[GQ] at e2
   split at e2<;>cases e2
  rw[Ip (Fj hji)] at e2;obtain⟨u,r,l⟩:=hm j y v e1 e2 e3;refine⟨u,r,?_⟩;rcases l with ⟨k,q⟩|⟨k,c,q,z⟩
  ·refine .inl ⟨k,?_⟩;dsimp only;rw[DS (λz:y=n=>hji (lf hN e1 (by rw[z];exact hi)))];exact q
  ·exact .inr ⟨k,c,q,z.sameBut hs (I.cne y c q)⟩
 ·obtain⟨u,z⟩:=I.cell y c q;exact⟨u,z.sameBut hs (I.cne y c q)⟩
 ·obtain⟨a,n,l,f,d⟩:=I.pin p hp;exact⟨(hs.2 _ l).trans a,n,l,f,d⟩
end
def pO (e C:Du):HO:=.ext λh=>∃ oe vs,h.get? e=some oe/\oe.cls=.ref C/\oe.data=.fields vs
theorem wR (x:kD h e C T):be P w H h e (pO e C):=by
 obtain⟨oe,vs,h1,h2,h3,_⟩:=x;exact⟨⟨oe,vs,h1,h2,h3⟩,⟨oe,h1⟩,λg1 g2 ⟨o,us,a,b,c⟩ k=>⟨o,us,k _ a,b,c⟩⟩
theorem oM (x:kD s.heap e C (some T))
  (h:∀ h',kD h' e C (some T)->(∀ b o,b≠T->s.heap.get? b=some o->h'.get? b=some o)->Q () { s with heap:=h' }):Dy M A (setFlight (.ref e) none) Q E s:=by
 obtain⟨oe,vs,h1,h2,h3,h4,h5,oT,ts,h6,h7,h8⟩:=x;have ot:∀ b o,b≠T->s.heap.get? b=some o->(s.heap.update T (Ev (·.setIfInBounds 3 D_))).get? b=some o:=λb o n q=>(DV _ _ (Fj n)).trans q
 have h3z:3<ts.size:=(Eg.mp h8).1;refine Iu h1 h3 h4 h6 h7 h3z (h _ ⟨oe,vs,ot e oe (Fj h5) h1,h2,h3,h4,h5,_,_,DX _ h6 (EI (Ec h7 _)),Ec h7 _,by simp[h3z]⟩ ot)
def nP (i:Nat)(D:ju):ju where
 nx:=λσ H=>D.nx (σ.set i none) H
 rt:=D.rt
 bk:=λσ H=>D.bk (σ.set i none) H
 ct:=λσ H=>D.ct (σ.set i none) H
def xT (K:Dd)(C:Du)(x:Str):Prop:=∃ T,bf K x T/\ME K (.ref C) (.ref T)=some true
def yq (K:Dd)(x:Str)(i:Nat)(th:TS)(D:ju):WX:=λσ C H=>xT K C x/\∀ e,H e=none->th (nP i D) (σ.set i (some (.ref e))) (upd H e (pO e C))
def AS (K:Dd)(x:Str)(i:Nat)(tb:WX->TS)(th:TS):TS:=λD σ H=>tb (yq K x i th D) D σ H
theorem yl {X:Cx}{K:Dd}{x n:Str}{i:Nat}{np hpos pos:Pos}{body suite:List Gv}{b0:Gv}{tb:WX->TS}{th:TS} (hK:X.K=K) (hN:X.N.Nodup) (hi:X.N[i]?=some n) (hl:X.env.scope.names.lookup n=some .local)
  (hex:X.ex=[])(hf:X.env.frame=some X.env.locals)(hstk:X.stack=X.env::X.outer)(hg:Gl X x)
  (hb:∀ pn' xe' W,zv { X with pn:=pn',xe:=xe' } W->vm { X with pn:=pn',xe:=xe' } body (tb W))
  (hh:∀ e,vm { X with A:=X.A.mark (some (.ref e)),calm:=false,xe:=λ_ _=>False } (b0::suite) th)(hdb:(x==("__debug__":Str))=false:=by decide):
  PS X (.Try body [.ExceptHandler (some (.Name x np)) (some n) (b0::suite) hpos] [] [] pos) (AS K x i tb th):=by
 subst hK;intro pins s σ H D I h;have back:∀ {pins':List (Du×Obj)}{xe':Di->Dk->Prop}{σ':L2.St}{H':Hp}{s':Dk},av { X with pn:=X.pn++pins,xe:=xe' } pins' σ' H' s'->av X pins σ' H' s':=λ{_ _ _ _ _} J=>
  av.back (X:=X) J rfl I.ok.hd λp hp=>E7 _ hp
 refine tj (DW (hb (X.pn++pins) (λv s1=>Dy (DK X.prog X.w) X.A (leaving X.env v) (λ_ s2=>Dy (DK X.prog X.w) X.A (handleBy v X.env [.ExceptHandler (some (.Name x np)) (some n) (b0::suite) hpos]) (SP X pins D) X.xe s2) X.xe s1)
  (yq X.K x i th D) ?_ [] s σ H D (av.ctx (A':=X.A) (c':=X.calm) I rfl I.ok.hd λp hp=>by simpa using hp) h) (λf s1 hs=>?_) λv s1 hv=>hv)
 ·intro pins' σ' H' s1 e C T J xo oe oT w;obtain⟨⟨T0,hT0,hsub⟩,hw⟩:=w;have J0:=back J;have ours:∀ {b:Du},d_ { X with pn:=X.pn++pins,xe:=λv s1=>Dy (DK X.prog X.w) X.A (leaving X.env v) (λ_ s2=>Dy (DK X.prog X.w) X.A (handleBy v X.env [.ExceptHandler (some (.Name x np)) (some n) (b0::suite) hpos]) (SP X pins D) X.xe s2) X.xe s1 } pins' H' b->d_ X pins H' b:=
   λ{b} z=>⟨z.new,z.free,z.loc,z.cell,λp hp=>z.pin p (E7 _ hp)⟩
  have fl:s1.heap.FunFrames X.base (X.env::X.outer):=by rw[<- hstk];exact J0.stack
  have frm:X.A.frames=some (X.env::X.outer):=by rw[<- hstk];exact J0.ok.frames
  show Dy (DK X.prog X.w) X.A (leaving X.env (.ref e)) _ X.xe s1;refine l7 frm fl hf xo λh1 T1 keep slot xo1 nT=>?_
  have oT1:d_ X pins H' T1:=by
   rcases nT with q|q
   ·exact av.ours hex J0 q
   ·exact ours (oT T1 q)
  have J1:av X pins σ' H' { s1 with heap:=h1 }:=by
   refine av.flown (L:=e::T.toList) J0 (λb hb=>?_) (λb o q n1 n2=>?_) (λb o q m=>?_)
   ·rcases Dx.mp hb with z|z
    ·rw[z];exact ours oe
    ·exact ours (oT b (HY.mp z))
   ·refine keep b o q (by rw[<- hstk];exact n1) (λz=>n2 (by rw[z];exact DL ..)) λz=>n2 (Do _ (by rw[z];simp))
   ·exact slot b o q (by rw[<- hstk];exact m)
  have hm:X.mg x=some (.ref T0):=FZ I.ok.mod.kin I.ok.mod.glob hT0;have ty:Fz (DK X.prog X.w) h1 (typeOf (.ref e)) (.ref C):=by
   obtain⟨o1,v1,q1,q2,_⟩:=xo1;exact q2▸(Kf q1).andThen .now
  have J2:av { X with A:=X.A.mark (some (.ref e)),calm:=false,xe:=λ_ _=>False } pins σ' H' { s1 with heap:=h1 }:=av.ctx (A':=X.A.mark (some (.ref e))) (c':=false) (pn':=X.pn) J1 rfl (λz=>nomatch z) λp hp=>hp
  refine wpAny_handleBy_cons (codeAny_handlers_test (dJ (X:={ X with A:=X.A.mark (some (.ref e)),calm:=false,xe:=λ_ _=>False }) J2 hg hm ?_ hdb)) (by intro q;cases q);refine(PySem.W.exm_one (K:=X.K) J1.kIn ty hsub).here ?_;show Gq _ _ _ _ _;refine codeAny_handlers_suite_as (oM xo1 λh2 xo2 k2=>?_);have J3:av X pins σ' H' { s1 with heap:=h2 }:=av.flown (s:={ s1 with heap:=h1 }) (h':=h2) (L:=[T1]) J1 (λb hb=>by rw[DC.mp hb];exact oT1) (λb o q _ n=>k2 b o (λz=>n (by simp[z])) q)
   (λb o q m=>⟨o.slots,k2 b o (λz=>by
    obtain⟨_,o',ho',nf⟩:=J1.stack.mem m;obtain⟨_,_,_,_,_,_,_,oT',ts,g1,g2,_⟩:=xo1;rw[z,g1] at ho';cases ho';exact nf _ g2) q⟩)
  have J4:av X pins σ' (upd H' e (pO e C)) { s1 with heap:=h2 }:=av.track J3 (ours oe) (wR xo2);refine fm (v:=.ref e) J4 hN hi (.inl hl) rfl (λs3 J5=>?_) (.inr hl);have J6:av { X with A:=X.A.mark (some (.ref e)),calm:=false,xe:=λ_ _=>False } pins (σ'.set i (some (.ref e))) (upd H' e (pO e C)) s3:=av.ctx (A':=X.A.mark (some (.ref e))) (c':=false) (pn':=X.pn) J5 rfl (λz=>nomatch z) λp hp=>hp
  refine DW (hh e pins s3 _ _ (nP i D) J6 (hw e oe.free)) (λf s4 hs=>?_) λ_ _ z=>FD z
  have bk:∀ {σ'':L2.St}{H'':Hp},av { X with A:=X.A.mark (some (.ref e)),calm:=false,xe:=λ_ _=>False } pins σ'' H'' s4->av X pins σ'' H'' s4:=λ{_ _} J=>
   av.back (X:=X) J rfl I.ok.hd λp hp=>hp
  match f,hs with
  |.next,⟨σ1,H1,K1,q⟩=>exact gh (bk K1) hN hi hl λs5 K2=>⟨_,_,K2,q⟩
  |.brk,⟨σ1,H1,K1,q⟩=>exact gh (bk K1) hN hi hl λs5 K2=>⟨_,_,K2,q⟩
  |.cont,⟨σ1,H1,K1,q⟩=>exact gh (bk K1) hN hi hl λs5 K2=>⟨_,_,K2,q⟩
  |.ret u,⟨v,σ1,H1,K1,r,q⟩=>exact gh (bk K1) hN hi hl λs5 K2=>⟨v,_,_,K2,r,q⟩
 ·match f,hs with
  |.next,⟨σ1,H1,K1,q⟩=>exact⟨_,_,back K1,q⟩
  |.brk,⟨σ1,H1,K1,q⟩=>exact⟨_,_,back K1,q⟩
  |.cont,⟨σ1,H1,K1,q⟩=>exact⟨_,_,back K1,q⟩
  |.ret u,⟨v,σ1,H1,K1,r,q⟩=>exact⟨v,_,_,back K1,r,q⟩
def cN:List Str:=["BadNumber","BadShare","BadCurve","BadSquare","NoBack","BadGrid","BadColour","BadIntent","BadProfile","BadInk","BadText"]
def fS:List Str:=["number","share","curve","square","back","grid","colour","intent","profile","ink","text"]
def fe (K:Dd)(x:Str):Option Du:=match DG K Dr x with
 |some (some (.ref C))=>some C
 |_=>none
theorem ky {K:Dd}{x:Str}{C:Du}(h:fe K x=some C):bf K x C:=by
 unfold fe at h
 split at h
 ·rename_i D e
  cases h;exact e
 ·cases h
theorem bN {K:Dd}{x:Str}{C:Du}(h:bf K x C):fe K x=some C:=by
 unfold fe;rw[show DG K Dr x=some (some (.ref C)) from h]
def Cf (K:Dd)(C:Du):Bool:=
 HH K C Bu wA&&IP K C&&FJ K (.ref C)==some (.type "type")&&HI K C (.type "object")==some true&&HI K C (.type "BaseException")==some true &&
  Eb K (.ref C) "__getattribute__"==some (some (.builtin "BaseException.__getattribute__"))&&Eb K (.ref C) "__getattr__"==some none&&Eb K (.ref C) "__class__"==some (some (.builtin "object.__class__")) &&
  H_ K (.builtin "object.__class__") "__get__"==some (some (.builtin "getset_descriptor.__get__"))&&IS K (.builtin "object.__class__")==some true&&EY K (.ref C) (.ref C)==some true
structure Ex (K:Dd)(C:Du):Prop where
 exc:HH K C Bu wA=true
 cls:IP K C=true
 typ:FJ K (.ref C)=some (.type "type")
 slf:EY K (.ref C) (.ref C)=some true
 obj:HI K C (.type "object")=some true
 bex:HI K C (.type "BaseException")=some true
 ga:Eb K (.ref C) "__getattribute__"=some (some (.builtin "BaseException.__getattribute__"))
 gn:Eb K (.ref C) "__getattr__"=some none
 gc:Eb K (.ref C) "__class__"=some (some (.builtin "object.__class__"))
 get:H_ K (.builtin "object.__class__") "__get__"=some (some (.builtin "getset_descriptor.__get__"))
 tks:IS K (.builtin "object.__class__")=some true
theorem An {K:Dd}{C:Du}(h:Cf K C=true):Ex K C:=by
 unfold Cf at h;simp only[Dw,EV] at h;obtain⟨⟨⟨⟨⟨⟨⟨⟨⟨⟨a,b⟩,c⟩,d⟩,e⟩,f⟩,g⟩,i⟩,j⟩,k⟩,l⟩:=h;exact⟨a,b,c,l,d,e,f,g,i,j,k⟩
def dR (K:Dd)(i:Nat)(C:Du):Prop:=∃ x,cN[i]?=some x/\bf K x C
def sg (K:Dd):Bool:=(fe K "TintError").any λT=>IP K T&&FJ K (.ref T)==some (.type "type")&&EY K (.ref T) (.type "BaseException")==some true &&
 (Fm 11).all λi=>(fe K (cN.getD i "")).any λC=>Cf K C&&EY K (.ref C) (.ref T)==some true&&EY K (.ref C) (.type "ValueError")==some true &&
  (Fm 11).all λj=>(fe K (cN.getD j "")).any λD=>EY K (.ref C) (.ref D)==some (i==j)
theorem bC (h:o.any p=true):∃ a,o=some a/\p a=true:=by
 cases o with
 |none=>cases h
 |some a=>exact⟨a,rfl,h⟩
theorem nS {i:Nat}(h:cN[i]?=some x):i<11/\cN.getD i ""=x:=by
 have e:=(DH.mp h).1;exact⟨e,by rw[List.getD_eq_getElem?_getD,h];rfl⟩
section
variable {K:Dd}(R:sg K=true)
include R
theorem c9:∃ T,bf K "TintError" T/\IP K T=true/\FJ K (.ref T)=some (.type "type")/\EY K (.ref T) (.type "BaseException")=some true /\
  ∀ i C,dR K i C->Ex K C/\EY K (.ref C) (.ref T)=some true/\EY K (.ref C) (.type "ValueError")=some true/\∀ j D,dR K j D->EY K (.ref C) (.ref D)=some (i==j):=by
 unfold sg at R;obtain⟨T,hT,h⟩:=bC R;simp only[Dw,EV,DU] at h;obtain⟨⟨⟨h1,h2⟩,h3⟩,h4⟩:=h;refine⟨T,ky hT,h1,h2,h3,λi C hC=>?_⟩;obtain⟨x,hx,hC⟩:=hC;obtain⟨hi,ex⟩:=nS hx;obtain⟨C',e,h5⟩:=bC (h4 i (Fi.mpr hi));rw[ex,bN hC] at e;cases e;simp only[Dw,EV,DU] at h5;obtain⟨⟨⟨h6,h7⟩,h8⟩,h9⟩:=h5;refine⟨An h6,h7,h8,λj D hD=>?_⟩;obtain⟨y,hy,hD⟩:=hD;obtain⟨hj,ey⟩:=nS hy;obtain⟨D',e,h10⟩:=bC (h9 j (Fi.mpr hj));rw[ey,bN hD] at e;cases e;exact EV.mp h10
theorem w_:∃ T,bf K "TintError" T:=by
 obtain⟨T,h,_⟩:=c9 R;exact⟨T,h⟩
theorem bA {i:Nat}(h:cN[i]?=some x):∃ C,bf K x C:=by
 unfold sg at R;obtain⟨T,hT,q⟩:=bC R;simp only[Dw,DU] at q;obtain⟨hi,ex⟩:=nS h;obtain⟨C,e,_⟩:=bC (q.2 i (Fi.mpr hi));rw[ex] at e;exact⟨C,ky e⟩
theorem cX {i:Nat}(h:cN[i]?=some x):∃ C,bf K x C/\HH K C Bu wA=true:=by
 obtain⟨C,hC⟩:=bA R h;obtain⟨T,_,_,_,_,q⟩:=c9 R;exact⟨C,hC,(q i C ⟨x,h,hC⟩).1.exc⟩
theorem wW {i:Nat}(h:dR K i C):xT K C "TintError":=by
 obtain⟨T,h0,h1,h2,h3,q⟩:=c9 R;refine⟨T,h0,?_⟩;unfold ME;rw[Ee (by rw[h3];rfl)];show(if((Gp K T).isSome&&FJ K (.ref T)==some (.type "type"))=true then EY K (.ref C) (.ref T) else none)=some true;rw[Ee (by rw[h2,show(Gp K T).isSome=true from h1];rfl)];exact(q i C h).2.1
theorem cx {i j:Nat}(h:dR K i C)(g:dR K j D):E5 K (.ref C) (.ref D)=some (i==j):=by
 obtain⟨T,h0,h1,h2,h3,q⟩:=c9 R;obtain⟨e1,_,_,e4⟩:=q i C h;obtain⟨f1,_⟩:=q j D g;have s:=e4 j D g;unfold E5
 by_cases z:(DQ C==DQ D)=true
 ·rw[Ee z];have z:=MJ (EV.mp z);subst z;rw[e4 i C h] at s;rw[<- s,Im]
 ·rw[DS z];show(if((Gp K D).isSome&&FJ K (.ref D)==some (.type "type"))=true then EY K (.ref C) (.ref D) else none)=_;rw[Ee (by rw[f1.typ,show(Gp K D).isSome=true from f1.cls];rfl)];exact s
theorem ua {i:Nat}{C T:Du}(h:dR K i C)(g:bf K "TintError" T):E5 K (.ref C) (.ref T)=some true:=by
 obtain⟨T',h0,h1,h2,h3,q⟩:=c9 R;have e:T'=T:=by
  have z:=(bN h0).symm.trans (bN g);exact Dm z
 subst e;unfold E5
 by_cases z:(DQ C==DQ T')=true
 ·rw[Ee z]
 ·rw[DS z];show(if((Gp K T').isSome&&FJ K (.ref T')==some (.type "type"))=true then EY K (.ref C) (.ref T') else none)=_;rw[Ee (by rw[h2,show(Gp K T').isSome=true from h1];rfl)];exact(q i C h).2.1
theorem uw {i:Nat}(h:dR K i C):E5 K (.ref C) (.type "ValueError")=some true:=by
 obtain⟨T',h0,h1,h2,h3,q⟩:=c9 R;unfold E5;rw[DS (λz=>by cases EV.mp z)];show(if Mx "ValueError"=true then EY K (.ref C) (.type "ValueError") else none)=_;rw[Ee (by decide +kernel)];exact(q i C h).2.2.1
end
section
variable {prog:DN}{w:Ez}{A:EK}{E:Di->Dk->Prop}{s:Dk}{K:Dd}{e C:Du}
theorem tu (l1:Fz M h (L5 tp name) (some a)) (l2:Fz M h (specialOf a "__get__") (some g)) (l3:Fz M h (L' a) true) :
  Fz M h (MI self tp name) (.bind g a):=
 l1.andThen (KB (show Fz M h (MF (some a)) (some g) from l2) (KB (show Fz M h (Lp (some a) (some g)) (some (g,a)) from l3.andThen .now) (PySem.W.Looks.tag .now)))
theorem xJ (ex:Ex K C) (X:K.In s.heap) (ty:Fz (DK prog w) s.heap (typeOf (.ref e)) (.ref C)) (h:R (.ok (.ret (.ref C))) s) :
  Gq (DK prog w) A (.call (.builtin "getset_descriptor.__get__") ⟨[.builtin "object.__class__",.ref e,tp],[]⟩) R s:=by
 obtain⟨hh,g,dr,t,os⟩:=s;have L1:=Lk (M:=DK prog w) X ex.obj;have L0:=ty;refine Ir Lx.plain PySem.W.KF.entry_gs (Lx.check _ _ _ _ _ _ _ _ PySem.W.KF.type_class (PySem.W.KF.args_gs _ _ _) ?_);unfold Gn.«getset_descriptor.__get__» Ln;rw[PySem.W.dga_obj];refine De (Dg ?_);unfold KU JL JN JI;simp only[PySem.W.KF.owner_class]
 repeat lk
 refine⟨Lq _ (by decide +kernel),Gg PySem.W.KF.entry_class ?_⟩
 (unfold Gn.«object.__class__»;unfold shownTypeOf)
 repeat lk
 exact h
theorem tE (ex:Ex K C) (X:K.In s.heap) (ty:∀ M:Model,Fz M s.heap (typeOf (.ref e)) (.ref C)) (h:Q (some (.ref C)) { s with toks:=s.toks + 1 }) :
  Dy (DK prog w) A (getAttr? (.ref e) "__class__") Q E s:=by
 obtain⟨hh,g,d,t,os⟩:=s;have L0:=ty (DK prog w);have La:=G7 (M:=DK prog w) X ex.ga;have Lb:=G7 (M:=DK prog w) X ex.gn;have Lc:=tu (self:=.ref e) (G7 (M:=DK prog w) X ex.gc) (PySem.W.looks_specialIn X ex.get) (PySem.W.looks_takesIn X ex.tks);have Lo:=Lk (M:=DK prog w) X ex.bex;have Li:Fz (DK prog w) hh (JI (.ref e) (.type "BaseException")) true:=L0.andThen Lo;unfold getAttr? getAttrBy? getAttrBy;refine De (wpAny_mkText (De (F0 (Em (De (L0.at (De (La.at ?_))))))));have n1:(Value.builtin "BaseException.__getattribute__"==Value.builtin "object.__getattribute__")=false:=by decide +kernel
 dsimp only;rw[n1,Jh,DS DM];unfold getAttrByItsOwn;refine De ((show Fz (DK prog w) hh (hookBefore (.ref C)) none from Lb).at ?_);refine De (F0 (Em ?_));unfold callGetattribute;rw[Fx,DS DM];unfold boundAndCalled;refine De (Ka (JS.ga.bind _) ?_);have bk:builtinKind "BaseException.__getattribute__"=some .slot:=by decide +kernel
 have sid:splitId "BaseException.__getattribute__"=some ("BaseException","__getattribute__"):=by decide +kernel
 refine IC ?_;refine Ir JS.ga.plain PySem.F.entry_bexc_ga ?_;have ha:argsOk "BaseException.__getattribute__" ⟨[.ref e,.str "__class__" t],[]⟩:=PySem.F.args_bexc_ga _ _;show Dy _ _ (checkBuiltinCall "BaseException.__getattribute__" ⟨[.ref e,.str "__class__" t],[]⟩) _ _ _;refine @PySem.W.check_slot (DK prog w) A.in1 _ ⟨hh,g,d,t+1,os⟩ "BaseException.__getattribute__" "BaseException" "__getattribute__" (.ref e) [.str "__class__" t] [] _ bk sid Li ha ?_;unfold Gn.«object.__getattribute__»;refine De (Dg ?_);refine De (Dg ?_);refine De (L0.at (De (Lc.at ?_)));show Dy _ _ (Ji _ _ _ _) _ _ _;unfold Ji;refine De (Em (IC (xJ ex X L0 ?_)));refine Dg ?_;exact PySem.W.handed_on rfl (Dg h)
theorem t9 (ex:Ex K C):PySem.W.KitX K (.ref e) (.ref C) (λh=>∃ oe,h.get? e=some oe/\oe.cls=.ref C) where
 ty:=λ_ _ _ ⟨o,h1,h2⟩=>h2▸(Kf h1).andThen .now
 it:=λ_ _ X _=>by
  have z:PySem.W.kitCls K (.ref C) (.ref C)=some true:=by
   show(if((Gp K C).isSome&&FJ K (.ref C)==some (.type "type"))=true then EY K (.ref C) (.ref C) else none)=_;rw[Ee (by rw[ex.typ,show(Gp K C).isSome=true from ex.cls];rfl)];exact ex.slf
  exact(PySem.W.kit_cls X z).2.1
 ne:=λh tp dd its n sl X htp=>by
  refine Ju.mpr λq=>?_
  have q:=MJ (EV.mp q);subst q;obtain⟨o,ho,hc⟩:=DA.mp ex.typ;have z:=(X _ _ ho).symm.trans htp;cases z;exact absurd (Value.type.inj hc) (by decide)
 ca:=λX ⟨o,h1,h2⟩ k=>tE ex X (λM=>h2▸(Kf h1).andThen .now) k
end
theorem lM:Ey "ValueError"=some (.type "ValueError"):=by decide +kernel
section
variable {X:Cx}{K:Dd}
def CT (D:V)(d:Di):Prop:=(∃ a,D=.ref a/\d=.ref a)\/∃ T,D=.ty T/\d=.type T
def BZ (K:Dd):List V->Hp->VK->Prop:=λxs H Q=>∃ (e C:Du) (D:V) (d:Di) (b:Bool),xs=[.ref e,D]/\H e=some (pO e C)/\Ex K C/\CT D d/\E5 K (.ref C) d=some b/\Q (.bl b) H
theorem eD (hK:X.K=K):br X (.builtin "isinstance") (BZ K):=by
 subst hK;intro pins s σ H xs us Q I r h;obtain⟨e,C,D,d,b,rfl,hH,ex,hD,hb,q⟩:=h;obtain⟨u,v,rfl,ru,rv⟩:=iB r;cases(show u=DQ e from ru);have ev:v=d:=by
  rcases hD with ⟨a,rfl,rfl⟩|⟨T,rfl,rfl⟩
  ·exact rv
  ·exact rv
 subst ev;obtain⟨⟨oe,vs,h1,h2,_⟩,_⟩:=(show be X.prog X.w H s.heap e (pO e C) from I.hok e _ hH)
 exact KD (t9 ex) I.kIn ⟨oe,h1,h2⟩ hb (λz=>nomatch z) λtk=>⟨.bl b,H,I.tok tk,rfl,q⟩
def BI (K:Dd)(x:Str):TE:=λ_ H Q=>∀ D,bf K x D->Q (.ref D) H
theorem bJ (hK:X.K=K)(hg:Gl X x)(hx:∃ D,bf K x D)(hd:(x==("__debug__":Str))=false:=by decide):WE X (.Name x pos) (BI K x):=by
 refine⟨?_⟩;subst hK;intro pins s σ H Q I h;obtain⟨D,hD⟩:=hx;exact dJ I hg (FZ I.ok.mod.kin I.ok.mod.glob hD) ⟨.ref D,H,I,rfl,h D hD⟩ hd
theorem lU:∀ {xs:List V}{us:List Di},aJ xs us->xs.all fg=true->us.countP (Ab y)=xs.countP (λz=>eqV z y)
 |_,_,.nil,_=>rfl
 |z::xs,u::us,.cons r t,f=>by
  rw[GS,Dw] at f;rw[List.countP_cons,List.countP_cons,qH r f.1,lU t f.2]
def yw:V->List V->Hp->VK->Prop:=λx vs H Q=>∃ l xs y,x=.ref l/\vs=[y]/\H l=some (.lst xs)/\fg y=true/\xs.all fg=true/\Q (.int (xs.countP (λz=>eqV z y))) H
theorem tR:BW X "list.count" yw:=by
 intro pins s σ H x vs v us Q I rx rv h;obtain⟨l,xs,y,rfl,rfl,hH,fy,fx,q⟩:=h;cases(show v=DQ l from rx);obtain⟨u,rfl,ru⟩:=rv.one;obtain⟨z,its,n,r,hl,e⟩:=I.lstM hH;refine Hv JV ⟨_,e,rfl⟩ PySem.F.entry_list_count (PySem.F.args_list_count_2 _ _) (PySem.SeqAt.list_countAt l its.toArray n none #[] u (Ab y)) ⟨e,λa ha=>kQ ru fy r fx a (by simpa using ha),?_⟩;rw[show its.toArray.toList=its from rfl,lU r fx];exact⟨.int _,H,I.tok _,⟨_,rfl⟩,q⟩
def zI:V->List V->Hp->VK->Prop:=λx vs H Q=>∃ l xs y,∃ j:Nat,x=.ref l/\vs=[y]/\H l=some (.lst xs)/\fg y=true/\xs.all fg=true/\xs.length<=1000/\(∃ a,xs[j]?=some a/\eqV a y=true)/\(∀ m a,m<j->xs[m]?=some a->eqV a y=false)/\Q (.int j) H
theorem vD:BW X "list.index" zI:=by
 intro pins s σ H x vs v us Q I rx rv h;obtain⟨l,xs,y,j,rfl,rfl,hH,fy,fx,hlen,⟨a,ha,hit⟩,hno,q⟩:=h;cases(show v=DQ l from rx);obtain⟨u,rfl,ru⟩:=rv.one;obtain⟨z,its,n,r,hl,e⟩:=I.lstM hH;have at':∀ (m:Nat) (hm:m<its.toArray.size),∃ c,xs[m]?=some c/\Ab y its.toArray[m]=eqV c y:=λm hm=>by
  have hm2:m<its.length:=by simpa using hm
  have hx:m<xs.length:=by rw[r.length];exact hm2
  obtain⟨w,h1,h2⟩:=r.get (i:=m) (x:=xs[m]) (DB hx);refine⟨xs[m],DB hx,?_⟩;have hw:its[m]=w:=by
   rw[DB hm2] at h1;exact Dm h1
  have hf:fg xs[m]=true:=DU.mp fx _ (FU hx);rw[List.getElem_toArray,hw];exact qH h2 hf
 have hj:j<its.toArray.size:=by
  have:=(DH.mp ha).1;rw[r.length] at this
  simpa using this
 refine Hv JW ⟨_,e,rfl⟩ PySem.F.entry_list_index (PySem.F.args_list_index_2 _ _) (PySem.SeqAt.list_indexAt l its.toArray n none #[] u (Ab y) j hj (by have:=(DH.mp ha).1;omega) ?_ ?_) ⟨e,λa ha=>kQ ru fy r fx a (by simpa using ha),?_⟩
 ·obtain⟨c,c1,c2⟩:=at' j hj;rw[ha] at c1;cases c1;rw[c2];exact hit
 ·intro m hm hlt;obtain⟨c,c1,c2⟩:=at' m hm;rw[c2];exact hno m c hlt c1
 ·exact⟨.int _,H,I.tok _,⟨_,rfl⟩,q⟩
end
def Rz (K:Dd)(i:Nat)(H:Hp)(E:XK):Prop:=∀ C H',dR K i C->ae H H'->E (.ref C) none H'
section
variable {K:Dd}{i:Nat}{H H1:Hp}{E:XK}{σ:L2.St}
theorem Rz.out (h:Rz K i H E)(s:ae H H1):Rz K i H1 (o7 (λ_ C H'=>E (.ref C) none H') σ):=λC H' k s'=>⟨C,rfl,h C H' k (s.trans s')⟩
theorem Rz.now (h:Rz K i H E)(s:ae H H1)(hx:cN[i]?=some x):∀ C,bf K x C->E (.ref C) none H1:=λC hC=>h C H1 ⟨x,hx,hC⟩ s
theorem Rz.caught {j:Nat}(R:sg K=true)(h:∀ C H' e,dR K i C->ae H H'->H' e=none->th (nP j D) (σ.set j (some (.ref e))) (upd H' e (pO e C))):Rz K i H (o7 (yq K "TintError" j th D) σ):=
 λC H' k s=>⟨C,rfl,wW R k,λe he=>h C H' e k s he⟩
end
def Bb (K:Dd)(H:Hp)(i:Nat)(v:V):Prop:=∃ e C,v=.ref e/\dR K i C/\H e=some (pO e C)
theorem f8 (h:p∉T):cut T (upd H p o) p=some o:=by
 unfold cut;rw[DS h];exact ac
theorem aQ.tupC {K:Dd}{T:List Du}{H:Hp}{p:Du}{xs:List V}{ds:List DZ}(h:p∉T)(q:aw K (cut T (upd H p (.tup xs))) ds xs):aQ K (cut T (upd H p (.tup xs))) (.tuple ds) (.ref p):=.tup (f8 h) q
theorem aQ.lstC {K:Dd}{T:List Du}{H:Hp}{p:Du}{xs:List V}{ds:List DZ}(h:p∉T)(q:aw K (cut T (upd H p (.lst xs))) ds xs):aQ K (cut T (upd H p (.lst xs))) (.list ds) (.ref p):=.lst (.inl (f8 h)) q
def mY (l m:Int):DZ->Bool
 |.int i=>decide (l<=i)&&decide (i<=m)
 |_=>false
def mJ:DZ->Int
 |.int i=>i
 |_=>0
theorem nB {l m:Int}(h:mY l m d=true):d=.int (mJ d)/\l<=mJ d/\mJ d<=m:=by
 cases d with
 |int i=>
  have h:(decide (l<=i)&&decide (i<=m))=true:=h;simp only[Dw,EN] at h;exact⟨rfl,h.1,h.2⟩
 |_=>cases h
theorem BD (h:ds.length=3):∃ a b c,ds=[a,b,c]:=by
 match ds,h with
 |[a,b,c],_=>exact⟨a,b,c,rfl⟩
def zX:TE:=λ_ H Q=>∀ p,H p=none->Q (.ref p) (upd H p (.dK []))
theorem rX:WE X (.Dict [] [] pos) zX:=by
 refine⟨?_⟩;intro pins s σ H Q I h;have big:Fv<s.heap.objs.size:=Md (by decide) ((I.mod.glob.keeps I.bk).lt);refine wpAny_Dict_empty ⟨.ref s.heap.objs.size,_,I.laid (a:=s.heap.objs.size) (o:=.dK []) (t':=s.toks) (λ_ _ q=>Df _ q) (Dn _) ?_,rfl,h _ (I.hok.fresh (Dn _))⟩;exact⟨ES _,ET.mpr (λz=>absurd big (by rw[z];exact Eh _)),[],.nil,Heap.DictOf.new s.heap⟩
theorem aw.at {K:Dd}{H:Hp}{i:Nat}{d:DZ}{x:V}{ds:List DZ}{xs:List V}(h:aw K H ds xs)(e1:ds[i]?=some d)(e2:xs[i]?=some x):aQ K H d x:=by
 obtain⟨d',h1,h2⟩:=h.get e2;rw[e1] at h1;cases h1;exact h2
theorem eA (tw:bv H t r)(hp:H p=none):p∉[t,r]:=λz=>by
 obtain⟨_,_,k1,k2,_⟩:=tw;rcases Dx.mp z with z|z
 ·rw[z,k1] at hp;cases hp
 ·rw[DC.mp z,k2] at hp;cases hp
section
variable {K:Dd}{t r p:Du}{H0 H:Hp}{xs ys:List V}{ds es:List DZ}
theorem oA (tw:bv H t r) (mm:Mv [t,r] H0 H) (L:aw K (cut [t,r] H) es ys) (h:aw K (cut [t,r] H) ds xs) (hp:H p=none) :
  bv (upd H p (.lst xs)) t r/\Mv [t,r] H0 (upd H p (.lst xs))/\aw K (cut [t,r] (upd H p (.lst xs))) (.list ds::es) (.ref p::ys)/\cut [t,r] (upd H p (.lst xs)) p=some (.lst xs)/\ae (cut [t,r] H) (cut [t,r] (upd H p (.lst xs))):=
 have s:ae H (upd H p (.lst xs)):=ae.new hp
 ⟨tw.same s,mm.trans (Mv.of s),.cons (aQ.lstC (eA tw hp) (aw.same (ae.cut s) h)) (aw.same (ae.cut s) L),f8 (eA tw hp),ae.cut s⟩
theorem vo (tw:bv H t r) (mm:Mv [t,r] H0 H) (L:aw K (cut [t,r] H) es ys) (h:aw K (cut [t,r] H) ds xs) (hp:H p=none) :
  bv (upd H p (.tup xs)) t r/\Mv [t,r] H0 (upd H p (.tup xs))/\aw K (cut [t,r] (upd H p (.tup xs))) (.tuple ds::es) (.ref p::ys)/\cut [t,r] (upd H p (.tup xs)) p=some (.tup xs)/\ae (cut [t,r] H) (cut [t,r] (upd H p (.tup xs))):=
 have s:ae H (upd H p (.tup xs)):=ae.new hp
 ⟨tw.same s,mm.trans (Mv.of s),.cons (aQ.tupC (eA tw hp) (aw.same (ae.cut s) h)) (aw.same (ae.cut s) L),f8 (eA tw hp),ae.cut s⟩
theorem tm (tw:bv H t r) (mm:Mv [t,r] H0 H) (L:aw K (cut [t,r] H) es ys) (hp:H p=none) :
  bv (upd H p (.dK [])) t r/\Mv [t,r] H0 (upd H p (.dK []))/\aw K (cut [t,r] (upd H p (.dK []))) (.dict []::es) (.ref p::ys)/\cut [t,r] (upd H p (.dK [])) p=some (.dK [])/\ae (cut [t,r] H) (cut [t,r] (upd H p (.dK []))):=
 have s:ae H (upd H p (.dK [])):=ae.new hp
 ⟨tw.same s,mm.trans (Mv.of s),.cons (.dct (f8 (eA tw hp))) (aw.same (ae.cut s) L),f8 (eA tw hp),ae.cut s⟩
theorem qC (h:cut T H p=some o):H p=some o/\p∉T:=by
 unfold cut at h
 split at h
 ·cases h
 ·rename_i n
  exact⟨h,n⟩
theorem yY {k:Int}{n:Nat}(hk:k=n)(hn:n<=1000)(h:H p=some (.lst [v]))(q:∀ l,H l=none->Q (.ref l) (upd H l (.lst (Dz n v)))):yr (.ref p) (.int k) H Q:=by
 subst hk;refine⟨p,_,_,rfl,rfl,h,by omega,by omega,?_,λl hl=>?_⟩
 ·show 1*((n:Int)).toNat<=Ds;have:(1000:Nat)<=Ds:=by decide
  omega
 ·have e:(Dz ((n:Int)).toNat [v]).flatten=Dz n v:=by
   rw[ED];clear hn q
   induction n with
   |zero=>rfl
   |succ n ih=>rw[Ft,GU,ih];rfl
  rw[e];exact q l hl
theorem xR {k:Int}{n:Nat}(hk:k=n)(hn:n<=1000)(h:H p=some (.lst [v]))(q:∀ l,H l=none->Q (.ref l) (upd H l (.lst (Dz n v)))):tC (.int k) σ H λy H2=>yr (.ref p) y H2 Q:=yY hk hn h q
end
def dF (K:Dd)(x:Str)(fs:List Str):Bool:=(fe K x).any λC=>Hi K C Str.empty&&HZ K C&&JE K C&&Eb K (.ref C) "__setattr__"==some (some (.builtin "object.__setattr__")) &&
 IQ K C&&EL K (.ref C)&&fs.all λf=>Eb K (.ref C) f==some none
structure BM (K:Dd)(x:Str)(fs:List Str)(C:Du):Prop where
 at_:bf K x C
 cls:yU K C
 makes:IQ K C=true
 kp:EL K (.ref C)=true
 no:∀ f∈fs,kJ K C f
theorem gT {K:Dd}{x:Str}{fs:List Str}(h:dF K x fs=true):∃ C,BM K x fs C:=by
 unfold dF at h;obtain⟨C,e,q⟩:=bC h;simp only[Dw,EV,DU] at q;obtain⟨⟨⟨⟨⟨⟨a,b⟩,c⟩,d⟩,m⟩,k⟩,n⟩:=q;exact⟨C,ky e,⟨a,b,c,d⟩,m,k,λf hf=>EV.mp (by simpa using n f hf)⟩
theorem bu {K:Dd}{x:Str}{C D:Du}(h:bf K x C)(g:bf K x D):C=D:=Dm ((bN h).symm.trans (bN g))
section
variable {X:Cx}{K:Dd}{o e value:Fs}{f x:Str}{fs0:List Str}{pos pos':Pos}{ta tv:TE}
inductive CS (K:Dd)(x f:Str)(v:V)(H:Hp)(Q:VK):Prop
 |mk (a C dx:Du) (fs:List (Str×V)) (w:V) (_:v=.ref a) (_:bf K x C) (_:H a=some (.ins C dx fs)) (_:fs.lookup f=some w) (_:Q w H)
def A3 (K:Dd)(x:Str)(ta:TE)(f:Str):TE:=λσ H Q=>ta σ H λv H1=>CS K x f v H1 Q
theorem bZ (hK:X.K=K)(hc:dF K x fs0=true)(hf:f∈fs0)(he:WE X e ta)(hb:Iz e f X.env (GI e X.env)=GI e X.env:=by rfl):WE X (.Attribute e f pos) (A3 K x ta f):=by
 have he:=he.go;refine⟨?_⟩;subst hK;obtain⟨D,cf⟩:=gT hc;intro pins s σ H Q I h;refine wQ hb (bo (he pins s σ H _ I h) λu s1 ⟨v,H1,I1,rv,a,C,dx,fs,w,ev,ec,ea,l,q⟩=>?_);subst ev;cases bu ec cf.at_;obtain rfl:u=DQ a:=rv;exact qe I1 ea cf.cls (cf.no f hf) l λu' s2 I2 ru=>⟨w,H1,I2,ru,q⟩
def Bh (K:Dd)(x:Str)(ta tv:TE)(f:Str):TS:=λD σ H=>tv σ H λy H1=>ta σ H1 λv H2=>∃ a C dx fs,v=.ref a/\bf K x C/\H2 a=some (.ins C dx fs)/\fs.length<1000 /\
 D.nx σ (upd H2 a (.ins C dx (cQ f y fs)))
theorem fv (hK:X.K=K) (hc:dF K x fs0=true) (hf:f ∈ fs0) (ha:WE X o ta) (hv:WE X value tv) (hs:JJ value (some (.Attribute o f pos')) pos.line X.env=pure false:=by rfl) :
  WS X (.Assign [.Attribute o f pos'] value pos) (Bh K x ta tv f):=by
 have ha:=ha.go;have hv:=hv.go;refine⟨?_⟩;subst hK;obtain⟨E,cf⟩:=gT hc;intro pins s σ H D I h;refine plainObj_wpAny_Assign_Attribute (bo (hv pins s σ H _ I h) λu s1 ⟨y,H1,I1,ry,q⟩=>bo (ha pins s1 σ H1 _ I1 q) λov s2 ⟨v,H2,I2,rv,a,C,dx,fs,ev,ec,ea,l,q2⟩=>?_) hs;subst ev;cases bu ec cf.at_;obtain rfl:ov=DQ a:=rv;exact qF I2 ea cf.cls (cf.no f hf) l ry λs3 I3=>⟨σ,_,I3,q2⟩
end
abbrev ya (X:Cx)(o:Fs)(m:Str)(args:List Fs)(pl:Sem Bool)(apos pos:Pos):Prop:=
 GI (.Call (.Attribute o m apos) args [] pos) X.env=(do let ov <- GI o X.env;L4 apos.atName;let (f,first) <- holding [ov] (getMethod ov m pl);callWith pos f first (HJ pos (DO args X.env)) (backToKw pos (keywordEach [] X.env)))
structure ll (P:DN)(w:Ez)(K:Dd)(mg:Str->Option Di)(base:Fp)(CX:iG)(k:Nat)(x m:Str)(ps:List Str)(dvs:List V)(sp:Sp):Prop where
 ex:∃ (C f:Du) (fd:F8) (ds:List Di) (fs:List Str),iX P w K mg base CX k f fd ps sp/\BM K x fs C/\zW K C m f/\mg x=some (.ref C)/\gJ K fd ps ds/\aJ dvs ds
def xZ (K:Dd)(x m:Str)(sp:Sp)(dvs:List V)(E:XK)(ta:TE)(t:TA):TE:=λσ H Q=>ta σ H λv H1=>∃ a C dx fs,v=.ref a/\bf K x C/\H1 a=some (.ins C dx fs)/\fs.lookup m=none /\
 t σ H1 λvs H2=>sp (v::(vs++dvs)) H2 Q E
def AV (K:Dd)(x:Str)(sp:Sp)(dvs:List V)(E:XK)(t:TA):TE:=λσ H Q=>t σ H λvs H1=>∀ C a dx,bf K x C->H1 a=none->H1 dx=none->dx≠a ->
 sp (.ref a::(vs++dvs)) (upd (upd H1 dx (.own a)) a (.ins C dx [])) (λv H2=>v=.non/\Q (.ref a) H2) E
section
variable {X:Cx}{CX:iG}{K:Dd}{k:Nat}{x m:Str}{ps:List Str}{sp:Sp}{dvs:List V}{p pos apos:Pos}{o e:Fs}{es:List Fs}{ta:TE}{t:TA}{W:WX}
theorem wT {pl:Sem Bool} (hK:X.K=K) (hX:yM CX) (C:ll X.prog X.w X.K X.mg X.base CX k x m ps dvs sp) (hr:Room k X.A) (he:WE X o ta) (ha:WA X (e :: es) t)
  (hst:DO (e::es) X.env=(false,GI e X.env)::DO es X.env:=by rfl)(hpl:(HJ pos (DO es X.env)).any (·.1)=false:=by rfl)
  (ht:ya X o m (e::es) pl apos pos:=by rfl):WE X (.Call (.Attribute o m apos) (e::es) [] pos) (xZ K x m sp dvs E0 ta t):=by
 have he:=he.go;have ha:=ha.go;refine⟨?_⟩;subst hK;obtain⟨D,f,fd,ds,fs0,F,cf,hm,_,hb,hd⟩:=C.ex;intro pins s σ H Q I h;refine KE (pl:=pl) (bo (he pins s σ H _ I h) λu s1 ⟨v,H1,I1,rv,a,E,dx,fs,ev,ec,ea,l,q⟩=>?_) ht;subst ev;cases bu ec cf.at_;obtain rfl:u=DQ a:=rv;refine kN I1 ea cf.cls hm l ?_;refine GF (first:=[.ref a]) (h₀:=X.base) I.ok.mod.kin hm.kp (bo (ha pos pins s1 σ H1 _ I1 q) λus s2 ⟨vs,H2,I2,r,q2⟩=>⟨I2.kIn,?_⟩) hst hpl;exact qQ (us:=.ref a::us) (vs:=.ref a::vs) F hr hb hd (rB hX) I2 (.cons rfl r) q2
theorem oI {pl:Sem Bool} (hK:X.K=K) (hX:yM CX) (C:ll X.prog X.w X.K X.mg X.base CX k x m ps dvs sp) (hr:Room k X.A) (he:WE X o ta)
  (ht:ya X o m [] pl apos pos:=by rfl):WE X (.Call (.Attribute o m apos) [] [] pos) (xZ K x m sp dvs E0 ta u7):=by
 have he:=he.go;refine⟨?_⟩;subst hK;obtain⟨D,f,fd,ds,fs0,F,cf,hm,_,hb,hd⟩:=C.ex;intro pins s σ H Q I h;refine KE (pl:=pl) (bo (he pins s σ H _ I h) λu s1 ⟨v,H1,I1,rv,a,E,dx,fs,ev,ec,ea,l,q⟩=>?_) ht;subst ev;cases bu ec cf.at_;obtain rfl:u=DQ a:=rv;refine kN I1 ea cf.cls hm l ?_;exact PySem.W.callWith_K0 (first:=[.ref a]) I1.kIn hm.kp (qQ (us:=[.ref a]) (vs:=[.ref a]) F hr hb hd (rB hX) I1 (.cons rfl .nil) q)
theorem eR (hK:X.K=K) (hX:yM CX) (C:ll X.prog X.w X.K X.mg X.base CX k x "__init__" ps dvs sp) (hr:Room (k + 1) X.A) (hg:Gl X x) (ha:WA X (e :: es) t) (hdb:(x == ("__debug__":Str))=false:=by decide)
  (he:DO (e::es) X.env=(false,GI e X.env)::DO es X.env:=by rfl)(hpl:(HJ pos (DO es X.env)).any (·.1)=false:=by rfl):WE X (.Call (.Name x p) (e::es) [] pos) (AV K x sp dvs E0 t):=by
 have ha:=ha.go;refine⟨?_⟩;subst hK;obtain⟨D,f,fd,ds,fs0,F,cf,hm,hmg,hb,hd⟩:=C.ex;intro pins s σ H Q I h;refine FF (dJ I hg hmg ?_ hdb);refine GF (h₀:=X.base) I.ok.mod.kin cf.kp (bo (ha pos pins s σ H _ I h) λus s1 ⟨vs,H1,I1,r,q⟩=>⟨I1.kIn,?_⟩) he hpl;exact vO ⟨cf.makes,hm.at_,hm.fn,cf.kp⟩ F hr hb hd (rB hX) I1 r λa dx h1 h2 h3=>q D a dx cf.at_ h1 h2 h3
end
structure gP (K:Dd)(mg:Str->Option Di)(x m qual:Str)(st:Gv)(ps:List Str)(dvs:List V):Prop where
 ex:∃ (C f:Du) (fd:F8) (oc:Di) (od:Option Du) (dV kV doc pm:Di) (an:Option Du) (cdv ct:Di) (osl:Array (Option Di)) (ds:List Di) (fs:List Str),
  fd=DY m qual (aW st) (aR st) (ai st) dV kV doc pm an cdv ct/\K.lookup f=some ⟨oc,od,.func fd,osl⟩/\E_ K cdv qual=true /\
  BM K x fs C/\zW K C m f/\mg x=some (.ref C)/\gJ K fd ps ds/\aJ dvs ds
section
variable {P:DN}{w:Ez}{K:Dd}{mg:Str->Option Di}{base:Fp}{CX:iG}{x m qual:Str}{st:Gv}{N ps:List Str}{dvs:List V}{k:Nat}{sp:Sp}
theorem gP.cal (F:gP K mg x m qual st ps dvs) (S:az N ps (ai st)) (len:∀ vs H Q E,sp vs H Q E->vs.length=ps.length:=by intro _ _ _ _ h;cases h;subst_vars;rfl)
  (bb:∀ (f:Du) (cdv:Di) (A:EK) (outer:List Env) (s:Dk) (H:Hp) (vs:List V) (Q:VK) (E:XK),Room k (A.deeper (envOfC qual (ai st) s.heap.objs.size f cdv))->sp vs H Q E ->
   ∃ t,vm (kF CX P w K mg base N qual (ai st) f cdv A outer s H E).nox (aR st) t/\t { nx:=λ_ H'=>Q .non H',rt:=Q } (fO N vs) H):ll P w K mg base CX (k+1) x m ps dvs sp:=by
 obtain⟨C,f,fd,oc,od,dV,kV,doc,pm,an,cdv,ct,osl,ds,fs,rfl,lk,hcd,cf,hm,hmg,hb,hv⟩:=F.ex;refine⟨C,f,_,ds,fs,rn lk hcd S len λA outer s H vs Q E hr hsp=>?_,cf,hm,hmg,hb,hv⟩;obtain⟨t,h,q⟩:=bb f cdv A outer s H vs Q E hr hsp;exact⟨t,h.nox,q⟩
theorem xM {fs:List Str}{C f:Du}{oc:Di}{od an:Option Du}{osl:Array (Option Di)}{kV doc pm cdv ct:Di} (l:K.lookup f=some ⟨oc,od,.func (DY m qual (aW st) (aR st) (ai st) .none kV doc pm an cdv ct),osl⟩)
  (c:E_ K cdv qual=true)(kp:EL K (.ref f)=true)(fn:Ij K (.ref f)=true)(a:DG K Dr x=some (some (.ref C)))(b:Eb K (.ref C) m=some (some (.ref f)))(hc:dF K x fs=true)(g:mg x=some (.ref C))
  (h:∀ us:List Di,us.length=ps.length->Fh (DY m qual (aW st) (aR st) (ai st) .none kV doc pm an cdv ct) ⟨us,[]⟩=pure (ps.zip us)):gP K mg x m qual st ps []:=by
 obtain⟨D,cf⟩:=gT hc;cases bu cf.at_ a;exact⟨_,f,_,oc,od,.none,kV,doc,pm,an,cdv,ct,osl,[],fs,rfl,l,c,cf,⟨b,fn,kp⟩,g,.all h,.nil⟩
end
abbrev Pt:=Int×Int
def j6 (p:Pt):DZ:=.tuple [.int p.1,.int p.2]
def yP (ps:List Pt):DZ:=.list (ps.map j6)
structure Pt.In (p:Pt):Prop where
 a1:0<=p.1
 a2:p.1<=1000
 b1:0<=p.2
 b2:p.2<=1000
structure vS (ps:List Pt):Prop where
 two:2<=ps.length
 few:ps.length<=12
 zero:∀ p,ps[0]?=some p->p.1=0
 inn:∀ p∈ps,p.In
 up:∀ (i:Nat) (p q:Pt),ps[i]?=some p->ps[i+1]?=some q->p.1<q.1/\p.2<=q.2
section
variable {K:Dd}{g:TG}{tt:TT}{te:TE}{σ0:L2.St}{Fin:List V->Hp->Prop}{H1:Hp}
theorem lR (h1:cq K H1 a1 xs b1) (h2:cq K H1 a2 ys b2) (hds:aw K H1 ds xs) (hes:aw K H1 es ys) (hle:es.length <= ds.length) (hlf:fs.length=es.length) (hl:ds.length <= 1000)
  (he:∀ (i:Nat) (d e f:DZ) (x y:V) (T:Du) (H:Hp),ds[i]?=some d->es[i]?=some e->fs[i]?=some f->ae H1 H->aQ K H d x->aQ K H e y->H T=some (.tup [x,y])->jm g tt te σ0 (.ref T) H λz H'=>ae H H'/\aQ K H' f z)
  (hd:∀ zs H,ae H1 H->aw K H fs zs->Fin zs H):fb (Bs K b1 b2 a1 a2) g tt te σ0 Fin H1:=by
 have hlen:=hds.length;have hlen2:=hes.length;refine⟨λi m zs H=>m=ys.length-i/\i<=ys.length/\ae H1 H/\aw K H (fs.take i) zs,⟨ys.length,by omega,ES _,ae.refl _,.nil⟩,?_⟩;rintro i m zs H ⟨rfl,hi,s,hzs⟩;have hyl:=hzs.length;rw[Ei] at hyl
 by_cases hlt2:i<ys.length
 ·have hlt:i<xs.length:=by omega
  refine .inr ⟨⟨xs,ys,xs[i],ys[i],cq.same s h1,cq.same s h2,by simp[hlt],by simp[hlt2]⟩,bP (by omega),λv H3 y3=>?_⟩;obtain⟨x,y,T,k1,k2,kT,rfl,rfl⟩:=y3;have hx:=k1 xs (cq.same s h1);have hy:=k2 ys (cq.same s h2);obtain⟨d,hdd,hdx⟩:=hds.get hx;obtain⟨e,hee,hey⟩:=hes.get hy;have hff:fs[i]?=some fs[i]:=by simp[show i<fs.length by omega]
  have sT:ae H (upd H T (.tup [x,y])):=ae.new kT;have sA:=s.trans sT;refine he i d e fs[i] x y T _ hdd hee hff sA (aQ.same sA hdx) (aQ.same sA hey) ac _ (λz H' ⟨s',hz⟩=>⟨ys.length-(i+1),by omega,rfl,hlt2,sA.trans s',?_⟩) λH5=>∃ m',m'<ys.length-i/\(m'=ys.length-(i+1)/\i+1<=ys.length/\ae H1 H5/\aw K H5 (fs.take (i+1)) zs)
  rw[c7 hff];exact(aw.same s' (aw.same sT hzs)).snoc hz
 ·have e:i=ys.length:=by omega
  subst e;rw[EM (by omega)] at hzs;exact .inl ⟨⟨xs,ys,cq.same s h1,cq.same s h2,.inr (Dn _)⟩,cO (by omega),hd zs H s hzs⟩
end
theorem oh (xs:List V)(h:1<=xs.length):oz xs (some 1) none=xs.drop 1:=by
 unfold oz;have e1:HT.sIx xs.length 0 (some 1)=1:=by
  simp[HT.sIx]
  try omega
 have e2:HT.sIx xs.length xs.length none=xs.length:=by simp[HT.sIx]
 rw[e1,e2];exact EM (by rw[Ik];exact Dn _)
theorem aw.drop {K:Dd}{H:Hp}:∀ (n:Nat) {ds:List DZ}{xs:List V},aw K H ds xs->aw K H (ds.drop n) (xs.drop n)
 |0,_,_,h=>h
 |_+1,_,_,.nil=>.nil
 |n+1,_,_,.cons _ t=>aw.drop n t
theorem jX {K:Dd}{H:Hp}{ps:List Pt}{xs:List V}{k:Nat}{p:Pt}(h:aw K H (ps.map j6) xs)(e:ps[k]?=some p):∃ v,xs[k]?=some v/\aQ K H (j6 p) v:=by
 have hl:=h.length;rw[Dh] at hl;have hk:k<xs.length:=by have:=(DH.mp e).1;omega
 have e1:xs[k]?=some xs[k]:=DB hk;refine⟨_,e1,h.at ?_ e1⟩;rw[Dp,e];rfl
def bX (K:Dd)(H:Hp)(ps:List Pt)(v:V):Prop:=∃ (a C dx l:Du),v=.ref a/\bf K "Curve" C/\H a=some (.ins C dx [("points",.ref l)])/\aQ K H (yP ps) (.ref l)
theorem bX.same {K:Dd}{H H':Hp}{ps:List Pt}{v:V}(s:ae H H')(h:bX K H ps v):bX K H' ps v:=by
 obtain⟨a,C,dx,l,e,c,h1,h2⟩:=h;exact⟨a,C,dx,l,e,c,s _ _ h1,aQ.same s h2⟩
theorem km (h:xs.getLast?=some v):vG xs (-1)=some v:=by
 rw[E8] at h;have hl:0<xs.length:=by
  cases xs with
  |nil=>simp at h
  |cons _ _=>simp
 unfold vG;have e:tI xs.length (-1)=some (xs.length-1):=by
  unfold tI;simp;omega
 rw[e];exact h
theorem pV {K:Dd}{H:Hp}{ps:List Pt}{xs:List V}{z:Pt}(h:aw K H (ps.map j6) xs)(e:ps.getLast?=some z):∃ v,xs.getLast?=some v/\aQ K H (j6 z) v:=by
 rw[E8] at e;obtain⟨v,h1,h2⟩:=jX h e;refine⟨v,?_,h2⟩;rw[E8,<- h.length,Dh];exact h1
def iz:List String:=["NoneType","bool","int","str","list","tuple","dict"]
def vU (K:Dd)(x:Str):Bool:=(fe K x).any λC=>Eb K (.ref C) "__class__"==some (some (.builtin "object.__class__"))&&H_ K (.builtin "object.__class__") "__get__"==some (some (.builtin "getset_descriptor.__get__")) &&
 IS K (.builtin "object.__class__")==some true&&HI K C (.type "object")==some true&&iz.all λT=>E5 K (.type T) (.ref C)==some false
def Ct (K:Dd)(x:Str):List V->Hp->VK->Prop:=λxs H Q=>∃ v C,xs=[v,.ref C]/\bf K x C/\((∃ a dx fs,v=.ref a/\H a=some (.ins C dx fs)/\Q (.bl true) H)\/∃ T,Ty K H v T/\T∈iz/\Q (.bl false) H)
theorem rz {X:Cx}{K:Dd}{x:Str}{fs0:List Str}(hK:X.K=K)(hc:dF K x fs0=true)(hi:vU K x=true):br X (.builtin "isinstance") (Ct K x):=by
 subst hK;intro pins s σ H xs us Q I r h;obtain⟨v,C,rfl,hC,h⟩:=h;obtain⟨u,w,rfl,rx,rw'⟩:=iB r;cases(show w=DQ C from rw');obtain⟨D,cf⟩:=gT hc;cases bu hC cf.at_;obtain⟨E,e,q⟩:=bC hi;rw[bN hC] at e;cases e;simp only[Dw,EV,DU] at q;obtain⟨⟨⟨⟨q1,q2⟩,q3⟩,q4⟩,q5⟩:=q;rcases h with ⟨a,dx,fs,rfl,ha,h⟩|⟨T,ty,ht,h⟩
 ·exact eE I rx (.ins ha cf.cls q1 q2 q3 q4) (by unfold E5;rw[Ee (Im _)]) λtk=>⟨.bl true,H,I.tok tk,rfl,h⟩
 ·exact eE I rx ty (q5 T ht) λtk=>⟨.bl false,H,I.tok tk,rfl,h⟩
theorem gj {K:Dd}{x:Str}{fs:List Str}(h:dF K x fs=true):∃ C,bf K x C:=by
 obtain⟨C,cf⟩:=gT h;exact⟨C,cf.at_⟩
theorem uY:z_ d∈iz:=by cases d<;>simp[z_,iz]
namespace ZF
theorem noFillT:fillsNumberSlot (.type "tuple") "mul"=pure false:=PySem.fillsNumberSlot_seq (id:="tuple.__mul__") (r:=some (.builtin "tuple.__rmul__")) HQ.lookup (by decide +kernel) JX.lookup (by decide +kernel)
theorem repT:seqRepeat? (.type "tuple")=pure (some (.builtin "tuple.__mul__")):=by
 unfold seqRepeat?;rw[Mm (T:="tuple") (name:="__mul__") (id:="tuple.__mul__") HQ.lookup (by decide +kernel)];rw[Mm (T:="tuple") (name:="__rmul__") (id:="tuple.__rmul__") JX.lookup (by decide +kernel)];rfl
theorem rmulT (a:Int) (t:Tok) (l:Du) (items:Array Di) (n:Nat) (dd:Option Du) (sl:Array (Option Di)) :
  Meets (Gn.«int.__rmul__» ⟨[.int a t,.ref l],[]⟩) (λ_ R s=>s.heap.get? l=some ⟨.type "tuple",dd,.seq items n,sl⟩/\R (.ok (.ret Value.notImplemented)) s):=.of_wp λprog w A R s h=>by
 obtain⟨hp,g,d,tk,os⟩:=s;obtain⟨hl,h⟩:=h
 wp_walk
 exact⟨_,rfl,h⟩
theorem mulT3 (t:Tok) (l:Du) (x:Di) (n:Nat) (dd:Option Du) (sl:Array (Option Di)) :
  Meets (Gn.«tuple.__mul__» ⟨[.ref l,.int 3 t],[]⟩) (λ_ R s=>s.heap.get? l=some ⟨.type "tuple",dd,.seq #[x] n,sl⟩/\R (.ok (.ret (.ref s.heap.objs.size))) { s with heap:=s.heap.push { cls:=.type "tuple",data:=.seq #[x,x,x] } }):=.of_wp λprog w A R s h=>by
 obtain⟨hp,g,d,tk,os⟩:=s;obtain⟨hl,h⟩:=h;have f1:=PySem.AutoSeq1.idx_int;have f2:=PySem.AutoSeq1.sub_tuple_tuple
 wp_walk using wpAny_loadPart' hl
 exact⟨_,rfl,h⟩
end ZF
section
variable {X:Cx}
def Ag:R2:=λx y H Q=>∃ a z,x=.ref a/\y=.int 3/\H a=some (.tup [z])/\∀ p,H p=none->Q (.ref p) (upd H p (.tup [z,z,z]))
theorem wN:gg X (Ie .Mult) Ag:=by
 intro pins s σ H x y v u Q I rx ry h;obtain⟨a,z,rfl,rfl,ha,q⟩:=h;cases rx;obtain⟨t,rfl⟩:=ry;obtain⟨its,r,p1,_⟩:=I.tuple (f7.of (K:=X.K) ha);obtain⟨v,rfl,rv⟩:=fk r;obtain⟨o,e,c,n,d⟩:=p1;obtain⟨oc,dd,od,sl⟩:=o;simp only at c d;subst c d;refine Js (T:="tuple") (U:="int") (by decide) ⟨_,e,rfl⟩ (λs'=>KR s' 3 t) ZF.noFillT Lr HD ZF.repT K_.lookup
  (Hv HD (KR s 3 t) K' (KW _ _) (ZF.rmulT 3 t a #[v] n dd sl)
   ⟨e,rfl,⟨_,e,rfl⟩,Hv HQ ⟨_,e,rfl⟩ PySem.F.entry_tuple_mul (PySem.F.args_tuple_mul_2 _ _) (ZF.mulT3 t a v n dd sl) ⟨e,?_⟩⟩)
 have hf:H s.heap.objs.size=none:=I.hok.fresh (Dn _);refine⟨.ref s.heap.objs.size,upd H s.heap.objs.size (.tup [z,z,z]),I.laid (t':=s.toks) (λb u e=>Df _ e) (Dn _) ?_,rfl,q _ hf⟩;exact⟨by show 3<=Ds;decide,[v,v,v],.cons rv (.cons rv (.cons rv .nil)),⟨_,Dl _ rfl,rfl,_,rfl⟩⟩
end
structure En where
 w:R3
 b:R3
structure En.In (e:En):Prop where
 a0:0<=e.b.a
 a1:e.b.a<e.w.a
 a2:e.w.a<=1000
 b0:0<=e.b.b
 b1:e.b.b<e.w.b
 b2:e.w.b<=1000
 c0:0<=e.b.c
 c1:e.b.c<e.w.c
 c2:e.w.c<=1000
theorem y_ (n:Int):rD (n:Rat)=Af n 1:=by
 show Af (n:Rat).num ((n:Rat).den:Int)=_;rw[Rat.num_intCast,Rat.den_intCast];rfl
theorem uC (n:Int):((n:Int):Rat)/((1:Int):Rat)=(n:Rat):=by
 have:((1:Int):Rat)=1:=rfl;rw[this];grind
theorem tO {k:Nat}{n:Int}(h:Sm k n)(hk:0<k):Bq k (n:Rat):=by
 have e:=uC n;rw[<- e];refine xS (by decide) h ?_;unfold Sm;have:=Nat.one_lt_two_pow (n:=k) (by omega)
 simpa using this
theorem AO {n:Int}(h0:-1000<=n)(h:n<=1000):Sm 10 n:=by unfold Sm;omega
def CA (b w:Int)(q:Rat):Bool:=decide (b*(q.den:Int)<=q.num)&&decide (q.num<=w*(q.den:Int))
def En.has (e:En)(c:Q3):Bool:=CA e.b.a e.w.a c.a&&(CA e.b.b e.w.b c.b&&(CA e.b.c e.w.c c.c&&true))
theorem v_ (ha:H a=none)(hx:H dx=none)(m:Mv [a] (upd (upd H dx o) a u) H'):ae H H':=λb w e=>by
 have n1:b≠a:=aK e ha;have n2:b≠dx:=aK e hx;exact m b w (by rw[ap n1,ap n2];exact e) (by simp[n1])
theorem yK {n:Int}(h:n≠0):(n:Rat)≠0:=λz=>h (Rat.intCast_eq_zero_iff.mp z)
def R3.col (r:R3):Q3:=⟨(r.a:Rat),(r.b:Rat),(r.c:Rat)⟩
theorem l6 {K:Dd}{H:Hp}:∀ ns:List Int,aw K H (ns.map Eo) (ns.map V.int)
 |[]=>.nil
 |_::ns=>.cons (.int _) (l6 ns)
theorem zP {K:Dd}{H:Hp}{a:Du}{xs:List V}{i:Int}{j:Nat}{v:V}{Q:VK}(h:H a=some (.lst xs))(e:xs[j]?=some v)(hi:i=(j:Int))(q:Q v H):xK K (.ref a) (.int i) H Q:=
 .inl ⟨a,xs,_,v,rfl,rfl,bj.of h,by rw[hi];exact eX e,q⟩
def KT (K:Dd)(a:Du)(xs:List V):Prop:=∃ (o:Obj) (its:Array Di) (n:Nat),K.lookup a=some o/\o.cls=.type "tuple"/\o.data=.seq its n/\its.size<=Ds/\aJ xs its.toList
theorem KT.sq {K:Dd}{H:Hp}{a:Du}{xs:List V}(h:KT K a xs):f7 K H a xs:=.inr h
def tY (K:Dd)(H:Hp)(d:DZ)(x:V):Prop:=aQ K H d x\/∃ (a:Du) (ns:List Int),x=.ref a/\d=.tuple (ns.map Eo)/\KT K a (ns.map V.int)
theorem vw {K:Dd}{H:Hp}{d:DZ}{x:V}(h:tY K H d x):(∃ a ds xs,x=.ref a/\d=.tuple ds/\f7 K H a xs/\aw K H ds xs)\/(aQ K H d x/\bw (z_ d) "tuple"=some false/\∀ ds,d≠.tuple ds):=by
 rcases h with h|⟨a,ns,rfl,rfl,h⟩
 ·cases h with
  |tup h q=>exact .inl ⟨_,_,_,rfl,rfl,f7.of h,q⟩
  |non=>exact .inr ⟨.non,(show bw "NoneType" "tuple"=some false by decide +kernel),λ_ z=>nomatch z⟩
  |bl b=>exact .inr ⟨.bl b,(show bw "bool" "tuple"=some false by decide +kernel),λ_ z=>nomatch z⟩
  |int i=>exact .inr ⟨.int i,(show bw "int" "tuple"=some false by decide +kernel),λ_ z=>nomatch z⟩
  |str z=>exact .inr ⟨.str z,(show bw "str" "tuple"=some false by decide +kernel),λ_ z=>nomatch z⟩
  |lst h q=>exact .inr ⟨.lst h q,(show bw "list" "tuple"=some false by decide +kernel),λ_ z=>nomatch z⟩
  |dct h=>exact .inr ⟨.dct h,(show bw "dict" "tuple"=some false by decide +kernel),λ_ z=>nomatch z⟩
 ·exact .inl ⟨a,_,_,rfl,rfl,h.sq,l6 ns⟩
def Am (K:Dd):List V->Hp->VK->Prop:=λxs H Q=>yH K xs H Q\/∃ a ys,xs=[.ref a,.ty "tuple"]/\f7 K H a ys/\Q (.bl true) H
theorem zG {X:Cx}{K:Dd}(hK:X.K=K):br X (.builtin "isinstance") (Am K):=by
 subst hK;intro pins s σ H xs us Q I r h;rcases h with h|⟨a,ys,rfl,ha,q⟩
 ·exact oY pins s σ H xs us Q I r h
 ·obtain⟨u,v,rfl,ru,rv⟩:=iB r;cases ru;cases(show v=FM "tuple" from rv);obtain⟨its,_,⟨o,h1,h2,_⟩,_⟩:=I.tuple ha;exact KD Ly I.kIn ⟨o,h1,h2⟩ (by rw[nZ];show bw "tuple" "tuple"=some true;decide +kernel) (λz=>nomatch z) λtk=>⟨.bl true,H,I.tok tk,rfl,q⟩
def li (n l m:Int):DZ->Bool
 |.tuple ds=>decide ((ds.length:Int)=n)&&(ds.map (mY l m)).all id
 |_=>false
theorem zN {n l m:Int}(h:∀ ds,d≠.tuple ds):li n l m d=false:=by
 cases d<;>first|rfl|exact absurd rfl (h _)
theorem At (h:li 3 0 1000 d=true):∃ r:R3,d=tL false r/\(0<=r.a/\r.a<=1000)/\(0<=r.b/\r.b<=1000)/\(0<=r.c/\r.c<=1000):=by
 cases d with
 |tuple ds=>
  have h:(decide ((ds.length:Int)=3)&&(ds.map (mY 0 1000)).all id)=true:=h;rw[Dw,EN] at h;obtain⟨hl,h⟩:=h;obtain⟨x,y,z,rfl⟩:=BD (show ds.length=3 by omega);have h:(mY 0 1000 x&&(mY 0 1000 y&&(mY 0 1000 z&&true)))=true:=h;simp only[Dw,Hx] at h;obtain⟨h1,h2,h3⟩:=h;obtain⟨a1,a2,a3⟩:=nB h1;obtain⟨b1,b2,b3⟩:=nB h2;obtain⟨c1,c2,c3⟩:=nB h3;refine⟨⟨mJ x,mJ y,mJ z⟩,?_,⟨a2,a3⟩,⟨b2,b3⟩,⟨c2,c3⟩⟩;show PyData.tuple [x,y,z]=.tuple [.int (mJ x),.int (mJ y),.int (mJ z)];rw[<- a1,<- b1,<- c1]
 |_=>cases h
end TR
namespace TR
open PySem PySem.Spec PyProof.Rows
def Up (xs:List Nat):Prop:=xs.Pairwise (·<·)
theorem pk (h:Up xs){i j:Nat}(hi:i<j)(hj:j<xs.length):xs[i]<xs[j]:=
 Hd.mp h i j (by omega) hj hi
theorem vL {j:Nat} (h:Up xs.toList):∀ (f lo hi:Nat),hi <= xs.size->hi <= lo + f->lo <= hi ->
  (∀ i (w:i<xs.size),i<lo->xs[i]<j)->(∀ i (w:i<xs.size),hi<=i->j<=xs[i]) ->
  (∀ i (w:i<xs.size),i<Ia xs j f lo hi->xs[i]<j)/\(∀ i (w:i<xs.size),Ia xs j f lo hi<=i->j<=xs[i])/\Ia xs j f lo hi<=xs.size:=by
 intro f
 induction f with
 |zero=>
  intro lo hi h1 h2 h3 ha hb;have:lo=hi:=by omega
  subst this;exact⟨ha,hb,h1⟩
 |succ f ih=>
  intro lo hi h1 h2 h3 ha hb;unfold Ia
  split
  ·rename_i hlt
   have hm:(lo+hi)/2<xs.size:=by omega
   have hg:xs.getD ((lo+hi)/2) j=xs[(lo+hi)/2]:=by simp[LL,hm]
   dsimp only;rw[hg]
   split
   ·rename_i hc
    refine ih _ _ h1 (by omega) (by omega) (λi w hi'=>?_) hb
    by_cases e:i=(lo+hi)/2
    ·subst e;exact hc
    ·have:=pk h (i:=i) (j:=(lo+hi)/2) (by omega) (by simpa using hm);simp only[EW] at this;omega
   ·rename_i hc
    refine ih _ _ (by omega) (by omega) (by omega) ha (λi w hi'=>?_)
    by_cases e:i=(lo+hi)/2
    ·subst e;omega
    ·have:=pk h (i:=(lo+hi)/2) (j:=i) (by omega) (by simpa using w);simp only[EW] at this;omega
  ·have:lo=hi:=by omega
   subst this;exact⟨ha,hb,h1⟩
theorem kC {j:Nat} (h:Up xs.toList) :
  (∀ i (w:i<xs.size),i<Ep xs j->xs[i]<j)/\(∀ i (w:i<xs.size),Ep xs j<=i->j<=xs[i])/\Ep xs j<=xs.size:=by
 unfold Ep;exact vL h _ _ _ (Dn _) (by omega) (by omega) (λi w hi=>by omega) (λi w hi=>by omega)
theorem tK {j:Nat}(h:Up xs.toList)(hj:(xs[Ep xs j]?==some j)=false):j∉xs.toList:=by
 intro hm;obtain⟨i,hi,e⟩:=ER hm;have hi':i<xs.size:=by simpa using hi
 simp only[EW] at e;obtain⟨b1,b2,b3⟩:=kC (j:=j) h;have h1:¬ i<Ep xs j:=λq=>by have:=b1 i hi' q;omega
 by_cases h2:Ep xs j=i
 ·rw[h2] at hj;simp[hi',e] at hj
 ·have h3:Ep xs j<xs.size:=by omega
  have:=b2 _ h3 (Dn _);have:=pk h (i:=Ep xs j) (j:=i) (by omega) (by simpa using hi');simp only[EW] at this;omega
theorem pP (xs:Array α)(p:Nat)(x:α):(JF xs p x).toList=xs.toList.take p++x::xs.toList.drop p:=by
 unfold JF;simp;exact EM (by simp)
theorem mw {j:Nat}(h:Up xs.toList)(hj:j∉xs.toList):Up (JF xs (Ep xs j) j).toList:=by
 rw[pP];obtain⟨b1,b2,b3⟩:=kC (j:=j) h;unfold Up at *;rw[KZ,GD];refine⟨h.sublist (JC _ _),⟨λa ha=>?_,h.sublist (LO _ _)⟩,λa ha b hb=>?_⟩
 ·obtain⟨i,hi,e⟩:=ER ha;rw[LQ] at e;have hi':Ep xs j+i<xs.size:=by simp only[Ik,Fd] at hi;omega
  have:=b2 _ hi' (by omega);simp only[EW] at e;have hne:a≠j:=λq=>hj (q▸(LO _ _).subset ha)
  omega
 ·have haj:a<j:=by
   obtain⟨i,hi,e⟩:=ER ha;rw[JB] at e;simp only[Ei,Fd] at hi;have:=b1 i (by omega) (by omega);simp only[EW] at e;omega
  rcases Dx.mp hb with rfl|hb
  ·exact haj
  ·obtain⟨i,hi,e⟩:=ER hb;rw[LQ] at e;have hi':Ep xs j+i<xs.size:=by simp only[Ik,Fd] at hi;omega
   have:=b2 _ hi' (by omega);simp only[EW] at e;omega
theorem mr {t:GZ}{j:Nat}(h:Up t.place.toList)(hs:∀ i,t.slot j≠.live i):j∉t.place.toList:=by
 refine tK h ?_;cases e:(t.place[Ep t.place j]?==some j) with
 |false=>rfl
 |true=>
  refine absurd ?_ (hs (Ep t.place j));unfold SetTable.slot;dsimp only;rw[Ee e]
theorem qg {t:GZ}{ha:Nat->Int}{hh:Int} (h:Up t.place.toList):∀ (f:Nat) (p:SetTable.Probe),(∀ d,p.dummy=some d->d ∉ t.place.toList) ->
  ∀ j d,LX t ha hh f p=some (.empty j d)->d.getD j∉t.place.toList:=by
 intro f
 induction f with
 |zero=>intro p _ j d e;cases e
 |succ f ih=>
  intro p hp j d e;unfold LX at e
  split at e
  ·rename_i hs
   cases e;have:=mr h (j:=p.j) (λi=>by rw[hs];exact λq=>by cases q);cases hd:p.dummy with
   |none=>exact this
   |some d=>exact hp d hd
  ·rename_i hs
   have:=mr h (j:=p.j) (λi=>by rw[hs];exact λq=>by cases q);refine ih _ (λd hd=>?_) j d e;have hd':some p.j=some d:=by
    rw[<- hd];unfold Mn;dsimp only;split<;>rfl
   cases hd';exact this
  ·split at e
   ·cases e
   ·refine ih _ (λd hd=>hp d ?_) j d e;rw[<- hd];unfold Mn;dsimp only;split<;>rfl
theorem mq {t:GZ}{hh:Int}{slot:Nat}{dm:Bool}(h:Up t.place.toList)(e:t.freeSlot hh=some (slot,dm)):slot∉t.place.toList:=by
 unfold SetTable.freeSlot at e
 split at e
 ·rename_i j d q
  cases e;exact qg h _ _ (λd hd=>by cases hd) _ _ q
 ·cases e
def Tb (led:Bool)(t:GZ):Prop:=Up t.place.toList/\t.led=led
theorem vk (n:Nat):Up (Array.range n).toList:=by
 rw[Array.toList_range];exact Kj
theorem eL (n:Nat)(h:Tb led t):Tb led (t.standIn n):=⟨vk n,h.2⟩
theorem yt {led:Bool}{t:GZ}{es:Array (Int×Di)}{hh:Int}{x:Di}(h:Tb led t):Tb led (layNew t es hh x).2.1:=by
 unfold layNew
 split
 ·rename_i slot dm e
  dsimp only;unfold SetTable.orStandIn
  split
  ·exact⟨mw h.1 (mq h.1 e),h.2⟩
  ·exact eL _ ⟨mw h.1 (mq h.1 e),h.2⟩
 ·exact eL _ h
theorem wI {f:Nat->Option Nat}:∀ {l:List Nat},Up l->Up ((l.filterMap λj=>(f j).map (j,·)).map (·.1)):=by
 intro l
 induction l with
 |nil=>intro _;exact JA
 |cons a l ih=>
  intro h;have h':=GD.mp h;have:=ih h'.2;rw[Hq];cases e:f a with
  |none=>exact this
  |some b=>
   refine GD.mpr ⟨λx hx=>?_,this⟩;obtain⟨y,hy,rfl⟩:=EH.mp hx;obtain⟨j,hj,q⟩:=EG.mp hy;cases e':f j with
   |none=>rw[e'] at q;cases q
   |some c=>rw[e'] at q;cases q;exact h'.1 j hj
theorem ue {led:Bool}{t:GZ}{es:Array (Int×Di)}{n:Nat}(h:Tb led t):Tb led (LI t es n).2.1:=by
 unfold LI
 split
 ·rename_i t' order e
  dsimp only
  split
  ·unfold SetTable.relaid SetTable.laid at e;cases q:SetTable.layClean (SetTable.sizeAbove n-1) (es.map (·.1)) with
   |none=>rw[q] at e;cases e
   |some owner=>
    rw[q] at e;cases e;refine⟨?_,h.2⟩;simp only;exact wI Kj
  ·exact eL _ h
 ·exact eL _ h
section
variable {pr:DN}{wo:Ez}{Ar:EK}{Ex:Di->Dk->Prop}{st:Dk}
def dL (pr:DN)(wo:Ez)(led:Bool)(H:Fp)(a:Du)(ks:List Int):Prop:=
 ∃ ob xs ep tb,H.get? a=some ob/\ob.ExactSet/\ob.data=.set xs ep tb/\ElemsOf (Gs pr wo) xs.toList /\
  (∀ k,k∈ks↔∃ e∈xs.toList,(Gs pr wo).is k e.2=true)/\xs.size<scanBound/\tb.fits xs.size=true/\xs.size=ks.length/\ks.Nodup/\Tb led tb
theorem jj {led:Bool}{H:Fp}{a:Du}{ob:Obj}{xs ys:Array (Int × Di)}{ep:Nat}{tb tc:GZ}{ks:List Int}
  (g1:H.get? a=some ob)(g2:ob.ExactSet)(g3:ob.data=.set xs ep tb)(g4:ElemsOf (Gs pr wo) ys.toList)(g5:∀ k,k∈ks↔∃ e∈ys.toList,(Gs pr wo).is k e.2=true)
  (g6:ys.size<scanBound)(g7:tc.fits ys.size=true)(g8:ys.size=ks.length)(g9:ks.Nodup)(g10:Tb led tc):
  (H.update a (LU ys tc)).get? a=some { ob with data:=.set ys (ep+1) tc }/\dL pr wo led (H.update a (LU ys tc)) a ks:=by
 have e:=putSet_of ys tc g3;have q:=DX (LU ys tc) g1 (by rw[e];rfl);rw[e] at q;exact⟨q,_,ys,ep+1,tc,q,g2,rfl,g4,g5,g6,g7,g8,g9,g10⟩
theorem kq {gw:Bool->Sem Unit} (hgw:∀ (b:Bool) (u:Dk) (Q':Unit->Dk->Prop),Q' () u->Dy (DK pr wo) Ar (gw b) Q' Ex u)
  {led:Bool}{a:Du}{ob:Obj}{xs ys:Array (Int×Di)}{ep:Nat}{tb tc:GZ}{ks:List Int}
  (g1:st.heap.get? a=some ob)(g2:ob.ExactSet)(g3:ob.data=.set xs ep tb)(g4:ElemsOf (Gs pr wo) ys.toList)(g5:∀ k,k∈ks↔∃ e∈ys.toList,(Gs pr wo).is k e.2=true)
  (g6:ys.size<scanBound)(g7:tc.fits ys.size=true)(g8:ys.size=ks.length)(g9:ks.Nodup)(g10:Tb led tc){dm:Bool}{R:Option Bool->Dk->Prop}
  (hR:∀ H',Ew a st.heap H'->dL pr wo led H' a ks->R (some true) { st with heap:=H' }):
  Dy (DK pr wo) Ar (do
    storeSet a ys tc
    if (!dm && tc.tooFull)=true then do
      gw (LI tc ys (Gy ys.size)).2.2
      storeSet a (LI tc ys (Gy ys.size)).1 (LI tc ys (Gy ys.size)).2.1
      pure (some true)
     else pure (some true)) R Ex st:=by
 obtain⟨q1,q2⟩:=jj g1 g2 g3 g4 g5 g6 g7 g8 g9 g10;have sb:=Eu st.heap a (LU ys tc);refine De (wpAny_storeSet_of g1 g3 ?_ (fits_of_scanBound g6))
 split
 ·have pm:=relayAll_perm tc ys (Gy ys.size);have ft:=relayAll_fits tc ys (Gy ys.size);have tr:=ue (es:=ys) (n:=Gy ys.size) g10;generalize LI tc ys (Gy ys.size)=Z at pm ft tr ⊢;obtain⟨zs,td,gv⟩:=Z;dsimp only at pm ft tr ⊢;have hz:zs.size=ys.size:=by have:=pm.length_eq;simpa using this
  refine De (hgw _ _ _ ?_);refine De (wpAny_storeSet_of q1 rfl ?_ (fits_of_scanBound (by rw[hz];exact g6)));obtain⟨_,q3⟩:=jj (ob:={ ob with data:=.set ys (ep+1) tc }) (ks:=ks) q1 g2 rfl (g4.perm pm)
   (λk=>(g5 k).trans ⟨λ⟨e,m,i⟩=>⟨e,pm.mem_iff.mpr m,i⟩,λ⟨e,m,i⟩=>⟨e,pm.mem_iff.mp m,i⟩⟩) (by rw[hz];exact g6) ft (hz.trans g8) g9 tr
  exact Dg (hR _ (sb.trans (Eu _ a _)) q3)
 ·exact Dg (hR _ sb q2)
theorem sv {k:Int} (hu:dL pr wo led st.heap a ks) (hroom:ks.length + 1 < scanBound)
  (h:∀ H',Ew a st.heap H'->dL pr wo led H' a (if k∈ks then ks else ks++[k])->Q (!decide (k∈ks)) { st with heap:=H' }):
  Dy (DK pr wo) Ar (setAddHashed a (.int k tk) ((Gs pr wo).hash k)) Q Ex st:=by
 obtain⟨ob,xs,ep,tb,g1,g2,g3,g4,g5,g6,g7,g8,g9,g10⟩:=hu;have isk:(Gs pr wo).is k (.int k tk)=true:=intKind_is _ _ _ _;have sck:(Hf k tk).scannable=true:=rfl;have rm:xs.size+1<scanBound:=by rw[g8];exact hroom
 unfold setAddHashed setAddHashedIn;refine Em (De (EE g1 g3 g7 ?_));dsimp only;rw[byScan_of (knd:=Gs pr wo) sck g6 g4];simp only[↓reduceIte];unfold setAddByScan;refine De (De (Hw ?_));refine De (wpAny_setScan_of (knd:=Gs pr wo) isk g1 g3 g7 g4 ?_);cases hf:List.findIdx? (λe=>(Gs pr wo).is k e.2) xs.toList with
 |some j=>
  dsimp only;obtain⟨hj,pj,_⟩:=List.findIdx?_eq_some_iff_getElem.mp hf;have hm:k∈ks:=(g5 k).mpr ⟨_,FU hj,pj⟩;have:=h st.heap (HW a st.heap) (by rw[Ee hm];exact⟨ob,xs,ep,tb,g1,g2,g3,g4,g5,g6,g7,g8,g9,g10⟩);rw[DE hm] at this;exact Dg (Dg this)
 |none=>
  dsimp only;have hm:k∉ks:=λq=>by
   obtain⟨e,he,hp⟩:=(g5 k).mp q;have:=List.findIdx?_eq_none_iff.mp hf e he;rw[hp] at this;cases this
  rw[DS hm,DR hm] at h;have pm:=layNew_perm tb xs ((Gs pr wo).hash k) (.int k tk);have ft:=layNew_fits tb xs ((Gs pr wo).hash k) (.int k tk);have tr:=yt (es:=xs) (hh:=(Gs pr wo).hash k) (x:=.int k tk) g10;generalize layNew tb xs ((Gs pr wo).hash k) (.int k tk)=Z at pm ft tr ⊢;obtain⟨ys,tc,dm,gv⟩:=Z;dsimp only at pm ft tr ⊢;rw[LM] at pm;have hz:ys.size=xs.size+1:=by have:=pm.length_eq;simpa using this
  have e4:ElemsOf (Gs pr wo) ys.toList:=(g4.push isk sck).perm pm;have e5:∀ k',k'∈ks++[k]↔∃ e∈ys.toList,(Gs pr wo).is k' e.2=true:=λk'=>by
   have:=mem_push_iff (knd:=Gs pr wo) (S:=λz=>decide (z∈ks)) isk (λz=>by rw[EN];exact g5 z) pm k';rw[<- this];simp
  have e9:(ks++[k]).Nodup:=LS.mpr ⟨g9,by simp,λx hx y hy=>by
   rw[DC] at hy;subst hy;exact λq=>hm (q▸hx)⟩
  refine De ?_;have done:∀ (b:Bool) (u:Dk) (Q':Unit->Dk->Prop),Q' () u->Dy (DK pr wo) Ar (match b with|true=>rule "set.scan.the-table-gave-way"|false=>pure ()) Q' Ex u:=
   λb u Q' q=>by cases b<;>first|exact Dg q|exact Hw q
  refine done _ _ _ ?_;have goal:∀ td:GZ,td.fits ys.size=true->Tb led td->∀ H',Ew a st.heap H'->dL pr wo led H' a (ks++[k])->Q true { st with heap:=H' }:=λ_ _ _ H' s1 s2=>h H' s1 s2
  split
  ·refine De ?_;rw[hashByValue_scannable 8 sck];refine Dg ?_;refine kq done (ks:=ks++[k]) g1 g2 g3 e4 e5 (by omega) (tc:=if plainKind (.int k tk)=true then tc else { tc with plain:=false }) (ft) (by simp[hz,g8]) e9 tr λH' s1 s2=>?_
   exact Dg (h H' s1 s2)
  ·refine De (Dg ?_);simp only[↓reduceIte];refine kq done (ks:=ks++[k]) g1 g2 g3 e4 e5 (by omega) ft (by simp[hz,g8]) e9 tr λH' s1 s2=>?_
   exact Dg (h H' s1 s2)
end
theorem kg {i:Nat}(h:xs[i]?=some x):(x::xs.eraseIdx i).Perm xs:=by
 induction xs generalizing i with
 |nil=>cases h
 |cons a xs ih=>
  cases i with
  |zero=>cases h;exact Jm _
  |succ i=>
   simp only[List.getElem?_cons_succ] at h;exact(List.Perm.swap a x _).trans ((ih h).cons a)
theorem v6 (nx:Nat->Nat):∀ (f k:Nat) (left:List α) (out:Array α),f=left.length ->
  (Mh nx f k left out).toList.Perm (out.toList++left):=by
 intro f
 induction f with
 |zero=>intro k left out e;cases left with
  |nil=>simp[Mh]
  |cons a l=>cases e
 |succ f ih=>
  intro k left out e;unfold Mh;have hlt:nx k%left.length<left.length:=Nat.mod_lt _ (by omega);have hg:left[nx k%left.length]?=some left[nx k%left.length]:=DB hlt;rw[hg];dsimp only;refine(ih _ _ _ (by rw[IZ hlt];omega)).trans ?_;rw[LM,F'];exact List.Perm.append_left _ (kg hg)
theorem lX (nx:Nat->Nat)(xs:Array α):(IW nx xs).toList.Perm xs.toList:=by
 unfold IW;have:=v6 nx xs.size 0 xs.toList #[] (by simp)
 simpa using this
def fz (pl:Array Nat)(i:Nat):Nat:=if i=0 then 0 else pl.getD (i-1) 0+1
theorem kb (h:Up pl.toList){i:Nat}(hi:i<=pl.size):Ep pl (fz pl i)=i:=by
 obtain⟨b1,b2,b3⟩:=kC (j:=fz pl i) h;have lo:∀ (k:Nat) (w:k<pl.size),k<i->pl[k]<fz pl i:=λk w q=>by
  cases i with
  |zero=>omega
  |succ i=>
   have hp:i<pl.size:=by omega
   have eg:fz pl (i+1)=pl[i]+1:=by simp[fz,LL,hp]
   rw[eg]
   by_cases e:k=i
   ·subst e;omega
   ·have u:=pk h (i:=k) (j:=i) (by omega) (by simpa using hp);simp only[EW] at u;omega
 have up:∀ (k:Nat) (w:k<pl.size),i<=k->fz pl i<=pl[k]:=λk w q=>by
  cases i with
  |zero=>simp[fz]
  |succ i=>
   have hp:i<pl.size:=by omega
   have eg:fz pl (i+1)=pl[i]+1:=by simp[fz,LL,hp]
   rw[eg];have u:=pk h (i:=i) (j:=k) (by omega) (by simpa using w);simp only[EW] at u;omega
 have n1:¬ Ep pl (fz pl i)<i:=λq=>by
  have w:Ep pl (fz pl i)<pl.size:=by omega
  have x1:=lo _ w q;have x2:=b2 _ w (Dn _);omega
 have n2:¬ i<Ep pl (fz pl i):=λq=>by
  have w:i<pl.size:=by omega
  have x1:=up _ w (Dn _);have x2:=b1 _ w q;omega
 omega
theorem bO:Slot "set_iterator" "__next__" "set_iterator.__next__":=
 .of (owner:="set_iterator") (n:="__next__") (by rw[typeLookup_type,builtinLookup_eq_fast];kernel_rfl) (by decide +kernel) (by decide +kernel) (by decide +kernel)
  (by first|exact .inl (by decide +kernel)|exact .inr (by decide +kernel)) (by rw[isSubtype_type];kernel_rfl)
theorem fR:entryFor table "set_iterator.__next__"=some Gn.«set_iterator.__next__»:=entryFor_of_fast (by kernel_rfl)
theorem gE (a:Di):argsOk "set_iterator.__next__" ⟨[a],[]⟩:=by unfold argsOk;kernel_rfl
theorem gC:Slot "set_iterator" "__iter__" "set_iterator.__iter__":=
 .of (owner:="set_iterator") (n:="__iter__") (by rw[typeLookup_type,builtinLookup_eq_fast];kernel_rfl) (by decide +kernel) (by decide +kernel) (by decide +kernel)
  (by first|exact .inl (by decide +kernel)|exact .inr (by decide +kernel)) (by rw[isSubtype_type];kernel_rfl)
theorem kj:entryFor table "set_iterator.__iter__"=some Gn.«dict_keyiterator.__iter__»:=
 entryFor_alias (id':="dict_keyiterator.__iter__") (by kernel_rfl) rfl (by decide +kernel) (by kernel_rfl)
theorem lD (a:Di):argsOk "set_iterator.__iter__" ⟨[a],[]⟩:=by unfold argsOk;kernel_rfl
theorem jR:entryFor table "set.__iter__"=some Gn.«frozenset.__iter__»:=
 entryFor_alias (id':="frozenset.__iter__") (by kernel_rfl) rfl (by decide +kernel) (by kernel_rfl)
theorem p7 {n:Nat} (hn:n ≠ 0)
  (h:∀ i d,i<n->Q i { s with drawn:=d }):Dy M A (choose src n) Q E s:=λ_ _ _=>by
 show Sem.wp _ _ (Sem.choose src n Sem.pure) _ _ _ _;rw[Sem.wp_choose];exact⟨hn,h _ _ (Nat.mod_lt _ (by omega))⟩
theorem tW:∀ (n:Nat) (xs:List α) (s:Dk) (Q:List α->Dk->Prop),xs.length=n ->
  (∀ ys d,ys.Perm xs->Q ys { s with drawn:=d })->Dy M A (drawOrder n xs) Q E s:=by
 intro n
 induction n with
 |zero=>
  intro xs s Q hl h;cases xs with
  |nil=>exact Dg (h [] s.drawn (Jm _))
  |cons a l=>cases hl
 |succ n ih=>
  intro xs s Q hl h;cases xs with
  |nil=>cases hl
  |cons a l=>
   unfold drawOrder;refine De (p7 (by simp) λi d hi=>?_);have hg:(a::l)[i]?=some (a::l)[i]:=DB hi;rw[hg];dsimp only;refine De (ih _ _ _ (by rw[IZ hi];simp at hl ⊢;omega) λys d' hp=>?_);exact Dg (h _ _ ((hp.cons _).trans (kg hg)))
section
variable {pr:DN}{wo:Ez}{Ar:EK}{Ex:Di->Dk->Prop}{st:Dk}
def mz (wo:Ez):Bool:=wo.params.followText "set-order"
theorem eQ (h:Q (mz wo) st):Dy (DK pr wo) Ar setsByText Q Ex st:=by
 unfold setsByText;exact De (Hk (Dg h))
def yE (wo:Ez)(H:Fp)(S T:Du)(es:Array (Int×Di))(ep:Nat)(tb:GZ)(vs:List Di)(i:Nat)(fi:Di):Prop:=
 (mz wo=true/\(∃ sl t,fi=.int sl t)/\vs=(IW (wo.params.setOrder S ep) es).toList.map (·.2)) \/
 (mz wo=false/\(!tb.plain&&decide (es.size>1))=true/\fi=.ref T/\∃ (o:Obj) (n:Nat) (pl:List Nat),H.get? T=some o/\o.data=.seq (pl.map λj:Nat=>FK j).toArray n/\pl.Perm (Fm es.size)/\vs=pl.map λj=>(es[j]?.map (·.2)).getD .none) \/
 (mz wo=false/\(!tb.plain&&decide (es.size>1))=false/\tb.led=true/\Up tb.place.toList/\tb.place.size=es.size/\fi=.int (fz tb.place i) 0/\vs=es.toList.map (·.2))
def xB (wo:Ez)(H:Fp)(I S T:Du)(ob:Obj)(es:Array (Int×Di))(ep:Nat)(tb:GZ)(vs:List Di)(i:Nat):Prop:=
 H.get? S=some ob/\∃ fi o,H.get? I=some o/\o.cls=.type "set_iterator"/\o.data=.fields #[fi,.int i 0,.ref S,.int es.size 0,.int ep 0]/\yE wo H S T es ep tb vs i fi
theorem mO {ep:Nat}{i:Nat}(h:yE wo H S T es ep tb vs i fi):vs.length=es.size:=by
 rcases h with ⟨_,_,rfl⟩|⟨_,_,_,_,_,pl,_,_,hp,rfl⟩|⟨_,_,_,_,_,_,rfl⟩
 ·have:=(lX (wo.params.setOrder S ep) es).length_eq;simp at this ⊢;exact this
 ·have:=hp.length_eq
  simpa using this
 ·simp
theorem uo {ep:Nat}{i:Nat}(h:yE wo H S T es ep tb vs i fi):vs.Perm (es.toList.map (·.2)):=by
 rcases h with ⟨_,_,rfl⟩|⟨_,_,_,_,_,pl,_,_,hp,rfl⟩|⟨_,_,_,_,_,_,rfl⟩
 ·exact(lX (wo.params.setOrder S ep) es).map _
 ·refine(hp.map _).trans (List.Perm.of_eq ?_);apply List.ext_getElem
  ·simp
  ·intro j h1 h2;simp at h1 ⊢;simp[h1]
 ·exact Jm _
theorem kh {H:Fp}{I S T:Du}{ob:Obj}{es:Array (Int×Di)}{ep:Nat}{tb:GZ}{vs:List Di}{i:Nat}(h:xB wo st.heap I S T ob es ep tb vs i):st.TypeIs (.ref I) "set_iterator":=by
 obtain⟨_,_,o,h1,h2,_⟩:=h;exact⟨o,h1,h2⟩
end
section
variable {pr:DN}{wo:Ez}{Ar:EK}{Ex:Di->Dk->Prop}{st:Dk}
theorem ko {ep:Nat}{i:Nat} (h:yE wo H S T es ep tb vs i fi)
  (k:∀ o,H.get? T=some o->H'.get? T=some o):yE wo H' S T es ep tb vs i fi:=by
 rcases h with h|⟨a1,a2,a3,o,n,pl,a4,a5⟩|h
 ·exact .inl h
 ·exact .inr (.inl ⟨a1,a2,a3,o,n,pl,k _ a4,a5⟩)
 ·exact .inr (.inr h)
theorem vj {I S T:Du}{ob:Obj}{es:Array (Int × Di)}{ep:Nat}{tb:GZ}{vs:List Di}{i:Nat}{x:Di}{Q:Option Di->Dk->Prop}
  (h:xB wo st.heap I S T ob es ep tb vs i)(hob:ob.data=.set es ep tb)(hf:tb.fits es.size=true)(hSI:S≠I)(hTI:T≠I)(hx:vs[i]?=some x)
  (hQ:∀ H',xB wo H' I S T ob es ep tb vs (i+1)->Ew I st.heap H'->Q (some x) { st with heap:=H' }):
  Dy (DK pr wo) Ar (HR (.ref I)) Q Ex st:=by
 have hT:=kh (st:=st) (H:=st.heap) h;obtain⟨hS,fi,o,ho,hc,hd,hw⟩:=h;unfold HR;refine De (F0 (EJ (name:=E4 "__next__") hT bO
  (EU bO hT fR ?_ (gE _))))
 show Dy _ _ (fieldsOf (.ref I) >>= _) _ _ st;refine De (Jt ho hd ?_);show Dy _ _ (KQ S >>= _) _ _ st;refine De ?_;unfold KQ;refine De (EE hS hob hf ?_);refine Dg ?_;dsimp only;rw [DS (by simp)];have fin1:∀ (H1:Fp) (o1:Obj) (f1:Di),H1.get? I=some o1->o1.cls=.type "set_iterator"->o1.data=.fields #[f1,.int i 0,.ref S,.int es.size 0,.int ep 0]->Ew I st.heap H1 ->
   yE wo st.heap S T es ep tb vs (i+1) f1 ->
   Dy (DK pr wo) Ar.in1 (do Mp (.ref I) 1 (FK ((i:Int)+1));ret x) (λr s'=>∃ v,r=.done (.ret v)/\Dy (DK pr wo) Ar (pure (some v)) Q Ex s') (λe s'=>Dy (DK pr wo) Ar (do if(<- JI e (.type "StopIteration")) then pure none else throw e) Q Ex s') { st with heap:=H1 }:=by
  intro H1 o1 f1 g1 g2 g3 g4 g5;refine De (Fa g1 g3 (by simp) (Dg ⟨x,rfl,Dg ?_⟩));have sb:Ew I st.heap (H1.update I (Ev (·.setIfInBounds 1 (FK ((i:Int)+1))))):=g4.trans (Eu ..);refine hQ _ ⟨?_,f1,_,DX _ g1 (EI (Ec g3 _)),(GX ..).trans g2,by rw[Ec g3];simp[FK],?_⟩ sb
  ·rw[sb.2 S hSI];exact hS
  ·exact ko g5 λo' e=>by rw[sb.2 T hTI];exact e
 have hlen:=mO hw;have hlt:i<es.size:=by rw[<- hlen];exact(DH.mp hx).1
 rcases hw with ⟨b1,⟨sl,t,rfl⟩,e⟩|⟨b1,b2,rfl,oT,nT,pl,b3,b4,b5,e⟩|⟨b1,b2,b3,b4,b5,rfl,e⟩
 ·show Dy _ _ (Ll S sl.toNat (GL (i:Int)) (GL (ep:Int))>>=_) _ _ st;refine De ?_;unfold Ll;refine De (EE hS hob hf ?_);dsimp only;refine De (eQ ?_);rw[Ee b1];simp only[ED,JH,EO,GG];refine De ?_;unfold setWalk;refine De (EE hS hob hf ?_);dsimp only;refine De (eQ ?_);rw[Ee b1];refine De (Hk (Dg (Dg ?_)));have hx':(IW (wo.params.setOrder S ep) es)[i]?.map (λe=>e.2)=some x:=by
   rw[e] at hx;rw[<- hx];simp
  obtain⟨q,q1,q2⟩:=DA.mp hx';show Dy _ _ (match (IW (wo.params.setOrder S ep) es)[i]?.map (λe=>(e.2,sl.toNat)) with|some (x,next)=>_|none=>_) _ _ _;rw[q1];dsimp only [Option.map];rw[q2];refine De (Fa ho hd (by simp) ?_);exact fin1 _ _ (FK (sl.toNat:Int)) (DX _ ho (EI (Ec hd _))) ((GX ..).trans hc) (by rw[Ec hd];simp) (Eu ..) (.inl ⟨b1,⟨_,_,rfl⟩,e⟩)
 ·show Dy _ _ (seqItems? (.ref T)>>=_) _ _ st;refine De (FA b3 b4 ?_);have hp:∃ j:Nat,pl[i]?=some j/\j<es.size:=by
   have:i<pl.length:=by rw[b5.length_eq];simpa using hlt
   exact⟨pl[i],DB this,by simpa using (b5.mem_iff.mp (FU this))⟩
  obtain⟨j,j1,j2⟩:=hp;have hpl:(pl.map λj:Nat=>FK j).toArray[i]?=some (.int j 0):=by simp[j1,FK]
  show Dy _ _ (match (pl.map λj:Nat=>FK j).toArray[GL (i:Int)]? with|some (.int place _)=>_|some _=>_|none=>_) _ _ _;rw[ED,hpl];dsimp only;refine De ?_;unfold setNextDrawn;refine De (EE hS hob hf ?_);dsimp only;have hxx:es[j]?=some es[j]:=by simp[j2]
  have hxe:x=es[j].2:=by
   rw[e] at hx;simp[j1,hxx] at hx;exact hx.symm
  simp only[ED,JH,EO,GG,hxx];refine Dg ?_;rw[<- hxe];exact fin1 _ _ _ ho hc hd (HW _ _) (.inr (.inl ⟨b1,b2,rfl,oT,nT,pl,b3,b4,b5,e⟩))
 ·show Dy _ _ (Ll S (GL (fz tb.place i:Int)) (GL (i:Int)) (GL (ep:Int))>>=_) _ _ st;refine De ?_;unfold Ll;refine De (EE hS hob hf ?_);dsimp only;refine De (eQ ?_);rw[DS (by rw[b1];simp)];show Dy _ _ (if(!tb.plain&&decide (es.size>1))=true then _ else _) _ _ _;rw[DS (by rw[b2];simp)];refine De ?_;show Dy _ _ (if(!tb.led&&!es.isEmpty)=true then _ else(pure ():Sem Unit)) _ _ _;rw[DS (by rw[b3];simp)];refine Dg ?_;have bs:=kb (pl:=tb.place) b4 (i:=i) (by rw[b5];omega);have p1:es[i]?=some es[i]:=by simp[hlt]
  have hlp:i<tb.place.size:=by rw[b5];exact hlt
  have p2:tb.place[i]?=some tb.place[i]:=by simp[hlp]
  have p3:x=es[i].2:=by
   rw[e] at hx;simp[hlt] at hx;exact hx.symm
  have p4:fz tb.place (i+1)=tb.place[i]+1:=by simp[fz,LL,hlp]
  simp only[ED,bs,p1,p2];refine Dg ?_;rw[<- p3];refine De (Fa ho hd (by simp) ?_);exact fin1 _ _ (FK ((tb.place[i]+1:Nat):Int)) (DX _ ho (EI (Ec hd _))) ((GX ..).trans hc) (by rw[Ec hd];simp) (Eu ..)
   (.inr (.inr ⟨b1,b2,b3,b4,b5,by rw[p4];rfl,e⟩))
end
section
variable {pr:DN}{wo:Ez}{Ar:EK}{Ex:Di->Dk->Prop}{st:Dk}
theorem wV {ep:Nat}{i:Nat} (hh:Ar.handled=none)
  (h:xB wo st.heap I S T ob es ep tb vs i)(hob:ob.data=.set es ep tb)(hf:tb.fits es.size=true)(hx:i=vs.length)
  (hQ:∀ H',IH I st.heap H'->Q none { st with heap:=H' }):
  Dy (DK pr wo) Ar (HR (.ref I)) Q Ex st:=by
 have hT:=kh (st:=st) (H:=st.heap) h;obtain⟨hS,fi,o,ho,hc,hd,hw⟩:=h;unfold HR;refine De (F0 (EJ (name:=E4 "__next__") hT bO
  (EU bO hT fR ?_ (gE _))))
 show Dy _ _ (fieldsOf (.ref I) >>= _) _ _ st;refine De (Jt ho hd ?_);show Dy _ _ (KQ S >>= _) _ _ st;refine De ?_;unfold KQ;refine De (EE hS hob hf ?_);refine Dg ?_;dsimp only;rw [DS (by simp)];have hlen:=mO hw;have fin1:∀ (H1:Fp) (o1:Obj) (f1:Array Di),H1.get? I=some o1->o1.data=.fields f1->f1.size=5->Ew I st.heap H1 ->
   Dy (DK pr wo) Ar.in1 (do Mp (.ref I) 2 .none;let __do_lift <- newExc (FM "StopIteration") [];(raiseNew __do_lift:Sem Fin)) (λr s'=>∃ v,r=.done (.ret v)/\Dy (DK pr wo) Ar (pure (some v)) Q Ex s') (λe s'=>Dy (DK pr wo) Ar (do if(<- JI e (.type "StopIteration")) then pure none else throw e) Q Ex s') { st with heap:=H1 }:=by
  intro H1 o1 f1 g1 g3 g4 g5;refine De (Fa g1 g3 (by omega) ?_);refine De ?_;simp only[newExc,newTuple];refine De (Es ?_ (by size_fits));refine De (m:=Hg _ _) (Ka (a:=D_) (by first|rfl|(simp only[Hg];rfl)) ?_);refine Es ?_ (by size_fits);simp only[raiseNew];refine De (LK ?_);rw[show Ar.in1.handled=none from hh];refine De (Dg (Lm ?_));refine De (Hl (T:="StopIteration") (b:=true) ⟨_,Dl _ rfl,rfl⟩ K4 ?_);exact Dg (hQ _ (((g5.trans (Eu ..)).extBut.push _).push _))
 rcases hw with ⟨b1,⟨sl,t,rfl⟩,e⟩|⟨b1,b2,rfl,oT,nT,pl,b3,b4,b5,e⟩|⟨b1,b2,b3,b4,b5,rfl,e⟩
 ·show Dy _ _ (Ll S sl.toNat (GL (i:Int)) (GL (ep:Int))>>=_) _ _ st;refine De ?_;unfold Ll;refine De (EE hS hob hf ?_);dsimp only;refine De (eQ ?_);rw[Ee b1];simp only[ED,JH,EO,GG];refine De ?_;unfold setWalk;refine De (EE hS hob hf ?_);dsimp only;refine De (eQ ?_);rw[Ee b1];refine De (Hk (Dg (Dg ?_)));have q1:(IW (wo.params.setOrder S ep) es)[i]?=none:=by
   have:vs.length=(IW (wo.params.setOrder S ep) es).size:=by rw[e];simp
   rw[Array.getElem?_eq_none_iff];omega
  show Dy _ _ (match (IW (wo.params.setOrder S ep) es)[i]?.map (λe=>(e.2,sl.toNat)) with|some (x,next)=>_|none=>_) _ _ _;rw[q1];dsimp only [Option.map];exact fin1 st.heap o _ ho hd rfl (HW _ _)
 ·show Dy _ _ (seqItems? (.ref T)>>=_) _ _ st;refine De (FA b3 b4 ?_);have hpl:(pl.map λj:Nat=>FK j).toArray[i]?=none:=by
   have:vs.length=pl.length:=by rw[e];simp
   simp;omega
  show Dy _ _ (match (pl.map λj:Nat=>FK j).toArray[GL (i:Int)]? with|some (.int place _)=>_|some _=>_|none=>_) _ _ _;rw[ED,hpl];dsimp only;refine De (Fa ho hd (by simp) ?_);exact fin1 _ _ _ (DX _ ho (EI (Ec hd _))) (Ec hd _) (by simp) (Eu ..)
 ·show Dy _ _ (Ll S (GL (fz tb.place i:Int)) (GL (i:Int)) (GL (ep:Int))>>=_) _ _ st;refine De ?_;unfold Ll;refine De (EE hS hob hf ?_);dsimp only;refine De (eQ ?_);rw[DS (by rw[b1];simp)];show Dy _ _ (if(!tb.plain&&decide (es.size>1))=true then _ else _) _ _ _;rw[DS (by rw[b2];simp)];refine De ?_;show Dy _ _ (if(!tb.led&&!es.isEmpty)=true then _ else(pure ():Sem Unit)) _ _ _;rw[DS (by rw[b3];simp)];refine Dg ?_;have bs:=kb (pl:=tb.place) b4 (i:=i) (by rw[b5];omega);have p1:es[i]?=none:=by simp;omega
  simp only[ED,bs,p1];refine Dg ?_;exact fin1 st.heap o _ ho hd rfl (HW _ _)
theorem u9 {ep:Nat}{i:Nat}
  (h:xB wo st.heap I S T ob es ep tb vs i)(hQ:Q (.ref I) st):Dy (DK pr wo) Ar (LH (.ref I)) Q Ex st:=by
 have hT:=kh (st:=st) (H:=st.heap) h;refine JK hT gC (EU gC hT kj ?_ (lD _));show Dy _ _ (ret (.ref I)) _ _ st;exact Dg ⟨_,rfl,"set_iterator",_,hT,bO.lookup,hQ⟩
theorem pw {ep:Nat}{i:Nat} (h:xB wo H I S T ob es ep tb vs i)
  (k:∀ b∈[I,S,T],∀ o,H.get? b=some o->H'.get? b=some o):xB wo H' I S T ob es ep tb vs i:=by
 obtain⟨hS,fi,o,ho,hc,hd,hw⟩:=h;exact⟨k S (by simp) _ hS,fi,o,k I (by simp) _ ho,hc,hd,ko hw λo' e=>k T (by simp) _ e⟩
theorem sW {ep:Nat} (hh:Ar.handled=none)
  (hob:ob.data=.set es ep tb)(hf:tb.fits es.size=true)(hSI:S≠I)(hTI:T≠I):
  Walks pr wo Ar I [I,S,T] [I] vs.length (λi v=>vs[i]?=some v) (λi H=>xB wo H I S T ob es ep tb vs i) where
 sub:=λb hb=>by simp at hb;simp[hb]
 frame:=λ_ _ _ st hk=>pw st hk
 item:=λi s Q E hi st hQ=>by
  have hx:vs[i]?=some vs[i]:=by simp[hi]
  refine vj st hob hf hSI hTI hx λh' hit' hs'=>?_
  exact hQ _ h' s.toks hx hit' λb o hb e=>hs'.extBut b o (λh=>hb (by simp[h])) e
 done:=λs Q E st hQ=>wV hh st hob hf rfl λh' he'=>hQ h' s.toks λb o hb e=>he' b o (λh=>hb (by simp[h])) e
 self:=λ_ _ _ _ st hQ=>u9 st hQ
end
section
variable {pr:DN}{wo:Ez}{Ar:EK}{Ex:Di->Dk->Prop}{st:Dk}
theorem uG {H:Fp}{S:Du}{ob:Obj}(hS:st.heap.get? S=some ob)(hx:ob.ExactSet):st.TypeIs (.ref S) "set":=⟨ob,hS,hx.1⟩
theorem vE {S:Du}{ob:Obj}{es:Array (Int × Di)}{ep:Nat}{tb:GZ}{Q:Di->Dk->Prop} (hS:st.heap.get? S=some ob) (hx:ob.ExactSet)
  (hob:ob.data=.set es ep tb)(hf:tb.fits es.size=true)(ht:Tb (!mz wo) tb)(hsz:es.size<scanBound)
  (hQ:∀ (I T:Du) (H':Fp) (d:Drawn) (vs:List Di),xB wo H' I S T ob es ep tb vs 0->T≠I->S≠I->st.heap.objs.size<=I->(∀ b o,st.heap.get? b=some o->H'.get? b=some o) ->
   (∀ b∈[I,S,T],b<H'.objs.size)->st.heap.objs.size<=H'.objs.size->(T=S\/st.heap.objs.size<=T)->Q (.ref I) { st with heap:=H',drawn:=d }) :
  Dy (DK pr wo) Ar (LH (.ref S)) Q Ex st:=by
 have hT:=uG (st:=st) (H:=st.heap) hS hx;refine JK hT F.slot_set_iter (EU F.slot_set_iter hT jR ?_ (F.args_set_iter_1 _));unfold Gn.«frozenset.__iter__»;have hlS:S<st.heap.objs.size:=Dj hS;have hpl:tb.place.size=es.size:=by
  unfold SetTable.fits at hf;simp at hf;exact hf.1
 show Dy _ _ (Jv S >>= _) _ _ st;refine De ?_;unfold Jv KQ;refine De (De (EE hS hob hf (Dg (Dg ?_))));dsimp only;have fin:∀ (fi:Di) (s1:Dk) (T:Du) (vs:List Di),s1.heap.get? S=some ob->(∀ b o,st.heap.get? b=some o->s1.heap.get? b=some o)->yE wo s1.heap S T es ep tb vs 0 fi->T < s1.heap.objs.size->st.heap.objs.size <= s1.heap.objs.size ->
   (T=S\/st.heap.objs.size<=T)->(∃ (g:Fp) (d:Drawn),s1={ st with heap:=g,drawn:=d }) ->
   Dy (DK pr wo) Ar.in1 (do let __do_lift <- setEpoch S;let __do_lift <- newFields "set_iterator" [fi,FK 0,.ref S,FK es.size,FK __do_lift];ret __do_lift)
    (λr s'=>∃ v,r=.done (.ret v)/\∃ T' r,s'.TypeIs v T'/\L5 (.type T') "__next__"=pure (some r)/\Q v s') Ex s1:=by
  intro fi s1 T vs h1 h2 h3 h4 h5 h6 ⟨g,d,h7⟩;subst h7;unfold setEpoch;refine De (De (EE h1 hob hf (Dg ?_)));dsimp only;refine De (Es (Dg ⟨_,rfl,"set_iterator",_,⟨_,Dl _ rfl,rfl⟩,bO.lookup,?_⟩));have h4:T<g.objs.size:=h4;have h5:st.heap.objs.size<=g.objs.size:=h5;refine hQ g.objs.size T _ d vs ⟨Df _ h1,fi,_,Dl _ rfl,rfl,rfl,ko h3 λo e=>Df _ e⟩ (DI h4) (DI (DD hlS h5)) h5
   (λb o e=>Df _ (h2 b o e)) (λb hb=>?_) (by rw[EA];exact Nat.le_succ_of_le h5) h6
  rw[EA];simp only[Dx,Ef,Gu] at hb;rcases hb with rfl|rfl|rfl
  ·exact FG _
  ·exact GW (DD hlS h5)
  ·exact GW h4
 refine De ?_;unfold setDrawn;refine De (EE hS hob hf ?_);dsimp only;refine De (eQ (Dg ?_));show Dy _ _ (if(!mz wo&&(!tb.plain&&decide (es.size>1)))=true then _ else _) _ _ _;cases b1:mz wo with
 |true=>
  simp only[Bool.not_true,Fx,EO,GG];refine De (Dg ?_);exact fin (FK 0) st S _ hS (λ_ _ e=>e) (.inl ⟨b1,⟨_,_,rfl⟩,rfl⟩) hlS (Dn _) (.inl rfl) ⟨_,_,rfl⟩
 |false=>
  cases b2:(!tb.plain&&decide (es.size>1)) with
  |false=>
   simp only[Jh,EO,GG];refine De (Dg ?_);refine fin (FK 0) st S _ hS (λ_ _ e=>e) (.inr (.inr ⟨b1,b2,?_,ht.1,hpl,rfl,rfl⟩)) hlS (Dn _) (.inl rfl) ⟨_,_,rfl⟩;rw[ht.2,b1];rfl
  |true=>
   simp only[Bool.not_false,Hx,GQ];refine De (tW es.size (Fm es.size) _ _ LR λys d hp=>?_);refine De (K6 ?_ (by rw[Dh,hp.length_eq,LR];unfold scanBound at hsz;rw[EZ];omega));refine fin (.ref st.heap.objs.size) _ st.heap.objs.size _ (Df _ hS) (λ_ _ e=>Df _ e) (.inr (.inl ⟨b1,b2,rfl,_,0,ys,Dl _ rfl,rfl,hp,rfl⟩))
    (by rw[EA];exact FG _) (by rw[EA];exact Lj _) (.inr (Dn _)) ⟨_,_,rfl⟩
end
section
variable {pr:DN}{wo:Ez}{Ar:EK}{Ex:Di->Dk->Prop}{st:Dk}
theorem vt (hT:st.TypeIs (.ref S) "set")(h:Q false st):Dy (DK pr wo) Ar (IE (.ref S)) Q Ex st:=by
 unfold IE;refine De (HM hT F.slot_set_len.lookup ?_);show Dy _ _ (JI (.ref S) (.type "set")>>=_) _ _ _;refine De (Hl hT sub_set_self ?_);refine wpAny_ite_split (λhab=>absurd hab (by decide)) (λ_=>?_);refine wpAny_ite_split (λ_=>?_) (λhab=>absurd (by decide +kernel) hab);refine De (wpAny_typeOf hT ?_);exact Dg h
theorem qP (h:ItemsOf (λi v=>vs[i]?=some v) acc vs.length):acc.toList=vs:=by
 apply LP;intro i;cases e:acc.toList[i]? with
 |none=>
  rw[Jn] at e;have:=h.1
  symm
  rw[Jn];simp at e;omega
 |some v=>exact(h.2 i v (by simpa using e)).symm
theorem pz {ep:Nat} (hh:Ar.handled=none) (hS:st.heap.get? S=some ob) (hx:ob.ExactSet)
  (hob:ob.data=.set es ep tb)(hf:tb.fits es.size=true)(ht:Tb (!mz wo) tb)(hsz:es.size<scanBound)
  (hQ:∀ (g:Fp) (d:Drawn) (tk:Nat) (vs:List Di),(∀ b o,st.heap.get? b=some o->g.get? b=some o)->st.heap.objs.size<g.objs.size->st.toks<=tk->vs.Perm (es.toList.map (·.2))->Q vs { st with heap:=g,drawn:=d,toks:=tk }):
  Dy (DK pr wo) Ar (collect (.ref S)) Q Ex st:=by
 have hlS:S<st.heap.objs.size:=Dj hS;unfold collect;refine De (wpAny_runValue (Gg F.entry_proto_collect ?_));rw[F7 F.plain_proto_collect _];show Dy _ Ar.in1 (newList []>>=λl=>again (.builtin "list.__iadd__" ⟨[l,.ref S],[]⟩)) _ _ st;refine De (Es ?_);refine Dg ⟨J' F.plain_list_iadd _,Gg F.entry_list_iadd ?_⟩;rw[F7 F.plain_list_iadd _];show Dy _ Ar.in1 (ID (.ref st.heap.objs.size) (.ref S) (.ref st.heap.objs.size)) _ _ _;unfold ID;have hS1:(st.heap.push { cls:=.type "list",data:=.seq ([]:List Di).toArray }).get? S=some ob:=Df _ hS;have hL1:(st.heap.push { cls:=.type "list",data:=.seq ([]:List Di).toArray }).get? st.heap.objs.size=some { cls:=.type "list",data:=.seq ([]:List Di).toArray }:=Dl _ rfl;have hsz1:(st.heap.push { cls:=.type "list",data:=.seq ([]:List Di).toArray }).objs.size=st.heap.objs.size+1:=EA _ _;have up1:∀ b o,st.heap.get? b=some o->(st.heap.push { cls:=.type "list",data:=.seq ([]:List Di).toArray }).get? b=some o:=λb o e=>Df _ e
 generalize st.heap.push { cls:=.type "list",data:=.seq ([]:List Di).toArray }=g1 at hS1 hL1 hsz1 up1 ⊢;refine De (wpAny_typeOf (T:="set") ⟨ob,hS1,hx.1⟩ ?_);have hSL:st.heap.objs.size≠S:=FB hlS;have h1:Jw (.ref st.heap.objs.size) (.ref S)=false:=by simp[Jw,hSL]
 have h2:(FM "set"==FM "list")=false:=by decide
 have h3:(FM "set"==FM "tuple")=false:=by decide
 simp only[h1,h2,h3,Bool.or_false,EO,GG];refine De (vE (st:={ st with heap:=g1 }) hS1 hx hob hf ht hsz λI T g2 d vs ws hTI hSI hI up2 lt2 pY hT2=>?_);refine De (Em (vt ⟨ob,ws.1,hx.1⟩ ?_));have hlen:vs.length=es.size:=by obtain⟨_,_,_,_,_,_,hw⟩:=ws;exact mO hw
 have hper:vs.Perm (es.toList.map (·.2)):=by obtain⟨_,_,_,_,_,_,hw⟩:=ws;exact uo hw
 show Dy _ Ar.in1 (rule "list.extend.makes-room">>=λ_=>Builtin.List.listTouch (.ref st.heap.objs.size)>>=λ_=>
  again (.builtin "list.extend.loop" ⟨[.ref st.heap.objs.size,.ref I,.ref st.heap.objs.size],[]⟩)) _ _ _
 refine De (Hw ?_);have hI':st.heap.objs.size+1<=I:=by rw[<- hsz1];exact hI
 have hLI:st.heap.objs.size≠I:=DI hI';have hLT:st.heap.objs.size≠T:=by
  rcases hT2 with rfl|q
  ·exact hSL
  ·have q:g1.objs.size<=T:=q;rw[hsz1] at q;exact DI q
 have hSf:st.heap.objs.size∉[I,S,T]:=by simp[hLI,hSL,hLT]
 have hS2:=up2 _ _ hL1;refine De ?_;show Dy _ Ar.in1 (updateSeq st.heap.objs.size (·.push .none)>>=λ_=>updateSeq st.heap.objs.size (·.pop)) _ _ _;refine De (wpAny_updateSeq hS2 rfl ?_);have hS₂:=DX (GY (·.push D_)) hS2 rfl;refine wpAny_updateSeq hS₂ rfl ?_;have hS₃:=DX (GY (·.pop)) hS₂ rfl;have oth:∀ b o,b≠st.heap.objs.size->g2.get? b=some o->((g2.update st.heap.objs.size (GY (·.push D_))).update st.heap.objs.size (GY (·.pop))).get? b=some o:=
  λb o hb e=>(DV _ _ (Fj hb)).trans ((DV _ _ (Fj hb)).trans e)
 have W:=(sW (pr:=pr) (wo:=wo) (Ar:=Ar.in1) (I:=I) (S:=S) (T:=T) (ep:=ep) (tb:=tb) (vs:=vs) (by simp[hh]) hob hf hSI hTI).toS;refine Dg ⟨J' F.plain_extend_loop _,codeAny_extend_loopS W (by rw[hlen,EZ];unfold scanBound at hsz;omega) _ hSf _ vs.length 0 _ _ _ rfl (ES _)
  (pw ws λb hb o e=>oth b o (λq=>hSf (q▸hb)) e) hS₃ (ItemsOf.nil _) λs' acc' c' hm hS' hacc=>?_⟩
 show Dy _ Ar (load st.heap.objs.size>>=_) _ _ s';refine De (wpAny_load hS' ?_);refine Dg ?_;rw[qP hacc];obtain⟨g3,gn,dn,tk,os⟩:=s';have e1:gn=st.gens:=hm.gens;have e2:dn=d:=hm.drawn;have e3:os=st.os:=hm.os;subst e1;subst e2;subst e3;refine hQ g3 dn tk vs (λb o e=>?_) (Dj hS') hm.toks hper;have lb:=Dj e;have nb:b≠st.heap.objs.size:=DI lb;have nI:b≠I:=DI (DD lb (Gf hI'));exact hm.heap b o (by simp[nb,nI]) (oth b o nb (up2 b o (up1 b o e)))
end
theorem wq:∀ {ks ns:List Int},ks.Nodup->(∀ k∈ks,k∈ns)->ns.length=ks.length->ns.Perm ks:=by
 intro ks
 induction ks with
 |nil=>intro ns _ _ hl;cases ns with
  |nil=>exact Jm _
  |cons a l=>cases hl
 |cons k ks ih=>
  intro ns hn hm hl;have hk:=hm k (by simp);have pe:=List.perm_cons_erase hk;have hn':=E9.mp hn;refine pe.trans ((ih hn'.2 (λx hx=>?_) ?_).cons k)
  ·have:=hm x (Do _ hx);exact(List.mem_erase_of_ne (λe:x=k=>hn'.1 (e▸hx))).mpr this
  ·have:=pe.length_eq;simp at this hl;omega
theorem wd:∀ {vs:List Di},(∀ v∈vs,∃ k t,v=.int k t)->∃ ns,Ho vs ns/\ns.length=vs.length/\∀ k t,Hf k t∈vs->k∈ns:=by
 intro vs
 induction vs with
 |nil=>intro _;exact⟨[],.nil,rfl,λ_ _ h=>by cases h⟩
 |cons v vs ih=>
  intro h;obtain⟨k,t,rfl⟩:=h v (by simp);obtain⟨ns,a1,a2,a3⟩:=ih λw hw=>h w (Do _ hw)
  refine⟨k::ns,.cons k t a1,by simp[a2],λk' t' hk=>?_⟩;rcases Dx.mp hk with e|e
  ·cases e;simp
  ·exact Do _ (a3 _ _ e)
theorem ff {n:Nat}(ho:h.get? a=some (K5 "list" vs.toArray n)):∃ m,(LZ h a vs out).get? a=some (K5 "list" out m):=by
 have ha:=Dj ho;unfold LZ;have e1:=get?_update_seq ho (λ_=>#[]);have e2:(((h.update a (GY λ_=>#[])).push (K5 "tuple" vs.toArray 0)).push (K5 "list" #[] 0)).get? a=_:=Df _ (Df _ e1);exact⟨_,get?_update_seq e2 (λ_=>out)⟩
theorem dZ (hb:a≠b)(e:h.get? b=some o):(LZ h a vs out).get? b=some o:=by
 unfold LZ;rw[DV _ _ hb];exact Df _ (Df _ ((DV _ _ hb).trans e))
section
variable {pr:DN}{wo:Ez}{Ar:EK}{Ex:Di->Dk->Prop}{st:Dk}
theorem qo (hh:Ar.handled=none) (hu:dL pr wo (!mz wo) st.heap S ks) (h64:ks.length < 64)
  (h:∀ (L:Du) (g:Fp) (d:Drawn) (tk:Nat) (its:Array Di) (ns:List Int) (n:Nat),st.heap.objs.size<=L->g.get? L=some (K5 "list" its n)->Ho its.toList ns->ns.Perm ks->ns.Pairwise (·<=·) ->
   (∀ b o,st.heap.get? b=some o->g.get? b=some o)->st.toks<=tk->Q (.ref L) { st with heap:=g,drawn:=d,toks:=tk }) :
  Dy (DK pr wo) Ar (call (.builtin "sorted") [.ref S]) Q Ex st:=by
 obtain⟨ob,xs,ep,tb,g1,g2,g3,g4,g5,g6,g7,g8,g9,g10⟩:=hu;refine Jj kind_sorted plain_sorted entry_sorted (args_sorted1 _) ?_;unfold Gn.«sorted»;refine De (m:=checkCount "sorted" 1 1 _) (Dg ?_);refine De (pz (by simp[hh]) g1 g2 g3 g7 g10 g6 λg d tk vs up le lt hp=>?_);refine De (wpAny_newList ?_ (by rw[hp.length_eq,EZ];simp;omega));have hv:∀ v∈vs,∃ k t,v=Hf k t:=λv hv=>by
  obtain⟨e,he,rfl⟩:=EH.mp (hp.mem_iff.mp hv);obtain⟨⟨k,q,_⟩,_⟩:=g4 e he;obtain⟨t,q'⟩:=JG q;exact⟨k,t,q'⟩
 obtain⟨ns,i1,i2,i3⟩:=wd hv;have hl:vs.length=ks.length:=by rw[hp.length_eq];simp[g8]
 have hns:ns.Perm ks:=wq g9 (λk hk=>by
  obtain⟨e,he,q⟩:=(g5 k).mp hk;obtain⟨t,q'⟩:=JG q;exact i3 k t (q'▸hp.mem_iff.mpr (EH.mpr ⟨e,he,rfl⟩))) (by omega)
 have hoL:(g.push (K5 "list" vs.toArray 0)).get? g.objs.size=some (K5 "list" vs.toArray 0):=Dl _ rfl;refine De (Em (EU slot_list_sort ⟨_,hoL,rfl⟩ entry_list_sort (list_sort_tree hoL i1 (by omega) λout ns' a1 a2 a3=>⟨_,rfl,?_⟩) (args_list_sort _)));obtain⟨m,hm⟩:=ff (out:=out) hoL;refine Dg ⟨_,rfl,h g.objs.size _ d tk out ns' m (Gm le) hm a1 (a2.trans hns) a3 (λb o e=>?_) lt⟩;exact dZ (FB (Dj (up b o e))) (Df _ (up b o e))
end
def met (ns:List Int):List Int:=ns.foldl (λks k=>if k∈ks then ks else ks++[k]) []
theorem vP (ns:List Int)(k:Int):met (ns++[k])=if k∈met ns then met ns else met ns++[k]:=by
 unfold met;rw[List.foldl_append];rfl
theorem mX (ns:List Int):(met ns).length<=ns.length:=by
 have go:∀ (ns ks:List Int),(ns.foldl (λks k=>if k∈ks then ks else ks++[k]) ks).length<=ks.length+ns.length:=by
  intro ns
  induction ns with
  |nil=>intro ks;exact Dn _
  |cons a ns ih=>
   intro ks;refine Dt (ih _) ?_;dsimp only
   split<;>simp<;>omega
 have:=go ns []
 simpa [met] using this
theorem xO (ns:List Int)(x:Int):x∈met ns↔x∈ns:=by
 have go:∀ (ns ks:List Int),x∈ns.foldl (λks k=>if k∈ks then ks else ks++[k]) ks↔x∈ks\/x∈ns:=by
  intro ns
  induction ns with
  |nil=>intro ks;simp
  |cons a ns ih=>
   intro ks;rw[List.foldl_cons,ih]
   split
   ·rename_i h
    constructor
    ·rintro(q|q)
     ·exact .inl q
     ·exact .inr (Do _ q)
    ·rintro(q|q)
     ·exact .inl q
     ·rcases Dx.mp q with rfl|q
      ·exact .inl h
      ·exact .inr q
   ·simp only[Ek,Dx,Ef,Gu,or_assoc]
 rw[met,go];simp
section
variable {pr:DN}{wo:Ez}{Ar:EK}{Ex:Di->Dk->Prop}{st:Dk}
theorem kL (h:dL pr wo led H a ks)(k:∀ o,H.get? a=some o->H'.get? a=some o):dL pr wo led H' a ks:=by
 obtain⟨ob,xs,ep,tb,g1,r⟩:=h;exact⟨ob,xs,ep,tb,k _ g1,r⟩
theorem uj (hh:Ar.handled=none) (hlI:l ≠ I) (hSI:S ≠ I) (hSl:S ≠ l) (hi:Ho its.toList ns) (hb:ns.length + 1 < scanBound)
  (hR:∀ g tk,dL pr wo led g S (met ns)->(∀ b o,b≠S->b≠I->st.heap.get? b=some o->g.get? b=some o)->st.toks<=tk->R (.ok (.ret .none)) { st with heap:=g,toks:=tk }):
  ∀ (k i:Nat) (g:Fp) (tk:Nat),ns.length-i=k->i<=ns.length->g.IsListIter I l i->g.IsList l its->dL pr wo led g S (met (ns.take i)) ->
   (∀ b o,b≠S->b≠I->st.heap.get? b=some o->g.get? b=some o)->st.toks<=tk ->
   Gq (DK pr wo) Ar (.builtin "set.update.loop" ⟨[.ref S,.ref I],[]⟩) R { st with heap:=g,toks:=tk }:=by
 have hlen:its.toList.length=ns.length:=IntsAre.length hi;have hsz:its.size=ns.length:=by simpa using hlen
 intro k
 induction k with
 |zero=>
  intro i g tk hk hi' hit hl hu up le;have hin:i=ns.length:=by omega
  refine Gg JO ?_;rw[F7 Hz _];show Dy _ Ar.in1 (HR (.ref I)>>=_) _ _ _;refine De (wpAny_pyNext_list_end (by simp[hh]) hit hl (by simp;omega) λg' ext=>?_);rw[hin,List.take_length] at hu;exact Dg (hR g' tk (kL hu λo e=>ext S o hSI e) (λb o h1 h2 e=>ext b o h2 (up b o h1 h2 e)) le)
 |succ k ih=>
  intro i g tk hk hi' hit hl hu up le;have hlt:i<ns.length:=by omega
  obtain⟨v,hv⟩:∃ v,its[i]?=some v:=⟨its[i]'(by omega),by simp[hsz,hlt]⟩
  obtain⟨t,rfl⟩:=IntsAre.int_at hi i v (by rw[FW];exact hv);refine Gg JO ?_;rw[F7 Hz _];show Dy _ Ar.in1 (HR (.ref I)>>=_) _ _ _;refine De (Km hit hl hv λg' hit' sb=>?_);show Dy _ Ar.in1 (holding [Hf (ns.getD i 0) t] (setAdd S (.int (ns.getD i 0) t))>>=_) _ _ _;refine De (Em ?_);unfold setAdd;refine Em (De ((Gs pr wo).pyHash (k:=ns.getD i 0) (intKind_is _ _ _ _) ?_));have hu':dL pr wo led g' S (met (ns.take i)):=kL hu λo e=>by rw[sb.2 S hSI];exact e
  have hroom:(met (ns.take i)).length+1<scanBound:=by
   have:=mX (ns.take i);rw[Ei] at this;omega
  refine sv hu' hroom λg2 sb2 hu2=>?_
  have et:met (ns.take (i+1))=if ns.getD i 0∈met (ns.take i) then met (ns.take i) else met (ns.take i)++[ns.getD i 0]:=by
   rw[<- vP]
   congr 1
   rw[List.take_succ];simp[hlt,Mt]
  rw[<- et] at hu2;refine Dg ⟨J' Hz _,ih (i+1) g2 (tk+1) (by omega) hlt ?_ ?_ hu2 (λb o h1 h2 e=>?_) (Nat.le_succ_of_le le)⟩
  ·obtain⟨o,q,r⟩:=hit';exact⟨o,by rw[sb2.2 I (Fj hSI)];exact q,r⟩
  ·obtain⟨o,q,r⟩:=hl;exact⟨o,by rw[sb2.2 l (Fj hSl)];rw[show g'.get? l=g.get? l from sb.2 l hlI];exact q,r⟩
  ·rw[sb2.2 b h1];show g'.get? b=some o;rw[sb.2 b h2];exact up b o h1 h2 e
theorem sJ (a:Di)
  (h:Q₁ (.ref st.heap.objs.size) { st with heap:=st.heap.push { cls:=.type "set",dict:=none,data:=.set #[] 0 (.fresh 0 0 (!mz wo)) } }):
  Gq (DK pr wo) Ar (.call (.builtin "set.__new__") ⟨[.type "set",a],[]⟩) (wants Q₁ Ex) st:=by
 refine KJ ?_;show Dy _ Ar.in1 (do checkBuiltinCall "set.__new__" ⟨[.type "set",a],[]⟩;again (.builtin "set.__new__" ⟨[.type "set",a],[]⟩)) _ _ st;refine De (Ka (F.newCall_set_1 a) (Dg ⟨J' F.plain_set_new _,Gg F.entry_set_new ?_⟩));rw[F7 F.plain_set_new _];unfold Gn.«set.__new__» Builtin.Frozenset.newClass;have hsub:=sub_set_self;dsimp only
 wp_walk
 refine Hk (Dg ?_);dsimp only;simp only[newObj];refine De (wpAny_alloc (Dg ?_));exact Dg h
theorem on (h:H.get? a=some { cls:=.type "set",dict:=none,data:=.set #[] 0 (.fresh 0 0 led) }):dL pr wo led H a []:=
 ⟨_,#[],0,_,h,⟨rfl,rfl,rfl⟩,rfl,λe he=>by simp at he,λk=>by simp,by decide,by cases led<;>decide,rfl,Jo,JA,rfl⟩
end
section
variable {pr:DN}{wo:Ez}{Ar:EK}{Ex:Di->Dk->Prop}{st:Dk}
theorem tQ (hh:Ar.handled=none) (hl:st.heap.IsList l its) (hi:Ho its.toList ns) (hb:ns.length + 1 < scanBound)
  (h:∀ (g:Fp) (tk:Nat),dL pr wo (!mz wo) g st.heap.objs.size (met ns)->(∀ b o,st.heap.get? b=some o->g.get? b=some o)->st.toks<=tk->Q (.ref st.heap.objs.size) { st with heap:=g,toks:=tk }):
  Dy (DK pr wo) Ar (call (.type "set") [.ref l]) Q Ex st:=by
 obtain⟨c,tl,hmro⟩:=GJ.mro;have hmade:=GJ.made;have hsub:=GJ.sub;refine IC (KJ ?_);show Dy _ _ (callAny (.type "set") _) _ _ _;refine Dg ⟨Lq _ (by decide +kernel),Gg F.entry_type_call ?_⟩;rw[Around.under_plain (weight_type_call_type "set" [.ref l] []) rfl];have h1:=GJ.notType;have h2:=GJ.canCreate;have hct:=F.typeCall_set_1 (.ref l)
 repeat (any_goals (first|assumption|wp_step))
 refine GP (sJ (pr:=pr) (wo:=wo) (Ex:=Ex) (.ref l) (Q₁:=λobj s₁=>obj=.ref st.heap.objs.size/\s₁={ st with heap:=st.heap.push { cls:=.type "set",dict:=none,data:=.set #[] 0 (.fresh 0 0 (!mz wo)) } }) ⟨rfl,rfl⟩) λr s₁ hr=>?_
 cases r with
 |error e=>exact hr
 |ok fl=>
  cases fl with
  |ret obj=>
   obtain⟨rfl,rfl⟩:=hr;have hS:(st.heap.push { cls:=.type "set",dict:=none,data:=.set #[] 0 (.fresh 0 0 (!mz wo)) }).get? st.heap.objs.size=some { cls:=.type "set",dict:=none,data:=.set #[] 0 (.fresh 0 0 (!mz wo)) }:=Dl _ rfl;have hz:(st.heap.push { cls:=.type "set",dict:=none,data:=.set #[] 0 (.fresh 0 0 (!mz wo)) }).objs.size=st.heap.objs.size+1:=EA _ _;have up0:∀ b o,st.heap.get? b=some o->(st.heap.push { cls:=.type "set",dict:=none,data:=.set #[] 0 (.fresh 0 0 (!mz wo)) }).get? b=some o:=λb o e=>Df _ e
   generalize st.heap.push { cls:=.type "set",dict:=none,data:=.set #[] 0 (.fresh 0 0 (!mz wo)) }=g1 at hS hz up0 ⊢;have hT:LF { st with heap:=g1 } (.ref st.heap.objs.size) "set":=⟨_,hS,rfl⟩
   have hli:=GJ.init.lookup;have hbi:=GJ.init.bind (.ref st.heap.objs.size)
   repeat (any_goals (first|assumption|wp_step))
   refine GP (Ir (R:=wants (fun r s₂=>r=.none/\∃ g tk,s₂={ st with heap:=g,toks:=tk }/\dL pr wo (!mz wo) g st.heap.objs.size (met ns) /\
     (∀ b o,st.heap.get? b=some o->g.get? b=some o)/\st.toks<=tk) Ex) GJ.init.plain F.entry_set_init (check_set_init_1 hT ?_)) λr₂ s₂ hr₂=>?_
   ·have hl1:g1.IsList l its:=by obtain⟨o,q,r⟩:=hl;exact⟨o,up0 _ _ q,r⟩
    have hlS:l<st.heap.objs.size:=by obtain⟨o,q,r⟩:=hl;exact Dj q
    obtain⟨ol,hol,hcl,nl,hdl⟩:=id hl1;obtain⟨ocls,odict,odata,oslots⟩:=ol;simp only at hcl hdl;subst hcl;subst hdl;have hsls:=F.sub_list_set;have hslf:=F.sub_list_frozenset;have hne:(FM "list"==FM "dict")=false:=by decide
    unfold Gn.«set.__init__» noKeywords Builtin.Frozenset.updateFrom;generalize hPI:LH=PI
    wp_walk
    subst hPI;refine Fw hl1 ?_;refine De (wpAny_runValue ?_);have up1:∀ b o,g1.get? b=some o->(g1.push { cls:=.type "list_iterator",data:=.fields #[.ref l,.int 0 0] }).get? b=some o:=λb o e=>Df _ e
    have hl1s:l<g1.objs.size:=by rw[hz];exact GW hlS
    have hSs:st.heap.objs.size<g1.objs.size:=by rw[hz];exact FG _
    refine uj (st:={ st with heap:=g1 }) (l:=l) (I:=g1.objs.size) (S:=st.heap.objs.size) (led:=!mz wo) (by simp[hh]) (DI hl1s) (DI hSs) (FB hlS) hi hb (λg tk a1 a2 a3=>?_)
     (ns.length-0) 0 _ st.toks rfl (ES _) ⟨_,Dl _ rfl,rfl,rfl⟩ (hl1.push _) (on (up1 _ _ hS)) (λb o _ _ e=>up1 b o e) (Dn _)
    show Dy _ _ _ _ _ _;refine Dg ?_;show Dy _ _ (ret D_) _ _ _;refine Dg ⟨rfl,g,tk,rfl,a1,λb o e=>?_,a3⟩;have lb:=Dj e;exact a2 b o (DI lb) (DI (Md lb hSs)) (up0 b o e)
   ·cases r₂ with
    |error e=>exact hr₂
    |ok fl₂=>
     cases fl₂ with
     |ret r=>
      obtain⟨rfl,g,tk,rfl,a1,a2,a3⟩:=hr₂
      repeat (any_goals (first|assumption|wp_step))
      exact h _ _ a1 a2 a3
     |_=>exact hr₂.elim
  |_=>exact hr.elim
end
open L2
theorem mf:∀ {ns:List Int}{us:List Di},aJ (ns.map V.int) us->Ho us ns:=by
 intro ns
 induction ns with
 |nil=>intro us r;cases r;exact .nil
 |cons a ns ih=>
  intro us r;cases r with
  |cons h t=>obtain⟨k,rfl⟩:=h;exact .cons a k (ih t)
theorem eG:∀ {ns:List Int}{us:List Di},Ho us ns->aJ (ns.map V.int) us:=by
 intro ns us h
 induction h with
 |nil=>exact .nil
 |cons n t _ ih=>exact .cons ⟨t,rfl⟩ ih
theorem rY (ns:List Int):(met ns).Nodup:=by
 have go:∀ (ns ks:List Int),ks.Nodup->(ns.foldl (λks k=>if k∈ks then ks else ks++[k]) ks).Nodup:=by
  intro ns
  induction ns with
  |nil=>intro ks h;exact h
  |cons a ns ih=>
   intro ks h;refine ih _ ?_;dsimp only
   split
   ·exact h
   ·rename_i hn
    exact LS.mpr ⟨h,by simp,λx hx y hy=>by
     rw[DC] at hy;subst hy;exact λq=>hn (q▸hx)⟩
 exact go ns [] Jo
theorem sB {ns:List Int}(h1:ns.Pairwise (·<=·))(h2:ns.Nodup):ns.Pairwise (·<·):=by
 induction ns with
 |nil=>exact .nil
 |cons a l ih=>
  have p:=GD.mp h1;have n:=E9.mp h2;refine GD.mpr ⟨λx hx=>?_,ih p.2 n.2⟩;have:=p.1 x hx;have ne:a≠x:=λe=>n.1 (e▸hx)
  omega
section
variable {X:Cx}{K:Dd}{pins:List (Du×Obj)}{σ:L2.St}{H:Hp}{s:Dk}
theorem sE (I:av X pins σ H s)(d:Drawn):av X pins σ H { s with drawn:=d }:=⟨I.ok,I.os,I.bare,I.base,I.loc,I.cell,I.free,I.freeC,I.pin,I.hok,I.len⟩
def CW (K:Dd)(ta:TA):TE:=λσ H Q=>ta σ H λvs H1=>∃ (q:Du) (ns:List Int),vs=[.ref q]/\bj K H1 q (ns.map V.int)/\ns.length<64 /\
 ∀ (L:Du) (ns':List Int),H1 L=none->ns'.Pairwise (·<·)->(∀ x:Int,x∈ns'↔x∈ns)->ns'.length<=ns.length->Q (.ref L) (upd H1 L (.lst (ns'.map V.int)))
theorem jp (hK:X.K=K) {e:Fs}{ta:TA}{p p2 pos pos2:Pos} (hc:X.calm=true) (hg:Gl X "sorted") (hm:X.mg "sorted"=none) (hg2:Gl X "set") (hm2:X.mg "set"=none) (ha:WA X [e] ta)
  (hs:DO [e] X.env=(false,GI e X.env)::DO [] X.env:=by rfl)(hs2:(HJ pos2 (DO [] X.env)).any (·.1)=false:=by rfl)
  (hs3:DO [Expr.Call (.Name "set" p2) [e] [] pos2] X.env=[(false,GI (.Call (.Name "set" p2) [e] [] pos2) X.env)]:=by rfl):
  WE X (.Call (.Name "sorted" p) [.Call (.Name "set" p2) [e] [] pos2] [] pos) (CW K ta):=by
 have ha:=ha.go;refine⟨?_⟩;subst hK;intro pins s σ H Q I h;refine FF (e6 I hg hm mn ?_);refine Ii ?_ hs3 rfl;rw[hs3];show Dy _ _ (spliced ((false,GI (.Call (.Name "set" p2) [e] [] pos2) X.env)::[])) _ _ s;refine FX ?_;refine Call_ (e6 I hg2 hm2 yS (E3 (bo (ha pos2 pins s σ H _ I h) λus s1 ⟨vs,H1,I1,r1,q1⟩=>?_) hs hs2));obtain⟨q,ns,rfl,hq,hl,k⟩:=q1;cases r1 with
 |cons ru rt=>
 cases rt;cases ru;obtain⟨its,rv,⟨o,n,po,pc,pd,pdat⟩,hsz⟩:=I1.list hq;refine tQ (I1.ok.hd hc) ⟨o,po,pc,n,pdat⟩ (mf rv) (by unfold scanBound;omega) λg tk hu up le=>HU ?_
 refine qo (st:={ s1 with heap:=g,toks:=tk }) (I1.ok.hd hc) hu (by have:=mX ns;omega) λL g2 d tk2 out ns' m hL hgL io pe sr up2 pY=>?_
 have lL:s1.heap.objs.size<=L:=Dt (Gm (by obtain⟨_,_,_,_,w,_⟩:=hu;exact Dj w)) hL;have fL:=I1.hok.fresh lL;have FL:=I1.fpOk lL fL;have J0:av X pins σ H1 { s1 with heap:=g2,toks:=tk2,drawn:=d }:=sE (I1.kept (t':=tk2) λb o e=>up2 b o (up b o e)) d;have ln:ns'.length<=ns.length:=by rw[pe.length_eq];exact mX ns
 have J1:=f9 (o:=.lst (ns'.map V.int)) J0 fL (Dt I1.sz lL) FL.2.1 FL.2.2.2.2.1 FL.2.2.2.2.2 ⟨by rw[Dh,EZ];omega,out.toList,m,eG io,hgL⟩;exact⟨.ref L,_,J1,rfl,k L ns' fL (sB sr (pe.nodup_iff.mpr (rY ns))) (λx=>by rw[pe.mem_iff,xO]) ln⟩
def rQ (K:Dd):List V->Hp->VK->Prop:=λvs H Q=>∃ (q:Du) (ns:List Int),vs=[.ref q]/\bj K H q (ns.map V.int)/\ns.length<64 /\
 ∀ (L:Du) (ns':List Int),H L=none->ns'.Pairwise (·<=·)->ns'.Perm ns->Q (.ref L) (upd H L (.lst (ns'.map V.int)))
theorem oQ:br X (.builtin "sorted") (rQ X.K):=by
 intro pins s σ H vs us Q I r h;obtain⟨q,ns,rfl,hq,hl,k⟩:=h;cases r with
 |cons ru rt=>
 cases rt;cases ru;obtain⟨its,rv,⟨o,n,po,pc,pd,pdat⟩,hsz⟩:=I.list hq;have hln:its.length=ns.length:=by have:=aJ.length rv;simpa using this.symm
 refine sorted_ints (vs:=its) (ns:=ns) ⟨o,po,pc,n,pdat⟩ (mf rv) (by omega) λout ns' a1 a2 a3=>?_
 have hz:((s.heap.push (K5 "list" #[] 0)).update s.heap.objs.size (GY (·++its.toArray))).objs.size=s.heap.objs.size+1:=by rw[Heap.size_update,size_push']
 have hoL:(((s.heap.push (K5 "list" #[] 0)).update s.heap.objs.size (GY (·++its.toArray))).push (K5 "list" its.toArray 0)).get? (s.heap.objs.size+1)=some (K5 "list" its.toArray 0):=by
  rw[<- hz];exact Dl _ rfl
 have up:∀ b o,s.heap.get? b=some o->(sortedAll s.heap its out).get? b=some o:=λb o e=>by
  have lb:=Dj e;unfold sortedAll;refine dZ (FB (GW lb)) (Df _ ?_);rw[DV _ _ (FB lb)];exact Df _ e
 obtain⟨m,hm⟩:=ff (out:=out) hoL;have lL:s.heap.objs.size<=s.heap.objs.size+1:=Lj _;have fL:=I.hok.fresh lL;have FL:=I.fpOk lL fL;have J0:av X pins σ H { s with heap:=sortedAll s.heap its out }:=I.kept (t':=s.toks) up;have ln:ns'.length=ns.length:=a2.length_eq;have J1:=f9 (o:=.lst (ns'.map V.int)) J0 fL (Dt I.sz lL) FL.2.1 FL.2.2.2.2.1 FL.2.2.2.2.2 ⟨by rw[Dh,EZ];omega,out.toList,m,eG a1,hm⟩;exact⟨.ref (s.heap.objs.size+1),_,J1,rfl,k _ ns' fL a3 a2⟩
theorem tZ (e:X.K=K):br X (.builtin "sorted") (rQ K):=by subst e;exact oQ
end
theorem je {g:TG}{tt:TT}{te:TE}{σ0:L2.St}{Fin:List V->Hp->Prop}{H1:Hp}{lo:Int}{t r:Du}{n:Nat}{m:Int} (tw:bv H1 t r) (hl:n <= 1000)
  (he:∀ (i:Nat) (H:Hp),i<n->bv H t r->Mv [t,r] H1 H->jm g tt te σ0 (.int (lo+i)) H λy H'=>∃ k:Int,y=.int k/\0<=k/\k<=m/\bv H' t r/\Mv [t,r] H H')
  (hd:∀ (ks:List Int) (H:Hp),ks.length=n->(∀ k∈ks,0<=k/\k<=m)->bv H t r->Mv [t,r] H1 H->Fin (ks.map V.int) H):fb (vn lo n) g tt te σ0 Fin H1:=by
 refine gU (λi ys H=>bv H t r/\Mv [t,r] H1 H/\∃ ks:List Int,ks.length=i/\(∀ k∈ks,0<=k/\k<=m)/\ys=ks.map V.int) ⟨tw,Mv.refl,[],rfl,λ_ h=>(Ef h).elim,rfl⟩ hl (λi ys H hi p=>?_) (λi ys H hi p=>?_) (λys H p=>?_)
 ·obtain⟨_,_,ks,e,_,rfl⟩:=p;rw[Dh,e];exact Dn _
 ·obtain⟨tw2,mv2,ks,e,hk,rfl⟩:=p;intro R kk S;refine he i H hi tw2 mv2 R (λy H' hy=>?_) S;obtain⟨k,rfl,k0,k1,qX,mv3⟩:=hy;refine kk _ _ ⟨qX,mv2.trans mv3,ks++[k],by simp[e],λx hx=>?_,by simp⟩;rcases Ek.mp hx with h|h
  ·exact hk x h
  ·rw[DC] at h;subst h;exact⟨k0,k1⟩
 ·obtain⟨tw2,mv2,ks,e,hk,rfl⟩:=p;exact hd ks H e hk tw2 mv2
theorem xP (ps:List Pt):gG (ps.map j6)=true:=by
 induction ps with
 |nil=>rfl
 |cons p ps ih=>rw[DP];simp only[gG,Dw];exact⟨rfl,ih⟩
theorem rM {K:Dd}{H:Hp}:∀ {ns:List Int}{ys:List V},aw K H (ns.map Eo) ys->ys=ns.map V.int
 |[],_,.nil=>rfl
 |_::_,_,.cons (.int _) q=>by rw[rM q];rfl
theorem vf (xs:List V)(n:Nat)(h:1<=n):oz xs none (some ((n:Int)-1))=xs.take (n-1):=by
 unfold oz;have e:((n:Int)-1)=((n-1:Nat):Int):=by omega
 rw[e,HT.sIx_none,HT.sIx_nat,List.drop_zero,Nat.sub_zero];apply LP;intro i;rw[Jd,Jd]
 by_cases h1:i<n-1
 ·by_cases h2:i<xs.length
  ·rw[Ee (by omega),Ee h1]
  ·rw[DS (by omega),Ee h1,List.getElem?_eq_none (by omega)]
 ·rw[DS (by omega),DS h1]
structure Pl (last:Int)(ns:List Int):Prop where
 up:ns.Pairwise (·<·)
 z:ns[0]?=some 0
 l:ns.getLast?=some last
 inn:∀ x∈ns,0<=x/\x<=last
 two:2<=ns.length
 few:ns.length<=12
theorem ki {R:Int->Int->Prop}{ns:List Int}(h:ns.Pairwise R){i j:Nat}{a b:Int}(hij:i<j)(ea:ns[i]?=some a)(eb:ns[j]?=some b):R a b:=by
 obtain⟨hi,rfl⟩:=DH.mp ea;obtain⟨hj,rfl⟩:=DH.mp eb;exact Hd.mp h i j hi hj hij
theorem o_ {ns:List Int}{a:Int}(h:ns.getLast?=some a):ns[ns.length-1]?=some a:=by
 rw[E8] at h;exact h
theorem Aj {last:Int}{ns:List Int}(h1:1<=last)(up:ns.Pairwise (·<·))(m0:0∈ns)(ml:last∈ns)(inn:∀ x∈ns,0<=x/\x<=last)(few:ns.length<=12):Pl last ns:=by
 obtain⟨i,hi,ei⟩:=ER m0;obtain⟨j,hj,ej⟩:=ER ml;have ei':ns[i]?=some 0:=by rw[DB hi,ei]
 have ej':ns[j]?=some last:=by rw[DB hj,ej]
 have i0:i=0:=by
  by_cases h:i=0
  ·exact h
  ·have h0:ns[0]?=some ns[0]:=DB (by omega);have a:=ki up (by omega) h0 ei';have b:=(inn ns[0] (FU _)).1;omega
 have jl:j=ns.length-1:=by
  by_cases h:j=ns.length-1
  ·exact h
  ·have hl:ns[ns.length-1]?=some ns[ns.length-1]:=DB (by omega);have a:=ki up (by omega) ej' hl;have b:=(inn ns[ns.length-1] (FU _)).2;omega
 have ne:i≠j:=λe=>by subst e;rw[ei'] at ej';injection ej';omega
 subst i0;refine⟨up,ei',by rw[E8,<- jl];exact ej',inn,by omega,few⟩
theorem zt {last:Int}{ns:List Int}{m:Nat}(h:Pl last ns)(m1:1<m)(m2:m<=ns.length):Pl last (ns.take (m-1)++[last])/\(ns.take (m-1)++[last]).length=m:=by
 have len:(ns.take (m-1)++[last]).length=m:=by rw[EF,Ei];simp;omega
 refine⟨⟨?_,?_,by simp,?_,by omega,by have:=h.few;omega⟩,len⟩
 ·refine KZ.mpr ⟨h.up.sublist (JC _ _),List.pairwise_singleton _ _,λa ha b hb=>?_⟩;rw[DC] at hb;subst hb;obtain⟨i,hi,rfl⟩:=ER ha;rw[Ei] at hi;rw[JB];exact ki h.up (i:=i) (j:=ns.length-1) (by omega) (DB (by omega)) (o_ h.l)
 ·rw[G_ (by rw[Ei];omega),Jd,Ee (by omega)];exact h.z
 ·intro x hx;rcases Ek.mp hx with q|q
  ·exact h.inn x (List.mem_of_mem_take q)
  ·rw[DC] at q;subst q;exact h.inn _ (G6 h.l)
theorem yF {last:Int}(h:1<=last):Pl last [0,last]:=⟨by simp;omega,rfl,rfl,λx hx=>by simp at hx;omega,by simp,by simp⟩
theorem qx {last:Int}{ns vs:List Int}(h:Pl last ns)(l1:last<=1000)(hv:vs.Pairwise (·<=·))(iv:∀ x∈vs,0<=x/\x<=1000)(hl:vs.length=ns.length):vS (ns.zip vs)/\∃ z,(ns.zip vs).getLast?=some z/\z.1=last:=by
 have len:(ns.zip vs).length=ns.length:=by rw[IK];omega
 have two:=h.two;have few:=h.few;refine⟨⟨by omega,by omega,λp hp=>?_,λp hp=>?_,λi p q e1 e2=>?_⟩,?_⟩
 ·have:=(Ea.mp hp).1;rw[h.z] at this;injection this with e
  exact e.symm
 ·obtain⟨a,b⟩:=Ga (a:=p.1) (b:=p.2) hp;have:=h.inn _ a;have:=iv _ b;exact⟨by omega,by omega,by omega,by omega⟩
 ·obtain⟨a1,b1⟩:=Ea.mp e1;obtain⟨a2,b2⟩:=Ea.mp e2;exact⟨ki h.up (FG i) a1 a2,ki hv (FG i) b1 b2⟩
 ·have e:=o_ h.l;have hb:ns.length-1<vs.length:=by omega
  refine⟨(last,vs[ns.length-1]),?_,rfl⟩;rw[E8,len];exact Ea.mpr ⟨e,DB hb⟩
theorem pJ {K:Dd}{H:Hp}:∀ {ns:List Int}{xs:List V},aw K H (ns.map Eo) xs->xs=ns.map V.int
 |[],xs,h=>by cases h;rfl
 |n::ns,xs,h=>by
  cases h with
  |cons h1 h2=>
   cases h1;rw[pJ h2];rfl
def ov (B:Int)(r:Rat):Int:=r.num*(B/(r.den:Int))
structure K2 (K:Dd)(ps:List Pt)(H:Hp)(t r:Du)(v:V):Prop where
 tw:bv H t r
 cv:bX K (cut [t,r] H) ps v
theorem K2.mv {K:Dd}{ps:List Pt}{H H':Hp}{t r:Du}{v:V}(h:K2 K ps H t r v)(m:Mv [t,r] H H')(tw:bv H' t r):K2 K ps H' t r v:=⟨tw,bX.same m.cut h.cv⟩
theorem K2.same {K:Dd}{ps:List Pt}{H H':Hp}{t r:Du}{v:V}(h:K2 K ps H t r v)(s:ae H H'):K2 K ps H' t r v:=h.mv (Mv.of s) (h.tw.same s)
theorem K2.c {K:Dd}{ps:List Pt}{H:Hp}{t r:Du}{v:V}(h:K2 K ps H t r v):bX K H ps v:=bX.same n_ h.cv
theorem K2.x {K:Dd}{ps:List Pt}{H:Hp}{t r v:Du}(h:K2 K ps H t r (.ref v)):∃ C dx l,bf K "Curve" C/\H v=some (.ins C dx [("points",.ref l)]):=by
 obtain⟨a',C',dx',l',e,h1,h2,h3⟩:=h.c;cases e;exact⟨C',dx',l',h1,h2⟩
def HB (k:Nat)(d:DZ):Prop:=∀ ds,d=.tuple ds->ds.length<=1000/\∀ q,rD q∈ds->Bq k q
theorem u6 {l m:Int}(h:mY l m d=true):∃ n:Int,d=.int n/\l<=n/\n<=m:=by
 cases d with
 |int n=>
  have h:(decide (l<=n)&&decide (n<=m))=true:=h;rw[Dw,EN,EN] at h;exact⟨n,rfl,h.1,h.2⟩
 |_=>cases h
def Ac:DZ->Pt
 |.tuple [.int a,.int b]=>(a,b)
 |_=>(0,0)
theorem wL (p:Pt):Ac (j6 p)=p:=rfl
def CB (ps:List Pt):Bool:=((ps.zip (ps.drop 1)).map λz=>decide (z.1.1<z.2.1)&&decide (z.1.2<=z.2.2)).all id
def rN (ps:List Pt):Bool:=decide ((ps.getD 0 (0,0)).1=0)
def ud:DZ->Bool
 |.list ds=>decide (2<=ds.length)&&(decide (ds.length<=12)&&((ds.map (li 2 0 1000)).all id&&(rN (ds.map Ac)&&CB (ds.map Ac))))
 |_=>false
theorem Cw (h:li 2 0 1000 d=true):∃ p:Pt,d=j6 p/\p.In:=by
 cases d with
 |tuple ds=>
  have h:(decide ((ds.length:Int)=2)&&(ds.map (mY 0 1000)).all id)=true:=h;rw[Dw,EN] at h;obtain⟨hl,h⟩:=h
  match ds,hl,h with
  |[x,y],_,h=>
   have h:(mY 0 1000 x&&(mY 0 1000 y&&true))=true:=h;simp only[Dw,Hx] at h;obtain⟨h1,h2⟩:=h;obtain⟨n,rfl,n0,n1⟩:=u6 h1;obtain⟨m,rfl,m0,m1⟩:=u6 h2;exact⟨(n,m),rfl,n0,n1,m0,m1⟩
 |_=>cases h
theorem Aq:∀ {ds:List DZ},(ds.map (li 2 0 1000)).all id=true->∃ ps:List Pt,ds=ps.map j6/\∀ p∈ps,p.In
 |[],_=>⟨[],rfl,λ_ h=>by cases h⟩
 |d::ds,h=>by
  have h:(li 2 0 1000 d&&(ds.map (li 2 0 1000)).all id)=true:=h;rw[Dw] at h;obtain⟨p,rfl,ip⟩:=Cw h.1;obtain⟨ps,rfl,is⟩:=Aq h.2;refine⟨p::ps,rfl,λr hr=>?_⟩;rcases Dx.mp hr with rfl|hr
  ·exact ip
  ·exact is r hr
theorem BX (ps:List Pt):(ps.map j6).map Ac=ps:=by
 rw[Gk];exact(Lh (λp _=>wL p)).trans (List.map_id ps)
theorem xH (h:∀ ds,d≠.list ds):ud d=false:=by
 cases d<;>first|rfl|exact absurd rfl (h _)
def CZ (K:Dd)(H:Hp)(ps qs:List Pt)(v:V):Prop:=∃ (a C dx f s:Du),v=.ref a/\bf K "JoinedCurve" C/\H a=some (.ins C dx [("first",.ref f),("second",.ref s)])/\bX K H ps (.ref f)/\bX K H qs (.ref s)
def qh (K:Dd)(y x:Str):Bool:=(fe K y).any λD=>(fe K x).any λC=>E5 K (.ref D) (.ref C)==some false
def AG (K:Dd)(x y:Str):List V->Hp->VK->Prop:=λxs H Q=>∃ v C,xs=[v,.ref C]/\bf K x C/\((∃ a dx fs,v=.ref a/\H a=some (.ins C dx fs)/\Q (.bl true) H)\/(∃ T,Ty K H v T/\T∈iz/\Q (.bl false) H)\/∃ a D dx fs,v=.ref a/\bf K y D/\H a=some (.ins D dx fs)/\Q (.bl false) H)
theorem qf {X:Cx}{K:Dd}{x y:Str}{fs0 fs1:List Str}(hK:X.K=K)(hc:dF K x fs0=true)(hi:vU K x=true)(hc':dF K y fs1=true)(hi':vU K y=true)(hn:qh K y x=true):br X (.builtin "isinstance") (AG K x y):=by
 subst hK;intro pins s σ H xs us Q I r h;obtain⟨v,C,rfl,hC,h⟩:=h;rcases h with h|h|⟨a,D',dx,fs,rfl,hD',ha,h⟩
 ·exact rz rfl hc hi pins s σ H _ us Q I r ⟨v,C,rfl,hC,.inl h⟩
 ·exact rz rfl hc hi pins s σ H _ us Q I r ⟨v,C,rfl,hC,.inr h⟩
 obtain⟨u,w,rfl,rx,rw'⟩:=iB r;cases(show w=DQ C from rw');obtain⟨D,cf⟩:=gT hc';cases bu hD' cf.at_;obtain⟨E,e,q⟩:=bC hi';rw[bN hD'] at e;cases e;simp only[Dw,EV,DU] at q;obtain⟨⟨⟨⟨q1,q2⟩,q3⟩,q4⟩,q5⟩:=q;obtain⟨E1,e1,n1⟩:=bC hn;rw[bN hD'] at e1;cases e1;obtain⟨E2,e2,n2⟩:=bC n1;rw[bN hC] at e2;cases e2;exact eE I rx (.ins ha cf.cls q1 q2 q3 q4) (EV.mp n2) λtk=>⟨.bl false,H,I.tok tk,rfl,h⟩
theorem f_ {H:Hp}{a b C dx:Du}{fs:List (Str×V)}{o:HO}(ha:H a=some (.ins C dx fs))(hb:H b=some o)(hn:o≠.ins C dx fs):b≠a:=λz=>by
 rw[z,ha] at hb;exact hn (Dm hb).symm
theorem mI {K:Dd}{H:Hp}{a C dx:Du}{fs:List (Str×V)}{o:HO}(ha:H a=some (.ins C dx fs)):∀ {ps:List Pt}{xs:List V},aw K H (ps.map j6) xs->aw K (upd H a o) (ps.map j6) xs
 |[],_,.nil=>.nil
 |p::ps,_,.cons h t=>by
  refine .cons ?_ (mI ha t);obtain⟨pa,rfl,hpa⟩:=eN (n:=p.1) (d:=p.2) h;exact rK (by rw[ap (f_ ha hpa (λz=>nomatch z))];exact hpa)
theorem bX.put {K:Dd}{H:Hp}{a C dx:Du}{fs:List (Str×V)}{o:HO}(ha:H a=some (.ins C dx fs))(hf:∀ l:Du,fs≠[(("points":Str),V.ref l)]){ps:List Pt}{v:V}(h:bX K H ps v):bX K (upd H a o) ps v:=by
 obtain⟨b,Cb,dxb,l,rfl,hC,hH,hd⟩:=h;have nb:b≠a:=f_ ha hH (λz=>by cases z;exact hf l rfl);refine⟨b,Cb,dxb,l,rfl,hC,by rw[ap nb];exact hH,?_⟩;cases hd with
 |lst h q=>
  rcases h with h|h
  ·exact .lst (.inl (by rw[ap (f_ ha h (λz=>nomatch z))];exact h)) (mI ha q)
  ·obtain⟨o',h⟩:=h;exact .lst (.inr ⟨o',by rw[ap (f_ ha h (λz=>nomatch z))];exact h⟩) (mI ha q)
theorem rA (h:a∉T):cut T (upd H a o)=upd (cut T H) a o:=by
 funext b
 by_cases e:b=a
 ·subst e;rw[hV h,ac,ac]
 ·rw[ap e];unfold cut
  split
  ·rfl
  ·rw[ap e]
def iZ (elt:Fs)(gens:List Hy)(scope:He)(pos:Pos)(acc:Di)(env:Env)(d:Nat):Sem Unit:=match gens[d+1]? with
 |some g'=>do
  let x <- GI g'.iter env
  L4 g'.iter.pos
  let x <- if g'.is_async != 0 then foldedIterable g'.iter x else E6 g'.iter env x
  let _ <- runOwn (.compStart (.ListComp elt gens scope pos) (d+1) (<- holding [x] (if g'.is_async != 0 then asyncIter x else LH x)) acc env) env
 |none=>do let _ <- call (.builtin "list.append") [acc,<- GI elt env]
theorem pq {d:Nat} (h:gens[d]?=some ⟨target,iter,ifs,0⟩) :
  compTurn (.ListComp elt gens scope pos) d it acc env=(do
   L4 iter.pos
   match <- HR it with
   |none=>pure (.done .next)
   |some v=>
    Gh target it v
    assign target env v
    let mut ok:=true
    for c in ifs do
     if ok then ok <- isTrue c env (GI c env)
    if ok then
     iZ elt gens scope pos acc env d
    again (.compLoop (.ListComp elt gens scope pos) d it acc env)):=by
 unfold compTurn iZ;dsimp only;rw[h];cases hg:gens[d+1]? with
 |none=>rfl
 |some g'=>
  dsimp only;have z0:((0:Nat) != 0)=false:=rfl
  by_cases hz:(g'.is_async != 0)=true
  ·simp only[hz,z0,bind_assoc,GQ,EO,GG];rfl
  ·have hz:(g'.is_async != 0)=false:=by simpa using hz
   simp only[hz,z0,bind_assoc,GQ,EO,GG];rfl
theorem jr {d:Nat} (hd:gens[d]?=some ⟨target,iter,ifs,0⟩) (I:Nat->Dk->Prop)
  (fW:∀ n s,I n s->Dy (DK prog w) A (HR it) (λr s₁=>match r with
   |none=>R (.ok .next) s₁
   | some v=>Dy (DK prog w) A (Gh target it v) (fun _ s₁'=>Dy (DK prog w) A (assign target env v) (fun _ s₂=>
     Dy (DK prog w) A (forIn ifs true λc r=>if r=true then do let ok <- isTrue c env (GI c env);pure (FO ok) else pure (FO r)) (λok s₃=>
      if ok=true then Dy (DK prog w) A (iZ elt gens scope pos acc env d) (λ_ s₅=>∃ m,m<n/\I m s₅) (λ_ _=>False) s₃
      else ∃ m,m<n/\I m s₃) (λ_ _=>False) s₂) (λ_ _=>False) s₁') (λ_ _=>False) s₁) (λ_ _=>False) s)
  (n:Nat)(h:I n s):Gq (DK prog w) A (.compLoop (.ListComp elt gens scope pos) d it acc env) R s:=by
 refine codeAny_loop rfl I (λn s hI=>?_) n h;show Dy _ A ((compTurn (.ListComp elt gens scope pos) d it acc env).onRaise (λx=>do IV x env;theTreesLotGoes x)) _ _ s;refine wpAny_noted ?_;rw[pq hd];refine De (Fl (De (DW (fW n s hI) (λr s₁ h₁=>?_) λ_ _ z=>z.elim)));cases r with
 |none=>exact Dg h₁
 |some v=>
  refine De (DW h₁ (λ_ s₁' h₁'=>?_) λ_ _ z=>z.elim);refine De (DW h₁' (λ_ s₂ h₂=>De (DW h₂ (λok s₃ h₃=>?_) λ_ _ z=>z.elim)) λ_ _ z=>z.elim);cases ok with
  |false=>exact Dg ⟨rfl,h₃⟩
  |true=>exact De (DW h₃ (λ_ s₅ h₅=>Dg ⟨rfl,h₅⟩) λ_ _ z=>z.elim)
theorem mR {d:Nat} (hd:gens[d]?=some ⟨target,iter,ifs,0⟩)
  (h0:Gq (DK prog w) A (.compLoop (.ListComp elt gens scope pos) d it acc env) R s)
  (h:Dy (DK prog w) A (LH it) (λit' s'=>Gq (DK prog w) A (.compLoop (.ListComp elt gens scope pos) d it' acc env) R s')
   (notedBy (DK prog w) A env λx s'=>R (.error x) s') s) :
  Gq (DK prog w) A (.compStart (.ListComp elt gens scope pos) d it acc env) R s:=by
 refine KJ ?_;show Dy _ _ ((compStart (.ListComp elt gens scope pos) d it acc env).onRaise (λx=>do IV x env;L4 theWindowsPlace)) _ _ s;refine wpAny_notedAt ?_;have hd':(clausesOf (.ListComp elt gens scope pos))[d]?=some ⟨target,iter,ifs,0⟩:=hd;unfold compStart;rw[hd'];show Dy _ _ (ask>>=_) _ _ s;refine De (Hk (wpAny_ite ?_))
 split
 ·first
   |exact De (Dg (Dg (Mq rfl h0)))
   |exact Dg (Mq rfl h0)
 ·first
   |exact De (Hw (De (Fl (De (DW h (λit' s' h'=>Dg (Mq rfl h')) λ_ _ x=>x)))))
   |(refine De (Hw ?_);show Dy _ _ (L4 iter.pos>>=_) _ _ s;exact De (Fl (De (DW h (λit' s' h'=>Dg (Mq rfl h')) λ_ _ x=>x))))
abbrev TB:=L2.St->Hp->List V->(L2.St->Hp->List V->Prop)->Prop
def vC (its:List Di)(n:Nat):Obj:={ cls:=.type "list",data:=.seq its.toArray n }
def Ch (X:Cx)(pins:List (Du×Obj))(D:Du):Prop:=
 D≠X.env.locals/\(D∈X.ex\/X.s₀.heap.objs.size<=D)/\(∀ x c,X.env.cells.lookup x=some c->c≠D)/\∀ p∈X.pn++pins,p.1≠D
def PB (X:Cx)(elt:Fs)(gens:List Hy)(scope:He)(pos:Pos)(d:Nat)(t:TB):Prop:=
 ∀ (D:Du) (pins:List (Du×Obj)) (s:Dk) (σ:L2.St) (H:Hp) (ys:List V) (its:List Di) (n:Nat) (Q:L2.St->Hp->List V->Prop),av X ((D,vC its n)::pins) σ H s->Ch X pins D->aJ ys its->t σ H ys Q ->
  Dy (DK X.prog X.w) X.A (iZ elt gens scope pos (.ref D) X.env d) (λ_ s'=>∃ σ' H' ys' its' n',av X ((D,vC its' n')::pins) σ' H' s'/\aJ ys' its'/\Q σ' H' ys') (λ_ _=>False) s
structure WB (X:Cx)(elt:Fs)(gens:List Hy)(scope:He)(pos:Pos)(d:Nat)(t:TB):Prop where
 go:PB X elt gens scope pos d t
section
variable {X:Cx}{elt:Fs}{gens:List Hy}{scope:He}{pos:Pos}{d:Nat}
def rq (te:TE):TB:=λσ H ys Q=>ys.length<Ds/\te σ H λy H'=>Q σ H' (ys++[y])
theorem rj (hx:X.xe=λ_ _=>False)(hd:gens[d+1]?=none)(he:PE X elt te):PB X elt gens scope pos d (rq te):=by
 intro D pins s σ H ys its n Q I hD rv h;obtain⟨hz,h⟩:=h;unfold iZ;rw[hd];dsimp only;have he':=he _ s σ H _ I h;rw[hx] at he';refine De (bo he' λy s8 h8=>?_);obtain⟨yv,H8,I8,r8,q8⟩:=h8;have pD:=I8.pin (D,vC its n) (Dq _ DL);have hsz:its.toArray.size<=Ds:=by
  have:=rv.length;rw[DJ,<- this];exact Gm hz
 refine De (append_at (hsz:=hsz) pD.1 λh9 hs9 hD9=>Dg ?_);have J8:av X pins σ H8 s8:=I8.pins_of λp hp=>I8.pin p (Dq _ (Do _ hp))
 have J9:av X pins σ H8 { s8 with heap:=h9 }:=J8.turned (it:=D) (t':=s8.toks) (λb o hb e=>hs9.extBut b o hb e) pD.2.1 hD.1 hD.2.1 hD.2.2.1 hD.2.2.2;refine⟨σ,H8,ys++[yv],its++[y],n+1,J9.pins_of λp hp=>?_,rv.append (.cons r8 .nil),q8⟩;rcases Dx.mp hp with rfl|hp
 ·have e9:({ cls:=.type "list",data:=.seq (its.toArray.push y) (n+1) }:Obj)=vC (its++[y]) (n+1):=by unfold vC;rw[List.push_toArray]
  exact⟨by rw[<- e9];exact hD9,pD.2.1,pD.2.2.1,pD.2.2.2.1,λv z=>nomatch z⟩
 ·exact J9.pin p (Dq _ hp)
def AF (wi:TI)(g:TG)(tt:TT)(tb:TB):TB:=λσ H ys Q=>wi σ H λJ H1=>∃ W:Nat->Nat->L2.St->Hp->List V->Prop,(∃ m,W 0 m σ H1 ys)/\∀ i m σ2 H2 ys2,W i m σ2 H2 ys2 ->
 (J.stop i H2/\Q σ2 H2 ys2) \/
 (J.go i H2/\∀ x H3,J.yld i H2 x H3->g x σ2 H3 λσ3 H4=>tt σ3 H4 λb H5=>if b=true then tb σ3 H5 ys2 λσ' H' ys'=>∃ m',m'<m/\W (i+1) m' σ' H' ys' else ∃ m',m'<m/\W (i+1) m' σ3 H5 ys2)
theorem og (hx:X.xe=fun _ _=>False) (hc:X.calm=true) (hd:gens[d + 1]?=some ⟨tg,iter,ifs,0⟩) (hi:WI X tg iter wi) (hg:WG X tg g) (ht:yc X ifs tt) (hb:WB X elt gens scope pos (d + 1) tb)
  (hs:∀ x,E6 iter X.env x=pure x:=by intro _;rfl):WB X elt gens scope pos d (AF wi g tt tb):=by
 have hi:=hi.go;have hg:=hg.go;have ht:=ht.go;have hb:=hb.go;refine ⟨?_⟩;intro D pins s σ H ys its n Q I hD rv h;unfold iZ;rw [hd];dsimp only;have hi':=hi _ s σ H _ I h;rw [hx] at hi';refine De (bo hi' fun v s1 h1=>?_);refine De (Fl ?_);show Dy _ _ (E6 iter X.env v >>= fun x=>holding [x] (LH x) >>= fun it=>runOwn (.compStart (.ListComp elt gens scope pos) (d + 1) it (.ref D) X.env) X.env >>= fun _=>pure ()) _ _ s1;rw [hs];refine De (Dg (De (Em (bo h1 fun itv s2 h2=>?_))));obtain ⟨it,fp,tn,J,H2,rfl,I2,T,st2,f2,W,⟨m0,w0⟩,fW⟩:=h2;refine De (wpAny_runOwn ?_);have loop:Gq (DK X.prog X.w) X.A (.compLoop (.ListComp elt gens scope pos) (d + 1) (.ref it) (.ref D) X.env) (fun r s'=>match r with
   |.ok _=>Dy (DK X.prog X.w) X.A (pure ()) (λ_ s'=>∃ σ' H' ys' its' n',av X ((D,vC its' n')::pins) σ' H' s'/\aJ ys' its'/\Q σ' H' ys') (λ_ _=>False) s'
   |.error e=>cameBackBy (DK X.prog X.w) X.A X.env (λ_ _=>False) e s') s2:=by
  refine jr hd (λk s'=>∃ i σ' H' ys' its' n',av X ((D,vC its' n')::pins) σ' H' s'/\tn i s'.heap/\(∀ b∈fp,H' b=none)/\aJ ys' its'/\W i k σ' H' ys') ?_ m0
   ⟨0,σ,H2,ys,its,n,I2,st2,λb hb=>(f2 b hb).1,rv,w0⟩
  rintro k s' ⟨i,σ',H',ys',its',n',I',tn',fr',rv',w'⟩;have fpOk:∀ {H':Hp}{o:Obj},(∀ b∈fp,H' b=none)->∀ b∈fp,eV X ((D,o)::pins) H' b:=λ{H' o} hn b hb=>by
   obtain⟨_,g1,g2,g3,g4,g5⟩:=f2 b hb;refine⟨hn b hb,g1,g2,g3,g4,λp hp=>?_⟩;rcases Ek.mp hp with hp|hp
   ·exact g5 p (E7 _ hp)
   ·rcases Dx.mp hp with rfl|hp
    ·exact g5 (D,vC its n) (Dq _ DL)
    ·exact g5 p (Dq _ (Do _ hp))
  rcases fW i k σ' H' ys' w' with ⟨stop,fin⟩|⟨go,step⟩
  ·refine DW (T.done X rfl rfl rfl hc i _ s' σ' H' (λ_ _=>False) I' (fpOk fr') tn' stop) (λr s1 hr=>?_) λ_ _ z=>z
   obtain⟨rfl,I1⟩:=hr;exact Dg ⟨σ',H',ys',its',n',I1,rv',fin⟩
  ·refine DW (T.item X rfl rfl rfl hc i _ s' σ' H' (λ_ _=>False) I' (fpOk fr') tn' go) (λr s4 hr=>?_) λ_ _ z=>z
   obtain⟨u,rfl,h4⟩:=hr;refine DW h4 (λ_ s5 h5=>?_) λ_ _ z=>z
   obtain⟨x,H5,I5,r5,y5,tn5,fr5⟩:=h5;have I5':=I5.pinned (fpOk fr5) (T.obj _ _ tn5);have hg':=hg _ s5 σ' H5 x u _ I5' r5 (step x H5 y5);rw[hx] at hg';refine bo hg' λ_ s6 h6=>?_
   obtain⟨σ6,H6,I6,q6⟩:=h6;have ht':=ht _ s6 σ6 H6 _ I6 q6;rw[hx] at ht';refine bo ht' λok s7 h7=>?_
   obtain⟨H7,I7,q7⟩:=h7;have weak:∀ {s8:Dk}{σ8:L2.St}{H8:Hp}{its8:List Di}{n8:Nat},av X ((D,vC its8 n8)::(pins++du fp s5.heap)) σ8 H8 s8->av X ((D,vC its8 n8)::pins) σ8 H8 s8/\tn (i+1) s8.heap/\∀ b∈fp,H8 b=none:=λ{s8 σ8 H8 its8 n8} I8=>by
    refine⟨I8.pins_of λp hp=>I8.pin p (Dq _ ?_),T.keep _ _ _ tn5 λb hb o e=>(I8.pin (b,o) (Dq _ (Do _ (Dq _ (bS hb e))))).1,λb hb=>?_⟩
    ·rcases Dx.mp hp with rfl|hp
     ·exact DL
     ·exact Do _ (E7 _ hp)
    ·obtain⟨o,e,_⟩:=T.obj _ _ tn5 b hb;exact(I8.pin (b,o) (Dq _ (Do _ (Dq _ (bS hb e))))).2.1
   cases ok with
   |false=>
    obtain⟨m',hm,w8⟩:=q7;obtain⟨a,b,c⟩:=weak I7;exact⟨m',hm,i+1,σ6,H7,ys',its',n',a,b,c,rv',w8⟩
   |true=>
    have D7:Ch X (pins++du fp s5.heap) D:=⟨hD.1,hD.2.1,hD.2.2.1,λp hp=>by
     rcases Ek.mp hp with hp|hp
     ·exact hD.2.2.2 p (E7 _ hp)
     ·rcases Ek.mp hp with hp|hp
      ·exact hD.2.2.2 p (Dq _ hp)
      ·exact λz=>(f2 _ (i8 hp).1).2.2.2.2.2 (D,vC its n) (Dq _ DL) z.symm⟩
    refine DW (hb D _ s7 σ6 H7 ys' its' n' _ I7 D7 rv' q7) (λ_ s8 h8=>?_) λ_ _ z=>z
    obtain⟨σ8,H8,ys8,its8,n8,I8,rv8,m',hm,w8⟩:=h8;obtain⟨a,b,c⟩:=weak I8;exact⟨m',hm,i+1,σ8,H8,ys8,its8,n8,a,b,c,rv8,w8⟩
 exact mR hd loop (T.self _ 0 _ _ _ st2 loop)
end
def p_ (J:It)(g:TG)(tt:TT)(tb:TB)(σ0:L2.St)(Fin:List V->Hp->Prop)(H1:Hp):Prop:=∃ W:Nat->Nat->List V->Hp->Prop,(∃ m,W 0 m [] H1)/\∀ i m ys H2,W i m ys H2 ->
 (J.stop i H2/\ys.length<=Ds/\Fin ys H2) \/
 (J.go i H2/\∀ x H3,J.yld i H2 x H3->g x σ0 H3 λσ' H4=>tt σ' H4 λb H5=>if b=true then tb σ' H5 ys λ_ H6 ys'=>∃ m',m'<m/\W (i+1) m' ys' H6 else ∃ m',m'<m/\W (i+1) m' ys H5)
section
variable {X:Cx}{pins:List (Du×Obj)}{σ:L2.St}{H H2:Hp}{s s2:Dk}
theorem jn {N:List Str}{scope:He}{elt tg iter:Fs}{ifs:List Fs}{cD:List Hy}{pos:Pos}{it:Du}{fp:List Du}{tn:Nat->Fp->Prop}{J:It}{g:TG}{tt:TT}{tb:TB}{σ0:L2.St}{Fin:List V->Hp->Prop}
  {E:Di->Dk->Prop}{RR:Di->Du->Result->Dk->Prop}(hc:X.calm=true)(I:av X pins σ H2 s2)(S:kr X scope)
  (hcap:gN X scope N σ σ0)(hlen:σ0.length=N.length)(f2:∀ b∈fp,eV X pins H2 b)(T:lB X.prog X.w X.K tg J fp it tn)(st2:tn 0 s2.heap)
  (hg:∀ C,PG (aF X N scope (ay X scope C) C s2 H2 fp pins) tg g)(ht:∀ C,Bp (aF X N scope (ay X scope C) C s2 H2 fp pins) ifs tt)(he:∀ C,PB (aF X N scope (ay X scope C) C s2 H2 fp pins) elt (⟨tg,iter,ifs,0⟩::cD) scope pos 0 tb)(hw:p_ J g tt tb σ0 Fin H2)
  (hRR:∀ (D C:Du) (s':Dk) (H':Hp) (ys:List V),av X pins σ (upd H' D (.lst ys)) s'->H' D=none->Fin ys H'->(∃ m,s'.heap.Ns C m)->H' C=none->D≠C->s2.heap.objs.size<=C->RR (.ref D) C (.ok .next) s'):
  Dy (DK X.prog X.w) X.A (newList []) (λacc s₃=>Dy (DK X.prog X.w) X.A (Ig scope X.env.globals (rV X.env.cells scope.names []) [] X.env.qual none .none (some X.env)) (λcenv s₄=>
   Gq (DK X.prog X.w) X.A (.compStart (.ListComp elt (⟨tg,iter,ifs,0⟩::cD) scope pos) 0 (.ref it) acc { cenv with scope:=relabel scope X.env }) (RR acc cenv.locals) s₄) E s₃) E s2:=by
 obtain⟨W,⟨m0,w0⟩,fW⟩:=hw;refine Es (pC λh1 hns1 own1 kk1=>?_);dsimp only at hns1 own1 kk1 ⊢;generalize hG:s2.heap.push { cls:=.type "list",dict:=none,data:=.seq ([]:List Di).toArray }=G at hns1 own1 kk1 ⊢;have hC:G.objs.size=s2.heap.objs.size+1:=by rw[<- hG,EA]
 have hDC:s2.heap.objs.size≠G.objs.size:=by rw[hC];exact DI (FG _)
 have below:∀ b,b<s2.heap.objs.size->b≠G.objs.size:=λb hb=>by rw[hC];exact DI (GW hb)
 have old:∀ b o,s2.heap.get? b=some o->h1.get? b=some o:=λb o e=>kk1 b o (hG▸Df _ e)
 have hacc:h1.get? s2.heap.objs.size=some { cls:=.type "list",data:=.seq ([]:List Di).toArray 0 }:=kk1 _ _ (hG▸Dl _ rfl);have cellLt:∀ x c,X.env.cells.lookup x=some c->c<s2.heap.objs.size:=λx c e=>by
  obtain⟨v,q⟩:=I.cell x c e;exact q.lt
 have big:∀ c:Du,G.objs.size+1<=c->s2.heap.objs.size+2<=c:=λc h=>by rw[hC] at h;exact h
 have fo:∀ b∈fp,∃ o,s2.heap.get? b=some o:=λb hb=>let ⟨o,e,_⟩:=T.obj 0 _ st2 b hb;⟨o,e⟩
 have fpLt:∀ b∈fp,b<s2.heap.objs.size:=λb hb=>let ⟨o,e⟩:=fo b hb;Dj e
 have st1:tn 0 h1:=T.keep 0 _ _ st2 λb _ o e=>old b o e
 have hCle:s2.heap.objs.size<=G.objs.size:=by rw[hC];exact Lj _
 have I0:∀ tk,av (aF X N scope (ay X scope G.objs.size) G.objs.size s2 H2 fp pins) [(s2.heap.objs.size,{ cls:=.type "list",data:=.seq ([]:List Di).toArray 0 })] σ0 H2 { s2 with heap:=h1,toks:=tk }:=λtk=>
  tT I S hcap hlen f2 fo hCle (Dn _) hDC old hns1 hacc (λv z=>nomatch z) λx c e l=>(own1 x c e).resolve_left λz=>by
   rcases c8 S.free z with z|⟨_,z⟩
   ·cases z
   ·exact absurd (cellLt x c z) (El.mpr (Dt (Hh _ 2) (big c l)))
 have fpOk:∀ {H':Hp}{o:Obj},(∀ b∈fp,H' b=none)->∀ b∈fp,eV (aF X N scope (ay X scope G.objs.size) G.objs.size s2 H2 fp pins) [(s2.heap.objs.size,o)] H' b:=λ{H' o} hn b hb=>by
  obtain⟨_,g1,g2,g3,g4,g5⟩:=f2 b hb;refine⟨hn b hb,below b (fpLt b hb),gl I g1 g2,.inl hb,λx c e=>?_,λp hp=>?_⟩;rcases bR S e with ⟨e,_⟩|⟨l,_⟩
  ·exact g4 x c e
  ·exact λz=>absurd (fpLt b hb) (El.mpr (z▸Dt (Hh _ 2) (big c l)))
  rcases Ek.mp hp with hp|hp
  ·exact g5 p hp
  ·cases DC.mp hp;exact λz=>absurd (z▸fpLt b hb) (Eh _)
 have loop:∀ s3:Dk,s3.heap=h1->s3.gens=s2.gens->s3.os=s2.os->av (aF X N scope (ay X scope G.objs.size) G.objs.size s2 H2 fp pins) [(s2.heap.objs.size,{ cls:=.type "list",data:=.seq ([]:List Di).toArray 0 })] σ0 H2 s3 ->
   Gq (DK X.prog X.w) X.A (.compLoop (.ListComp elt (⟨tg,iter,ifs,0⟩::cD) scope pos) 0 (.ref it) (.ref s2.heap.objs.size) (Hj scope (ay X scope G.objs.size) G.objs.size X.env)) (RR (.ref s2.heap.objs.size) G.objs.size) s3:=by
  intro s3 e3 _ _ I3;refine jr (d:=0) rfl (λk s'=>∃ i ys its n H',av (aF X N scope (ay X scope G.objs.size) G.objs.size s2 H2 fp pins) [(s2.heap.objs.size,{ cls:=.type "list",data:=.seq (its:List Di).toArray n })] σ0 H' s'/\tn i s'.heap/\(∀ b∈fp,H' b=none)/\aJ ys its/\W i k ys H') ?_ m0
   ⟨0,[],[],0,H2,I3,by rw[e3];exact st1,λb hb=>(f2 b hb).1,.nil,w0⟩
  rintro k s' ⟨i,ys,its,n,H',I',tn',fr',rv,w'⟩;rcases fW i k ys H' w' with ⟨stop,hz,fin⟩|⟨go,step⟩
  ·refine DW (T.done (aF X N scope (ay X scope G.objs.size) G.objs.size s2 H2 fp pins) rfl rfl rfl hc i _ s' σ0 H' (λ_ _=>False) I' (fpOk fr') tn' stop) (λr s1 hr=>?_) λ_ _ z=>z
   obtain⟨rfl,I1⟩:=hr;obtain⟨m,hn,_⟩:=id I1.loc;exact hRR _ _ s1 H' ys (uc I f2 (Dn _) I1 rv hz) (I1.pin _ (Dq _ DL)).2.1 fin ⟨m,hn⟩ I1.free hDC hCle
  ·refine DW (T.item (aF X N scope (ay X scope G.objs.size) G.objs.size s2 H2 fp pins) rfl rfl rfl hc i _ s' σ0 H' (λ_ _=>False) I' (fpOk fr') tn' go) (λr s4 hr=>?_) λ_ _ z=>z
   obtain⟨u,rfl,h4⟩:=hr;refine DW h4 (λ_ s5 h5=>?_) λ_ _ z=>z
   obtain⟨x,H5,I5,r5,y5,tn5,fr5⟩:=h5;have I5':=I5.pinned (fpOk fr5) (T.obj _ _ tn5);refine bo (hg G.objs.size _ s5 σ0 H5 x u _ I5' r5 (step x H5 y5)) λ_ s6 h6=>?_
   obtain⟨σ6,H6,I6,q6⟩:=h6;refine bo (ht G.objs.size _ s6 σ6 H6 _ I6 q6) λok s7 h7=>?_
   obtain ⟨H7,I7,q7⟩:=h7;have weak:∀ {s8:Dk}{σ8:L2.St}{H8:Hp}{its':List Di}{n':Nat},av (aF X N scope (ay X scope G.objs.size) G.objs.size s2 H2 fp pins) ([(s2.heap.objs.size,{ cls:=.type "list",data:=.seq its'.toArray n' })] ++ du fp s5.heap) σ8 H8 s8 ->
     av (aF X N scope (ay X scope G.objs.size) G.objs.size s2 H2 fp pins) [(s2.heap.objs.size,{ cls:=.type "list",data:=.seq its'.toArray n' })] σ0 H8 s8/\tn (i+1) s8.heap/\∀ b∈fp,H8 b=none:=λ{s8 σ8 H8 its' n'} I8=>by
    have st8:tn (i+1) s8.heap:=T.keep _ _ _ tn5 λb hb o e=>(I8.pin (b,o) (Dq _ (Dq _ (bS hb e)))).1
    have fr8:∀ b∈fp,H8 b=none:=λb hb=>by
     obtain⟨o,e,d⟩:=T.obj _ _ tn5 b hb;exact(I8.pin (b,o) (Dq _ (Dq _ (bS hb e)))).2.1
    refine⟨?_,st8,fr8⟩;obtain⟨m8,hn8,_⟩:=id I8.loc;have J:=I8.unpinned;exact⟨J.ok,J.os,J.bare,J.base,⟨m8,hn8,λj y v e1 e2 _=>by
     obtain⟨m00,_,hm00⟩:=(I0 0).loc;obtain⟨u',r',l'⟩:=hm00 j y v e1 e2 (by
      obtain⟨_,_,_,_,_,z⟩:=hcap j y v e1 e2;exact .inr z)
     obtain⟨j',j1,j2,j3,jf,j4⟩:=hcap j y v e1 e2;rcases l' with ⟨k',_⟩|⟨k',c,ec,z⟩
     ·exfalso;have k'':(Hj scope [] 0 X.env).kindOf y=some .local:=k';rcases j4 with q|q<;>(rw[q] at k'';cases k'')
     ·have eo:X.env.cells.lookup y=some c:=by
       rcases bR S ec with ⟨e,_⟩|⟨_,k2⟩
       ·exact e
       ·rw[jf] at k2;cases k2
      refine⟨u',r',.inr ⟨k',c,ec,?_⟩⟩;obtain⟨oc,hoc,hd⟩:=z;have hlt:c<s2.heap.objs.size:=by
       obtain⟨v',q⟩:=I.cell y c eo;exact q.lt
      have hoc2:s2.heap.get? c=some oc:=by
       obtain⟨v',o',q',d'⟩:=I.cell y c eo;have e':=old c o' q';have hoc':h1.get? c=some oc:=hoc;rw[e'] at hoc';cases hoc';exact q'
      have nfp:c∉fp:=λz=>(f2 c z).2.2.2.2.1 y c eo rfl
      by_cases hfs:c∈dB X.stack
      ·obtain⟨sl,q⟩:=J.base.slot c oc hoc2 (I.freeC y c eo) hfs nfp;exact⟨_,q,hd⟩
      ·exact⟨oc,J.base.keep c oc hoc2 (I.freeC y c eo) hfs nfp,hd⟩⟩,J.cell,J.free,J.freeC,J.pin,J.hok,hlen⟩
   cases ok with
   |false=>
    obtain⟨m',hm,w8⟩:=q7;obtain⟨I8,st8,fr8⟩:=weak I7;exact⟨m',hm,i+1,ys,its,n,H7,I8,st8,fr8,rv,w8⟩
   |true=>
    have D7:Ch (aF X N scope (ay X scope G.objs.size) G.objs.size s2 H2 fp pins) (du fp s5.heap) s2.heap.objs.size:=by
     refine⟨hDC,.inr (Dn _),λx c e z=>?_,λp hp z=>?_⟩
     ·rcases bR S e with ⟨e,_⟩|⟨l,_⟩
      ·exact absurd (z▸cellLt x c e) (Eh _)
      ·exact absurd (Dt (Hh _ 1) (big c l)) (by rw[z];exact Nat.not_succ_le_self _)
     ·rcases Ek.mp hp with hp|hp
      ·exact absurd (z▸Dj (I.pin p hp).1) (Eh _)
      ·exact absurd (z▸fpLt _ (i8 hp).1) (Eh _)
    refine DW (he G.objs.size _ (du fp s5.heap) s7 σ6 H7 ys its n _ I7 D7 rv q7) (λ_ s8 h8=>?_) λ_ _ z=>z
    obtain⟨σ8,H8,ys8,its8,n8,I8,rv8,m',hm,w8⟩:=h8;obtain⟨L1,L2',L3⟩:=weak I8;exact⟨m',hm,i+1,ys8,its8,n8,H8,L1,L2',L3,rv8,w8⟩
 exact codeAny_compStart_list (loop _ rfl rfl rfl (I0 _)) (T.self _ 0 _ _ _ st1 (loop _ rfl rfl rfl (I0 _)))
end
section
variable {X:Cx}{pos:Pos}
def yT (wi:TI)(g:TG)(tt:TT)(tb:TB)(mk:L2.St->L2.St):TE:=λσ H Q=>wi σ H λJ H1=>p_ J g tt tb (mk σ) (λys H2=>∀ D,H2 D=none->Q (.ref D) (upd H2 D (.lst ys))) H1
theorem sy {N:List Str}{cD:List Hy}{scope:He}{elt tg iter:Fs}{ifs:List Fs}{wi:TI}{g:TG}{tt:TT}{tb:TB}{mk:L2.St->L2.St} (hc:X.calm=true) (hi:WI X tg iter wi) (S:kr X scope) (hcap:∀ σ,σ.length=X.N.length->gN X scope N σ (mk σ)/\(mk σ).length=N.length)
  (hg:∀ C s0 H0 fp pn,WG (aF X N scope (ay X scope C) C s0 H0 fp pn) tg g)(ht:∀ C s0 H0 fp pn,yc (aF X N scope (ay X scope C) C s0 H0 fp pn) ifs tt)(he:∀ C s0 H0 fp pn,WB (aF X N scope (ay X scope C) C s0 H0 fp pn) elt (⟨tg,iter,ifs,0⟩::cD) scope pos 0 tb)
  (hs:∀ x,E6 iter X.env x=pure x:=by intro _;rfl):WE X (.ListComp elt (⟨tg,iter,ifs,0⟩::cD) scope pos) (yT wi g tt tb mk):=by
 have hi:=hi.go;have hg:=λC s0 H0 fp pn=>(hg C s0 H0 fp pn).go
 have ht:=λC s0 H0 fp pn=>(ht C s0 H0 fp pn).go
 have he:=λC s0 H0 fp pn=>(he C s0 H0 fp pn).go
 refine⟨?_⟩;intro pins s σ H Q I h;rw[eval_ListComp];refine Gi (use:=none) rfl hs (mF S.free) S.kind (λy hy e=>by rw[S.once y hy,e]) ?_;refine bo (hi pins s σ H _ I h) λv s1 h1=>bo h1 λitv s2 h2=>?_
 obtain⟨it,fp,tn,J,H2,rfl,I2,T,st2,f2,hw⟩:=h2;have hcp:=hcap σ I2.len;refine jn hc I2 S hcp.1 hcp.2 f2 T st2 (λC=>hg C _ _ _ _) (λC=>ht C _ _ _ _) (λC=>he C _ _ _ _) hw ?_;intro D C s' H' ys I' hD fin hm hC hDC hle;obtain⟨m,hn⟩:=hm;refine⟨m,hn,λh' hs'=>⟨.ref D,_,?_,rfl,fin D hD⟩⟩;exact I'.turned (it:=C) (t':=s'.toks) (λb o hb e=>hs'.extBut b o hb e) (by rw[ap (Fj hDC)];exact hC) (λz=>absurd (z▸I2.lt) (El.mpr hle)) (.inr (Dt I2.sz hle))
  (λx c e z=>by
   obtain⟨v',q⟩:=I2.cell x c e;exact absurd (z▸q.lt) (El.mpr hle))
  (λp hp z=>absurd (z▸Dj (I2.pin p hp).1) (El.mpr hle))
end
section
variable {X:Cx}{pins:List (Du×Obj)}{σ:L2.St}{H H2:Hp}{s s2:Dk}
theorem kA {N:List Str}{scope:He}{elt tg iter:Fs}{ifs:List Fs}{pos:Pos}{it:Du}{fp:List Du}{tn:Nat->Fp->Prop}{J:It}{g:TG}{tt:TT}{te:TE}{σ0:L2.St}{Fin:List V->Hp->Prop}
  {E:Di->Dk->Prop}{RR:Di->Du->Result->Dk->Prop}(hc:X.calm=true)(I:av X pins σ H2 s2)(S:kr X scope)
  (hcap:gN X scope N σ σ0)(hlen:σ0.length=N.length)(f2:∀ b∈fp,eV X pins H2 b)(T:lB X.prog X.w X.K tg J fp it tn)(st2:tn 0 s2.heap)
  (hg:∀ C,PG (aF X N scope (ay X scope C) C s2 H2 fp pins) tg g)(ht:∀ C,Bp (aF X N scope (ay X scope C) C s2 H2 fp pins) ifs tt)(he:∀ C,PE (aF X N scope (ay X scope C) C s2 H2 fp pins) elt te)(hw:fb J g tt te σ0 Fin H2)
  (hRR:∀ (D C:Du) (s':Dk) (H':Hp) (ys:List V),av X pins σ (upd H' D (.lst ys)) s'->H' D=none->Fin ys H'->(∃ m,s'.heap.Ns C m)->H' C=none->D≠C->s2.heap.objs.size<=C->RR (.ref D) C (.ok .next) s'):
  Dy (DK X.prog X.w) X.A (newList []) (λacc s₃=>Dy (DK X.prog X.w) X.A (Ig scope X.env.globals (rV X.env.cells scope.names []) [] X.env.qual none .none (some X.env)) (λcenv s₄=>
   Gq (DK X.prog X.w) X.A (.compStart (.ListComp elt [⟨tg,iter,ifs,0⟩] scope pos) 0 (.ref it) acc { cenv with scope:=relabel scope X.env }) (RR acc cenv.locals) s₄) E s₃) E s2:=by
 obtain⟨W,h0,fW⟩:=hw;refine jn (cD:=[]) (tb:=rq te) hc I S hcap hlen f2 T st2 hg ht (λC=>rj rfl rfl (he C)) ⟨W,h0,λi m ys H w=>?_⟩ hRR;rcases fW i m ys H w with h|⟨h1,h2,h3⟩
 ·exact .inl h
 ·refine .inr ⟨h1,λx H3 y=>?_⟩;have:=h3 x H3 y
  simpa only [rq,h2,true_and] using this
end
section
variable {X:Cx}{pos:Pos}
def yh (wi:TI)(g:TG)(tt:TT)(te:TE)(mk:L2.St->L2.St):TE:=λσ H Q=>wi σ H λJ H1=>fb J g tt te (mk σ) (λys H2=>∀ D,H2 D=none->Q (.ref D) (upd H2 D (.lst ys))) H1
theorem vA (hc:X.calm=true) (hi:WI X tg iter wi) (S:kr X scope) (hcap:∀ σ,σ.length=X.N.length->gN X scope N σ (mk σ)/\(mk σ).length=N.length)
  (hg:∀ C s0 H0 fp pn,WG (aF X N scope (ay X scope C) C s0 H0 fp pn) tg g)(ht:∀ C s0 H0 fp pn,yc (aF X N scope (ay X scope C) C s0 H0 fp pn) ifs tt)(he:∀ C s0 H0 fp pn,WE (aF X N scope (ay X scope C) C s0 H0 fp pn) elt te)
  (hs:∀ x,E6 iter X.env x=pure x:=by intro _;rfl):WE X (.ListComp elt [⟨tg,iter,ifs,0⟩] scope pos) (yh wi g tt te mk):=by
 have hi:=hi.go;have hg:=λC s0 H0 fp pn=>(hg C s0 H0 fp pn).go
 have ht:=λC s0 H0 fp pn=>(ht C s0 H0 fp pn).go
 have he:=λC s0 H0 fp pn=>(he C s0 H0 fp pn).go
 refine⟨?_⟩;intro pins s σ H Q I h;rw[eval_ListComp];refine Gi (use:=none) rfl hs (mF S.free) S.kind (λy hy e=>by rw[S.once y hy,e]) ?_;refine bo (hi pins s σ H _ I h) λv s1 h1=>bo h1 λitv s2 h2=>?_
 obtain⟨it,fp,tn,J,H2,rfl,I2,T,st2,f2,hw⟩:=h2;have hcp:=hcap σ I2.len;refine kA hc I2 S hcp.1 hcp.2 f2 T st2 (λC=>hg C _ _ _ _) (λC=>ht C _ _ _ _) (λC=>he C _ _ _ _) hw ?_;intro D C s' H' ys I' hD fin hm hC hDC hle;obtain⟨m,hn⟩:=hm;refine⟨m,hn,λh' hs'=>⟨.ref D,_,?_,rfl,fin D hD⟩⟩;exact I'.turned (it:=C) (t':=s'.toks) (λb o hb e=>hs'.extBut b o hb e) (by rw[ap (Fj hDC)];exact hC) (λz=>absurd (z▸I2.lt) (El.mpr hle)) (.inr (Dt I2.sz hle))
  (λx c e z=>by
   obtain⟨v',q⟩:=I2.cell x c e;exact absurd (z▸q.lt) (El.mpr hle))
  (λp hp z=>absurd (z▸Dj (I2.pin p hp).1) (El.mpr hle))
end
section
variable {X:Cx}{pos:Pos}
def uM (i:Nat)(wi:TI)(g:TG)(tt:TT)(te:TE)(mk:L2.St->L2.St):TS:=λE σ H=>wi σ H λJ H1=>fb J g tt te (mk σ) (λys H2=>∀ D,H2 D=none->E.nx (σ.set i (some (.ref D))) (upd H2 D (.lst ys))) H1
theorem oS {i:Nat} (hc:X.calm=true) (hN:X.N.Nodup) (hi':X.N[i]?=some y) (hy:X.env.scope.names.lookup y=some .local)
  (hi:WI X tg iter wi)(S:kr X scope)(hcap:∀ σ,σ.length=X.N.length->gN X scope N σ (mk σ)/\(mk σ).length=N.length)
  (hg:∀ C s0 H0 fp pn,WG (aF X N scope (ay X scope C) C s0 H0 fp pn) tg g)(ht:∀ C s0 H0 fp pn,yc (aF X N scope (ay X scope C) C s0 H0 fp pn) ifs tt)(he:∀ C s0 H0 fp pn,WE (aF X N scope (ay X scope C) C s0 H0 fp pn) elt te)
  (hsw:JJ (.ListComp elt [⟨tg,iter,ifs,0⟩] scope pos) (some (.Name y py)) spos.line X.env=pure true:=by rfl)
  (hs:∀ x,E6 iter X.env x=pure x:=by intro _;rfl):WS X (.Assign [.Name y py] (.ListComp elt [⟨tg,iter,ifs,0⟩] scope pos) spos) (uM i wi g tt te mk):=by
 have hi:=hi.go;have hg:=λC s0 H0 fp pn=>(hg C s0 H0 fp pn).go
 have ht:=λC s0 H0 fp pn=>(ht C s0 H0 fp pn).go
 have he:=λC s0 H0 fp pn=>(he C s0 H0 fp pn).go
 refine⟨?_⟩;intro pins s σ H E I h;rw[exec_Assign_Name_used _ _ _ _ hsw];refine De (Fl (De ?_));show Dy _ X.A (do let _ <- comprehension (.ListComp elt [⟨tg,iter,ifs,0⟩] scope pos) scope X.env _ (newList []) false (GI iter X.env) (some (assign (.Name y py) X.env))) _ _ s;refine De (DW (Gi (use:=some (assign (.Name y py) X.env)) (Q:=λ_ s'=>SP X pins E .next s') rfl hs (mF S.free) S.kind (λy hy e=>by rw[S.once y hy,e]) ?_) (λ_ s' hq=>Dg (Dg hq)) λ_ _ e=>e);refine bo (hi pins s σ H _ I h) λv s1 h1=>bo h1 λitv s2 h2=>?_
 obtain⟨it,fp,tn,J,H2,rfl,I2,T,st2,f2,hw⟩:=h2;have hcp:=hcap σ I2.len;refine kA hc I2 S hcp.1 hcp.2 f2 T st2 (λC=>hg C _ _ _ _) (λC=>ht C _ _ _ _) (λC=>he C _ _ _ _) hw ?_;intro D C s' H' ys I' hD fin hm hC hDC hle;obtain⟨m,hn⟩:=hm;have neC:X.env.locals≠C:=λz=>absurd (z▸I2.lt) (El.mpr hle)
 have upC:(upd H' D (.lst ys)) C=none:=by rw[ap (Fj hDC)];exact hC
 show Dy _ X.A (assign (.Name y py) X.env (.ref D)) _ _ s';refine wpAny_assign_Name (l8 I' hN hi' (.inl hy) (v:=.ref D) (u:=.ref D) rfl (λs3 I3 ⟨a,sb,ha⟩=>?_) (.inr hy));have aC:C≠a:=by
  rcases ha with e|e
  ·rw[e];exact Fj neC
  ·intro z;obtain⟨v',q⟩:=I2.cell y a e;exact absurd (z▸q.lt) (El.mpr hle)
 refine⟨m,hn.sameBut sb aC,λh' hs'=>⟨_,_,?_,fin D hD⟩⟩;exact I3.turned (it:=C) (t':=s3.toks) (λb o hb e=>hs'.extBut b o hb e) upC (Fj neC) (.inr (Dt I2.sz hle))
  (λx c e z=>by
   obtain⟨v',q⟩:=I2.cell x c e;exact absurd (z▸q.lt) (El.mpr hle))
  (λp hp z=>absurd (z▸Dj (I2.pin p hp).1) (El.mpr hle))
end
end TR
namespace L2
open PySem PySem.Spec PyProof.Rows
section
variable {κ:Type}[DecidableEq κ]
def iP (kvs:List (κ×V))(k:κ):Option V:=(kvs.find? λkv=>decide (kv.1=k)).map (·.2)
def eO (kvs:List (κ×V))(k:κ)(v:V):List (κ×V):=
 if(kvs.any λkv=>decide (kv.1=k))=true then kvs.map (λkv=>if kv.1=k then(kv.1,v) else kv) else kvs++[(k,v)]
theorem iq {p:κ×V}{r:List (κ×V)}{k:κ}(e:p.1=k):iP (p::r) k=some p.2:=by simp[iP,F_,e]
theorem fK {p:κ×V}{r:List (κ×V)}{k:κ}(e:¬ p.1=k):iP (p::r) k=iP r k:=by simp[iP,F_,e]
theorem kc (k:κ):∀ kvs:List (κ×V),(kvs.any λkv=>decide (kv.1=k))=(iP kvs k).isSome
 |[]=>rfl
 |p::r=>by
  rw[Lu]
  by_cases e:p.1=k
  ·simp only[iq e,DE e,Bool.true_or,Lw]
  ·rw[fK e,DR e,Bool.false_or];exact kc k r
theorem fP (kvs:List (κ×V))(k:κ)(v:V):(eO kvs k v).length<=kvs.length+1:=by
 unfold eO
 split
 ·rw[Dh];omega
 ·rw[EF,Et,IJ];omega
theorem vI {kvs:List (κ×V)}{k:κ}(v:V)(h:iP kvs k=none):eO kvs k v=kvs++[(k,v)]:=by
 unfold eO;rw[kc,h];exact DS (by decide)
theorem gu.isSome_eq (r:gu o u):o.isSome=u.isSome:=by
 cases o with
 |none=>cases u with
  |none=>rfl
  |some _=>exact(show False from r).elim
 |some _=>cases u with
  |none=>exact(show False from r).elim
  |some _=>rfl
theorem KV.val {kvs:List (κ×V)}{vs:List (κ×Di)}(r:KV kvs vs)(k:κ):gu (iP kvs k) (L6 vs k):=by
 unfold KV at r
 induction r with
 |nil=>exact True.intro
 |@cons p q ps qs h t ih=>
  obtain⟨h1,h2⟩:=h
  by_cases e:p.1=k
  ·have e':q.1=k:=h1.symm.trans e;have b:L6 (q::qs) k=some q.2:=by simp[L6,F_,e']
   rw[iq e,b];exact h2
  ·have e':¬ q.1=k:=λz=>e (h1.trans z)
   have b:L6 (q::qs) k=L6 qs k:=by simp[L6,F_,e']
   rw[fK e,b];exact ih
theorem KV.any (r:KV kvs vs)(k:κ):(kvs.any λkv=>decide (kv.1=k))=vs.any λkv=>decide (kv.1=k):=by
 unfold KV at r
 induction r with
 |nil=>rfl
 |cons h t ih=>rw[Lu,Lu,ih,h.1]
theorem KV.repl (r:KV kvs vs) (k:κ) (ry:RelV y u) :
  KV (kvs.map λkv=>if kv.1=k then(kv.1,y) else kv) (vs.map λkv=>if kv.1=k then(kv.1,u) else kv):=by
 unfold KV at r ⊢
 induction r with
 |nil=>exact .nil
 |@cons p q ps qs h t ih=>
  rw[DP,DP];refine .cons ?_ ih;obtain⟨h1,h2⟩:=h
  by_cases e:p.1=k
  ·rw[Ee e,Ee (h1.symm.trans e)];exact⟨h1,ry⟩
  ·rw[DS e,DS (λz=>e (h1.trans z))];exact⟨h1,h2⟩
theorem KV.put (r:KV kvs vs)(k:κ)(ry:RelV y u):KV (eO kvs k y) (stored vs k u):=by
 unfold eO stored;rw[r.any k]
 by_cases e:(vs.any λkv=>decide (kv.1=k))=true
 ·rw[Ee e,Ee e];exact r.repl k ry
 ·rw[DS e,DS e];exact Paired.snoc r ⟨rfl,ry⟩
theorem KV.length (r:KV kvs vs):kvs.length=vs.length:=JR r
end
theorem uk (r:RelV (kV k) u):(bi P w).is k u=true:=by
 cases k with
 |inl i=>obtain⟨t,e⟩:=(show ∃ t,u=Hf i t from r);subst e;exact om P w i t
 |inr x=>obtain⟨t,e⟩:=(show ∃ t,u=KI x t from r);subst e;exact oW P w x t
theorem ma:∀ {ks:List cU}{us:List Di},aJ (ks.map kV) us->ItemsAre (bi P w) ks us
 |[],_,r=>by rw[KA] at r;cases r;exact .nil
 |k::ks,_,r=>by
  rw[DP] at r;cases r with
  |cons h t=>exact .cons (uk h) (ma t)
abbrev KT (H:Hp):List (List cU×V)->List (List cU×Du×Di)->Prop:=Paired λp q=>p.1=q.1/\H q.2.1=some (.tup (p.1.map kV))/\RelV p.2 q.2.2
theorem KT.val {H:Hp}{kvs:List (List cU×V)}{xs:List (List cU×Du×Di)}(r:KT H kvs xs)(k:List cU):gu (iP kvs k) ((atKey xs k).map (·.2)):=by
 induction r with
 |nil=>exact True.intro
 |@cons p q ps qs h t ih=>
  obtain⟨h1,_,h2⟩:=h
  by_cases e:p.1=k
  ·have e':q.1=k:=h1.symm.trans e;have b:atKey (q::qs) k=some q.2:=by simp[atKey,F_,e']
   rw[iq e,b];exact h2
  ·have e':¬ q.1=k:=λz=>e (h1.trans z)
   have b:atKey (q::qs) k=atKey qs k:=by simp[atKey,F_,e']
   rw[fK e,b];exact ih
theorem KT.repl (r:KT H kvs xs) (k:List cU) (ry:RelV y u) :
  KT H (kvs.map λkv=>if kv.1=k then(kv.1,y) else kv) (xs.map (putAt k u)):=by
 induction r with
 |nil=>exact .nil
 |@cons p q ps qs h t ih=>
  rw[DP,DP];refine .cons ?_ ih;obtain⟨h1,h2,h3⟩:=h;unfold putAt
  by_cases e:p.1=k
  ·rw[Ee e,Ee (h1.symm.trans e)];exact⟨h1,h2,ry⟩
  ·rw[DS e,DS (λz=>e (h1.trans z))];exact⟨h1,h2,h3⟩
theorem KT.put (r:KT H kvs xs) (k:List cU) (hb:H b=some (.tup (k.map kV))) (ry:RelV y u) :
  KT H (eO kvs k y) (storedH xs k b u):=by
 have e:(kvs.any λkv=>decide (kv.1=k))=(atKey xs k).isSome:=by
  rw[kc,(r.val k).isSome_eq,Option.isSome_map]
 unfold eO storedH;rw[e]
 by_cases q:(atKey xs k).isSome=true
 ·rw[Ee q,Ee q];exact r.repl k ry
 ·rw[DS q,DS q];exact Paired.snoc r ⟨rfl,hb,ry⟩
theorem KT.keeps (r:KT H kvs xs)(ht:∀ b ys,H b=some (.tup ys)->H' b=some (.tup ys)):KT H' kvs xs:=
 Paired.mapP r λ_ _ z=>⟨z.1,ht _ _ z.2.1,z.2.2⟩
section
variable {P:DN}{w:Ez}{H:Hp}{h:Fp}{a:Du}
theorem ye (ok:gm P w H h)(e:Rd H a u):be P w H h a u:=e.ok ok
theorem uP (ok:gm P w H h)(e:Rd H a (.dK kvs)):kvs.length<=Ds/\(a==Fv)=false/\∃ vs,KV kvs vs/\h.DictOf (bi P w) a vs:=
 show be P w H h a (.dK kvs) from ye ok e
theorem AX (ok:gm P w H h)(e:H a=some (.dK kvs)):kvs.length<=Ds/\(a==Fv)=false/\∃ vs,KV kvs vs/\h.DictOf (bi P w) a vs:=uP ok (.inl e)
theorem kz (ok:gm P w H h)(e:H a=some (.tup (ks.map kV))):(GR (bi P w)).is h ks a:=by
 obtain⟨_,its,r,o,h1,h2,n,h3⟩:=(show be P w H h a (.tup (ks.map kV)) from ok a _ e)
 exact⟨o,its.toArray,n,h1,h2,h3,by simpa using ma r⟩
theorem l4 (ok:gm P w H h) (e:Rd H a (.dT kvs)):kvs.length <= Ds/\(a == Fv)=false /\
  ∃ xs,KT H kvs xs/\h.DictOfH (GR (bi P w)) a xs:=by
 obtain⟨z,y,xs,r,o,es,ep,h1,h2,h3,h4,h5⟩:=(show be P w H h a (.dT kvs) from ye ok e)
 refine⟨z,y,xs,r,o,es,ep,h1,h2,h3,h4,λx hx=>?_,h5⟩;have all:∀ {l:List (List cU×V)}{m:List (List cU×Du×Di)},KT H l m->∀ x∈m,(GR (bi P w)).is h x.1 x.2.1:=by
  intro l m q
  induction q with
  |nil=>intro x hx;exact nomatch hx
  |@cons p q ps qs hq t ih=>
   intro x hx;rcases Dx.mp hx with e|hx
   ·subst e;exact kz ok (by rw[<- hq.1];exact hq.2.1)
   ·exact ih x hx
 exact all r x hx
theorem yf (ok:gm P w H h) (e:H a=some (.dT kvs)):kvs.length <= Ds/\(a == Fv)=false /\
  ∃ xs,KT H kvs xs/\h.DictOfH (GR (bi P w)) a xs:=l4 ok (.inl e)
end
def qj (H:Hp)(a:Du)(y:V)(r:Option V):Prop:=
 (∃ kvs k,Rd H a (.dK kvs)/\y=kV k/\r=iP kvs k)\/∃ kvs k b,Rd H a (.dT kvs)/\y=.ref b/\H b=some (.tup (k.map kV))/\r=iP kvs k
def vF (H:Hp)(a:Du)(y v:V)(H':Hp):Prop:=
 (∃ kvs k,H a=some (.dK kvs)/\y=kV k/\kvs.length<Ds/\H'=upd H a (.dK (eO kvs k v))) \/
 ∃ kvs k b,H a=some (.dT kvs)/\y=.ref b/\H b=some (.tup (k.map kV))/\kvs.length<Ds/\H'=upd H a (.dT (eO kvs k v))
theorem qj.t {H:Hp}{a b:Du}{kvs:List (List cU×V)}{k:List cU}(e:H a=some (.dT kvs))(eb:H b=some (.tup (k.map kV))):qj H a (.ref b) (iP kvs k):=.inr ⟨kvs,k,b,.inl e,rfl,eb,rfl⟩
theorem vF.t {H:Hp}{a b:Du}{kvs:List (List cU × V)}{k:List cU}{v:V} (e:H a=some (.dT kvs)) (eb:H b=some (.tup (k.map kV))) (hl:kvs.length < Ds) :
  vF H a (.ref b) v (upd H a (.dT (eO kvs k v))):=.inr ⟨kvs,k,b,e,rfl,eb,hl,rfl⟩
section
variable {X:Cx}{pins:List (Du×Obj)}{σ:St}{H:Hp}{s:Dk}{a:Du}{y v:V}{u r:Di}{o:Option V}{A:EK}{E:Di->Dk->Prop}
theorem av.big (I:av X pins σ H s):Fv<s.heap.objs.size:=by
 have h:Dr<s.heap.objs.size:=(I.mod.glob.keeps I.bk).lt;exact Md (by decide) h
theorem su (hu:A.units + 1 < cLine) (I:av X pins σ H s) (g:qj H a y (some v)) (ry:RelV y u) (h:∀ w' s',av X pins σ H s'->RelV v w'->Q w' s') :
  Dy (DK X.prog X.w) A (MB (.ref a) u) Q E s:=by
 rcases g with ⟨kvs,k,e,ey,l⟩|⟨kvs,k,b,e,ey,eb,l⟩
 ·subst ey;obtain⟨z,hd,vs,rel,dd⟩:=uP I.hok e;obtain⟨w',hw,rw'⟩:=gu.some_of (v:=v) (o:=L6 vs k) (by rw[l];exact rel.val k);exact wpAny_getItem_of (uk ry) dd.mapOf hw (h w' _ (I.tok _) rw')
 ·subst ey;cases(show u=DQ b from ry);obtain⟨z,hd,xs,rel,dd⟩:=l4 I.hok e;obtain⟨w',hw,rw'⟩:=gu.some_of (v:=v) (o:=(atKey xs k).map (·.2)) (by rw[l];exact rel.val k);obtain⟨p,hp,hp2⟩:=DA.mp hw;refine wpAny_getItem_heap (tupleKind_room_in1 hu) (kz I.hok eb) dd hp ?_;rw[hp2];exact h w' _ (I.tok _) rw'
theorem nV {t':Nat} (I:av X pins σ H s) (mu:AY (H a)) (hs:Ew a s.heap h') (he:∃ q,h'.get? a=some q) (new:be X.prog X.w (upd H a ob) h' a ob) :
  av X pins σ (upd H a ob) { s with heap:=h',toks:=t' }:=
 I.write (x:=a) (e:=a) mu (.inl rfl) (λb q hb z=>(hs.2 b hb).trans z) he new
theorem zo (z:kvs.length <= Ds) (hd:(a == Fv)=false) (rel:KV kvs vs) (dd:h'.DictOf (bi P w) a vs) :
  be P w H' h' a (.dK kvs):=⟨z,hd,vs,rel,dd⟩
theorem sf (hu:A.units + 1 < cLine) (I:av X pins σ H s) (g:vF H a y v H') (ry:RelV y u) (rv:RelV v r) (h:∀ s',av X pins σ H' s'->Q () s') :
  Dy (DK X.prog X.w) A (setItem (.ref a) u r) Q E s:=by
 rcases g with ⟨kvs,k,e,ey,l,eH⟩|⟨kvs,k,b,e,ey,eb,l,eH⟩
 ·subst ey eH;obtain⟨z,hd,vs,rel,dd⟩:=AX I.hok e;have hz:vs.length<=Ds:=by rw[<- rel.length];exact z
  have hl:(eO kvs k v).length<=Ds:=by have:=fP kvs k v;omega
  refine wpAny_setItem_pairs (hsz:=hz) (uk ry) dd λh' dd' hs=>h _ ?_
  have he:∃ q,h'.get? a=some q:=let ⟨q,_,_,hq,_⟩:=dd';⟨q,hq⟩
  exact nV I (by rw[e];exact True.intro) hs he (zo hl hd (rel.put k rv) dd')
 ·subst ey eH;cases(show u=DQ b from ry);obtain⟨z,hd,xs,rel,dd⟩:=yf I.hok e;have hz:xs.length<=Ds:=by rw[<- JR rel];exact z
  have hl:(eO kvs k v).length<=Ds:=by have:=fP kvs k v;omega
  refine wpAny_setItem_heap (hsz:=hz) (tupleKind_room_in1 hu) (kz I.hok eb) dd λh' dd' hs=>h _ ?_
  obtain⟨q,es,ep,hq,h2,h3,h4,_,h5⟩:=dd';refine nV I (by rw[e];exact True.intro) hs ⟨q,hq⟩ ⟨hl,hd,_,(rel.put k eb rv).keeps λc ys ec=>?_,q,es,ep,hq,h2,h3,h4,h5⟩;rw[ap (tP ec e (λz=>nomatch z))];exact ec
end
def Ai (i:Fs):Prop:=∀ ov iv,subscripted i false ov iv=operate [ov,iv] (MB ov iv)
theorem wZ {prog:DN}{w:Ez}{A:EK}{E:Di->Dk->Prop}{s:Dk}{env:Env}{value slice:Fs}{pos:Pos}{T id:String}{Q:Di->Dk->Prop}
  (hl:L5 (.type T) "__getitem__"=pure (some (.builtin id)))(hs:Ai slice)
  (h:Dy (DK prog w) A (GI value env) (λo s₁=>Dy (DK prog w) A (GI slice env) (λi s₂=>s₂.TypeIs o T/\Dy (DK prog w) A (MB o i) Q E s₂) E s₁) E s):
  Dy (DK prog w) A (GI (.Subscript value slice pos) env) Q E s:=by
 refine Subscript_ (DW h (λo s₁ h₁=>DW h₁ (λi s₂ h₂=>?_) λ_ _ x=>x) λ_ _ x=>x);obtain⟨hT,h₂⟩:=h₂;unfold LJ;refine De ?_;rw[getitemInPython_of_ne hT.not_modules];refine De (HM hT hl ?_);have fin:Dy (DK prog w) A (subscripted slice false o i) (λr s₃=>Dy (DK prog w) A (letTemporaryGo value o r>>=λ_=>pure r) Q E s₃) E s₂:=by
  rw[hs o i];exact wpAny_operating (DW h₂ (λr s₃ h₃=>De (wpAny_letTemporaryGo (Dg h₃))) λ_ _ x=>x)
 first
  |exact Dg (De fin)
  |exact De (Dg (De fin))
  |exact De fin
theorem pU (I:av X pins σ H s)(g:qj H a y o):s.TypeIs (.ref a) "dict":=by
 rcases g with ⟨kvs,k,e,_,_⟩|⟨kvs,k,b,e,_,_,_⟩
 ·obtain⟨_,_,vs,_,dd⟩:=uP I.hok e;exact dd.typeIs
 ·obtain⟨_,_,xs,_,dd⟩:=l4 I.hok e;exact dd.typeIs
def Bj (td ty:TE):TE:=λσ H Q=>td σ H λx H1=>ty σ H1 λy H2=>∃ a v,x=.ref a/\qj H2 a y (some v)/\Q v H2
def AI (td ty tv:TE):TS:=λD σ H=>tv σ H λv H1=>td σ H1 λx H2=>ty σ H2 λy H3=>∃ a H4,x=.ref a/\vF H3 a y v H4/\D.nx σ H4
section
variable {X:Cx}{o i e value:Fs}{pos pos' tpos:Pos}{td ty tv:TE}
theorem uD (hu:X.A.units+1<cLine)(ho:WE X o td)(hi:WE X i ty)(hs:Ai i):WE X (.Subscript o i pos) (Bj td ty):=by
 have ho:=ho.go;have hi:=hi.go;refine⟨?_⟩;intro pins s σ H Q I h;refine wZ PySem.F.slot_dict_getitem.lookup hs (bo (ho pins s σ H _ I h) λu s1 ⟨x,H1,I1,rx,q1⟩=>bo (hi pins s1 σ H1 _ I1 q1) λiv s2 ⟨y,H2,I2,ry,a,v,ex,g,q2⟩=>?_);subst ex;obtain rfl:u=DQ a:=rx;exact⟨pU I2 g,su hu I2 g ry λw' s3 I3 rw'=>⟨v,H2,I3,rw',q2⟩⟩
theorem vy (hu:X.A.units + 1 < cLine) (ho:WE X o td) (hi:WE X i ty) (hv:WE X value tv) (hs:JJ value (some (.Subscript o i pos')) pos.line X.env=pure false) :
  WS X (.Assign [.Subscript o i pos'] value pos) (AI td ty tv):=by
 have ho:=ho.go;have hi:=hi.go;have hv:=hv.go;refine⟨?_⟩;intro pins s σ H D I h;refine wpAny_Assign_Subscript (bo (hv pins s σ H _ I h) λr s1 ⟨v,H1,I1,rv,q1⟩=>bo (ho pins s1 σ H1 _ I1 q1) λu s2 ⟨x,H2,I2,rx,q2⟩=>bo (hi pins s2 σ H2 _ I2 q2) λiv s3 ⟨y,H3,I3,ry,a,H4,ex,g,q3⟩=>?_) hs;subst ex;obtain rfl:u=DQ a:=rx;exact sf hu I3 g ry rv λs4 I4=>⟨σ,H4,I4,q3⟩
end
theorem pM (h:Fp)(hb:Fv<h.objs.size):be P w H (h.push { cls:=.type "dict",data:=.dict #[] }) h.objs.size (.dT []):=
 ⟨ES _,ET.mpr (Fj (DI hb)),[],.nil,_,#[],0,Dl _ rfl,⟨rfl,rfl,rfl⟩,rfl,rfl,Jo⟩
def yL:TE:=λ_ H Q=>∀ p,H p=none->Q (.ref p) (upd H p (.dT []))
section
variable {X:Cx}{pos:Pos}
theorem sO:WE X (.Dict [] [] pos) yL:=by
 exact⟨λpins s σ H Q I h=>
 wpAny_Dict_empty ⟨.ref s.heap.objs.size,_,I.laid (a:=s.heap.objs.size) (o:=.dT []) (t':=s.toks) (λ_ _ q=>Df _ q) (Dn _) (pM s.heap I.big),rfl,h _ (I.hok.fresh (Dn _))⟩⟩
end
def aQ (H:Hp)(a:Du):Prop:=(∃ kvs,Rd H a (.dK kvs))\/∃ kvs,Rd H a (.dT kvs)
end L2
namespace PySem
section
variable {prog:DN}{w:Ez}{K:Type}[DecidableEq K]{knd:HeapKind prog w K}{A:EK}{E:Di->Dk->Prop}{s:Dk}
theorem jS (knd:HeapKind prog w K) (d:Du) (hd:(d == Fv)=false) :
  MeetsIn prog w (Gn.«dict.__len__» ⟨[.ref d],[]⟩) (λ_ R s=>∃ xs,s.heap.DictOfH knd d xs/\R (.ok (.ret (.int xs.length s.toks))) { s with toks:=s.toks+1 }):=
 .of_wp λA R s ⟨xs,hm,h⟩=>by
  obtain⟨o,es,ep,ho,hc,hdat,he,hi,hn⟩:=hm;show Dy _ _ (dictSize d>>=_) _ _ s;unfold dictSize;refine De (De (FN ho hdat (Dg ?_)));show Dy _ _ (Builtin.Dict.pendingCount d>>=_) _ _ s;refine De (wpAny_pendingCount_other hd ?_);refine wpAny_ret_mkInt ?_;rw[Nat.add_zero,KM he];exact h
theorem sQ {d:Du}{xs:List (K × Du × Di)}{Q:Di->Dk->Prop} (hd:(d == Fv)=false) (hm:s.heap.DictOfH knd d xs) (hfit:(xs.length:Int) < 2 ^ 63)
  (h:Q (.int xs.length (s.toks+1)) { s with toks:=s.toks+1+1 }):Dy (DK prog w) A (Gn.«len» ⟨[.ref d],[]⟩) (λfin s'=>∃ r,fin=.done (.ret r)/\Q r s') E s:=by
 unfold Gn.«len»;refine De (m:=oneArg "len" _) (Dg ?_);refine De (m:=callSpecial? (.ref d) (E4 "__len__")) (EJ (name:=E4 "__len__") hm.typeIs F.slot_dict_len
  (call_meetsIn F.slot_dict_len hm.typeIs F.entry_dict_len (F.args_dict_len_1 _) (jS knd d hd) ⟨xs,hm,?_⟩))
 show Dy _ _ _ _ _ { s with toks:=s.toks+1 };refine De (Em (Dg ?_));refine De (J_ ?_);show Dy _ _ (if((xs.length:Nat):Int)<0 then _ else _) _ _ _;rw[DS (by omega)];show Dy _ _ (if((xs.length:Nat):Int)>=2^63 then _ else _) _ _ _;rw[DS (by omega)];exact De (wpAny_mkInt (Dg ⟨_,rfl,h⟩))
theorem so (hd:(d == Fv)=false) (hm:s.heap.DictOfH knd d xs) (hfit:(xs.length:Int) < 2 ^ 63)
  (h:Q (.int xs.length (s.toks+1)) { s with toks:=s.toks+1+1 }):Dy (DK prog w) A (call (.builtin "len") [.ref d]) Q E s:=
 Jj kind_len plain_len entry_len (args_len1 _) (sQ hd hm hfit h)
theorem jo:∀ (l:List G9) (h:Int),(l.map (·.hash)).Nodup->(l.filter (·.hash==h)).length<=1
 |[],_,_=>ES _
 |e::r,h,hn=>by
  rw[DP,E9] at hn;rw[List.filter_cons]
  by_cases q:(e.hash==h)=true
  ·rw[Ee q];have q':e.hash=h:=by simpa using q
   have z:r.filter (·.hash==h)=[]:=List.filter_eq_nil_iff.mpr λa ha y=>hn.1 (by
    have y':a.hash=h:=by simpa using y
    rw[q',<- y'];exact EH.mpr ⟨a,ha,rfl⟩)
   rw[z];exact Dn _
  ·rw[DS q];exact jo r h hn.2
theorem qD {id:String}{d:Du}{o:Obj}{es:Array G9}{ep:Nat}{Q:Array G9->Dk->Prop} (ho:s.heap.get? d=some o) (hd:o.data=.dict es ep)
  (hk:∀ e∈es.toList,∃ a,e.key=.ref a/\s.TypeIs (.ref a) "tuple")(hn:(es.toList.map (·.hash)).Nodup)(h:Q es s):Dy (DK prog w) A (Iw id d) Q E s:=by
 unfold Iw;refine De (FN ho hd ?_);refine De ?_;rw[<- Array.forIn_toList];refine wpAny_forIn_list _ (λcD _ s'=>s'=s/\∀ e∈cD,e∈es.toList) _ ?_ ?_ _ _ ⟨rfl,λe q=>q⟩
 ·rintro e cD b s' ⟨rfl,hr⟩;obtain⟨a,ha,hT⟩:=hk e (hr e DL);have hf:¬ (es.filter (·.hash==e.hash)).size>1:=by
   have z:=jo es.toList e.hash hn;have z2:(es.filter (·.hash==e.hash)).size=(es.toList.filter (·.hash==e.hash)).length:=by
    rw[<- Fd,Array.toList_filter]
   omega
  have q:Dy (DK prog w) A (KS e.key) (λr s''=>r=false/\s''=s') E s':=by
   rw[ha];unfold KS;exact De (HM hT F.slot_tuple_eq.lookup (Dg ⟨by decide,rfl⟩))
  refine De (DW q (λr s'' hq=>?_) λ_ _ z=>z);obtain⟨rfl,rfl⟩:=hq;rw[Ee (by decide),DS hf];exact Dg ⟨rfl,λe q=>hr e (Do _ q)⟩
 ·rintro b s' ⟨rfl,_⟩;exact Dg h
theorem t_ (hdo:d ≠ o) (hoS:(o == Fv)=false) (hd:s.heap.DictOfH knd d []) (ho:s.heap.DictOfH knd o xs)
  (hT:∀ x∈xs,s.TypeIs (.ref x.2.1) "tuple")(hh:(xs.map λx=>knd.hash x.1).Nodup)(hsz:xs.length<=Ds)(hne0:xs≠[])
  (hQ:∀ h',h'.DictOfH knd d xs->Ew d s.heap h'->Q () { s with heap:=h' }):Dy (DK prog w) A (Kg nm d o) Q E s:=by
 obtain⟨od,esd,epd,hod,hcd,hdd,hed,hid,hnd⟩:=id hd;obtain⟨oo,eso,epo,hoo,hco,hdo',heo,hio,hno⟩:=id ho;have e0:esd=#[]:=by
  have z:=KM hed;exact Array.eq_empty_of_size_eq_zero z
 subst e0;have hzo:eso.size=xs.length:=KM heo;unfold Kg;rw[DS (by simpa using hdo)];unfold Kq;rw[DS (by rw[hoS];exact DM)];refine De (Dg ?_);refine De (FN hoo hdo' ?_);dsimp only;cases xs with
 |nil=>exact absurd rfl hne0
 |cons x r=>
  have hfew:(decide (eso.size<=8)&&eso.all λe=>(keyPart e.key).isSome)=false:=by
   have z:(eso.all λe=>(keyPart e.key).isSome)=false:=by
    rw[<- Array.all_toList,heo,DP,GS];rfl
   rw[z,Jh]
  rw[hfew,Ee (by decide)];refine De (FN hod hdd ?_);rw[Ee (by decide)];refine De (qD hoo hdo' (λe q=>?_) ?_ ?_)
  ·rw[heo] at q;obtain⟨y,hy,rfl⟩:=EH.mp q;exact⟨_,rfl,hT y hy⟩
  ·rw[heo,Gk];exact hh
  ·have hne:¬ eso.isEmpty=true:=λz=>by
    rw[Array.isEmpty_iff.mp z] at hzo;cases hzo
   rw[Ee (by simpa using hne)];have hto:eso.size<=Ds+1:=by omega
   refine De (wpAny_updateDictKeysTo hod hdd (Dg (hQ _ ⟨_,_,epd+1,DX _ hod (Obj.isFreed_of_dict (K0 hdd _)),hcd.mapDictKeys _,
    K0 hdd _,heo,λy hy=>knd.keeps (hio y hy) hod hdd (Eu ..),hno⟩ (Eu ..))) hto)
theorem wK (hoS:(o == Fv)=false) (ho:s.heap.DictOfH knd o xs) (hsz:xs.length <= Ds) (hne0:xs ≠ [])
  (hT:∀ x∈xs,s.TypeIs (.ref x.2.1) "tuple")(hh:(xs.map λx=>knd.hash x.1).Nodup)(hpush:∀ x∈xs,knd.is (s.heap.push { cls:=.type "dict",data:=.dict #[] }) x.1 x.2.1)
  (h:∀ h',h'.DictOfH knd s.heap.objs.size xs->Ew s.heap.objs.size (s.heap.push { cls:=.type "dict",data:=.dict #[] }) h'->Q (.ref s.heap.objs.size) { s with heap:=h' }):
  Dy (DK prog w) A (call (.type "dict") [.ref o]) Q E s:=by
 refine callType_codes (Q₁:=λobj s₁=>obj=.ref s.heap.objs.size/\s₁={ s with heap:=s.heap.push { cls:=.type "dict",data:=.dict #[] } }) F.kt_called_dict (F.kt_typeCall_dict_1 _) F.entry_dict_init (kt_code_dict_new _ ⟨rfl,rfl⟩) ?_;rintro obj s₁ ⟨rfl,rfl⟩;have hnew:(s.heap.push { cls:=.type "dict",data:=.dict #[] }).DictOfH knd s.heap.objs.size []:=Heap.DictOfH.new s.heap;have hdo:s.heap.objs.size≠o:=by
  obtain⟨_,_,_,hg,_⟩:=ho;exact λe=>absurd (Dj hg) (by rw[e];exact Eh _)
 have ho':(s.heap.push { cls:=.type "dict",data:=.dict #[] }).DictOfH knd o xs:=by
  obtain⟨oo,es,ep,h1,h2,h3,h4,h5,h6⟩:=ho;exact⟨oo,es,ep,Df _ h1,h2,h3,h4,hpush,h6⟩
 refine⟨hnew.typeIs,F.args_dict_init_2 _ _,?_⟩;unfold Gn.«dict.__init__»;refine De ?_;unfold Builtin.Dict.selfAndRest;refine De (wpAny_notOrdered_dict hnew.typeIs ?_);show Dy _ _ (pure (s.heap.objs.size,[DQ o])) _ _ _;refine Dg ?_;show Dy _ _ (JM "dict.__init__" s.heap.objs.size (.ref o) [] .none) _ _ _;unfold JM;refine De (wpAny_typeOf ho'.typeIs ?_);rw[DS (by decide)];refine De ?_;unfold Builtin.Dict.merge;refine De ?_;unfold Builtin.Dict.readDirectly;refine De (Hl ho'.typeIs isSubtype_dict_dict ?_);simp only[Bool.not_true,EO,GG];refine De (HM ho'.typeIs F.slot_dict_iter.lookup (Dg ?_));simp only[Im,GQ];refine De (Dg ?_);refine t_ hdo hoS hnew ho' (λx hx=>?_) hh hsz hne0 λh' hd' hs'=>?_
 ·obtain⟨oo,e,c⟩:=hT x hx;exact⟨oo,Df _ e,c⟩
 show Dy _ _ (Builtin.Dict.addKeywords s.heap.objs.size []>>=_) _ _ _;exact De (Dg (Dg ⟨rfl,h h' hd' hs'⟩))
end
end PySem
namespace TR
open PySem PySem.Spec PyProof.Rows L2
section
variable {X:Cx}
theorem tD:br X (.builtin "len") (λxs H Q=>∃ p kvs,xs=[.ref p]/\Rd H p (.dT kvs)/\Q (.int kvs.length) H):=by
 intro pins s σ H xs us Q I r h;obtain⟨p,kvs,rfl,e,q⟩:=h;obtain⟨u,rfl,rx⟩:=fk r;cases rx;obtain⟨z,hd,vs,rel,dd⟩:=l4 I.hok e;have hn:=hU;have hl:kvs.length=vs.length:=rel.length;exact so hd dd (by omega) ⟨.int kvs.length,H,I.tok _,⟨_,by rw[hl]⟩,q⟩
end
def tM (kvs:List (List cU×V)):Prop:=∀ (P:DN) (w:Ez),(kvs.map λkv=>(GR (bi P w)).hash kv.1).Nodup
section
variable {X:Cx}
theorem xG (r:L2.KT H kvs xs) :
  (kvs.map λkv=>(GR (bi P w)).hash kv.1)=xs.map λx=>(GR (bi P w)).hash x.1:=by
 induction r with
 |nil=>rfl
 |cons h t ih=>rw[DP,DP,ih,h.1]
theorem wn (r:L2.KT H kvs xs):∀ x∈xs,H x.2.1=some (.tup (x.1.map kV)):=by
 induction r with
 |nil=>intro x hx;exact nomatch hx
 |@cons p q ps qs h t ih=>
  intro x hx;rcases Dx.mp hx with rfl|hx
  ·rw[<- h.1];exact h.2.1
  ·exact ih x hx
theorem qR:br X (.type "dict") (λxs H Q=>∃ p kvs,xs=[.ref p]/\Rd H p (.dT kvs)/\kvs≠[]/\tM kvs/\∀ a,H a=none->Q (.ref a) (upd H a (.dT kvs))):=by
 intro pins s σ H xs us Q I r h;obtain⟨p,kvs,rfl,e,hne,hh,q⟩:=h;obtain⟨u,rfl,rx⟩:=fk r;cases rx;obtain⟨z,hd,vs,rel,dd⟩:=l4 I.hok e;have hl:kvs.length=vs.length:=rel.length;have hk:=wn rel;have is0:∀ x∈vs,(GR (bi X.prog X.w)).is s.heap x.1 x.2.1:=λx hx=>kz I.hok (hk x hx)
 refine wK hd dd (by omega) (λz0=>?_) (λx hx=>(is0 x hx).typeIs) (by rw[<- xG rel];exact hh _ _) (λx hx=>?_) λh' hm hs=>?_
 ·rw[z0] at hl;exact hne (List.length_eq_zero_iff.mp hl)
 ·obtain⟨o,its,n,h1,h2,h3,h4⟩:=is0 x hx;exact⟨o,its,n,Df _ h1,h2,h3,h4⟩
 ·have kk:∀ b u,s.heap.get? b=some u->h'.get? b=some u:=λb u e=>(hs.2 b (DI (Dj e))).trans (Df _ e)
  obtain⟨oo,es,ep,g1,g2,g3,g4,g5,g6⟩:=hm;have fr:=I.hok.fresh (Dn s.heap.objs.size);refine⟨.ref s.heap.objs.size,_,I.laid (a:=s.heap.objs.size) (o:=.dT kvs) (t':=s.toks) kk (Dn _) ⟨z,ET.mpr (Fj (DI I.big)),vs,?_,oo,es,ep,g1,g2,g3,g4,g6⟩,rfl,q _ fr⟩;exact Paired.mapP rel λa b c=>⟨c.1,by rw[ap (aK c.2.1 fr)];exact c.2.1,c.2.2⟩
end
def bH (t:Nat×Nat×Nat):List cU:=[.inl (t.1:Int),.inl (t.2.1:Int),.inl (t.2.2:Int)]
def aG (k:Nat):List (Nat×Nat×Nat):=(Fm k).flatMap λa=>(Fm k).flatMap λb=>(Fm k).map λc=>(a,b,c)
def kW (t:Nat×Nat×Nat):Int:=reduceHash (Builtin.Tuple.tupleHashOf [hashInt (t.1:Int),hashInt (t.2.1:Int),hashInt (t.2.2:Int)])
theorem uU (P:DN)(w:Ez)(t:Nat×Nat×Nat):(GR (bi P w)).hash (bH t)=kW t:=by
 show tupleKeyHash (bi P w) (bH t)=kW t;unfold tupleKeyHash bH kW;simp only[DP,KA];rfl
set_option maxRecDepth 1000000 in
theorem wj:((aG 7).map kW).Nodup:=by decide +kernel
theorem yg:∀ {l:List α},(l.map f).Nodup->∀ {a b:α},a∈l->b∈l->f a=f b->a=b
 |[],_,_,_,h,_,_=>nomatch h
 |x::r,hn,a,b,ha,hb,e=>by
  rw[DP,E9] at hn;rcases Dx.mp ha with za|ha
  ·rcases Dx.mp hb with zb|hb
   ·rw[za,zb]
   ·exact absurd (EH.mpr ⟨b,hb,by rw[<- e,za]⟩) hn.1
  ·rcases Dx.mp hb with zb|hb
   ·exact absurd (EH.mpr ⟨a,ha,by rw[e,zb]⟩) hn.1
   ·exact yg hn.2 ha hb e
theorem bM {k:Nat}:t∈aG k↔t.1<k/\t.2.1<k/\t.2.2<k:=by
 obtain⟨a,b,c⟩:=t;unfold aG;simp only[Ke,EH,Fi,Prod.mk.injEq];constructor
 ·rintro⟨x,hx,y,hy,z,hz,rfl,rfl,rfl⟩;exact⟨hx,hy,hz⟩
 ·rintro⟨hx,hy,hz⟩;exact⟨a,hx,b,hy,c,hz,rfl,rfl,rfl⟩
theorem sI (ht:t∈aG 7)(hu:u∈aG 7)(e:kW t=kW u):t=u:=yg wj ht hu e
theorem ux {h:List cU->Int}{g:Nat×Nat×Nat->Int}(hg:∀ t,h (bH t)=g t):∀ {kvs:List (List cU×V)}{ts:List (Nat×Nat×Nat)},kvs.map (·.1)=ts.map bH->(kvs.map λkv=>h kv.1)=ts.map g
 |[],[],_=>rfl
 |[],_::_,e=>nomatch e
 |_::_,[],e=>nomatch e
 |p::r,t::q,e=>by
  rw[DP,DP] at e;injection e with e1 e2
  rw[DP,DP,ux hg e2,e1,hg]
theorem ph {g:Nat×Nat×Nat->Int}{l:List (Nat×Nat×Nat)}(hg:∀ {t u},t∈l->u∈l->g t=g u->t=u):∀ {ts:List (Nat×Nat×Nat)},ts.Nodup->(∀ t∈ts,t∈l)->(ts.map g).Nodup
 |[],_,_=>Jo
 |t::r,hn,hb=>by
  rw[E9] at hn;rw[DP,E9];refine⟨λz=>?_,ph hg hn.2 λu hu=>hb u (Do _ hu)⟩;obtain⟨u,hu,e⟩:=EH.mp z;have:=hg (hb u (Do _ hu)) (hb t DL) e;exact hn.1 (this▸hu)
theorem wa {h:List cU->Int}{g:Nat × Nat × Nat->Int}{l:List (Nat × Nat × Nat)} (h1:∀ t,h (bH t)=g t) (h2:∀ {t u},t ∈ l->u ∈ l->g t=g u->t=u) {kvs:List (List cU × V)}{ts:List (Nat × Nat × Nat)}
  (hk:kvs.map (·.1)=ts.map bH)(hn:ts.Nodup)(hb:∀ t∈ts,t∈l):(kvs.map λkv=>h kv.1).Nodup:=by
 rw[ux h1 hk];exact ph h2 hn hb
theorem oE {kvs:List (List cU×V)}{ts:List (Nat×Nat×Nat)}(hk:kvs.map (·.1)=ts.map bH)(hn:ts.Nodup)(hb:∀ t∈ts,t∈aG 7):tM kvs:=
 λP w=>wa (h:=(GR (bi P w)).hash) (g:=kW) (l:=aG 7) (uU P w) sI hk hn hb
end TR
namespace PySem
def Heap.RawD (h:Fp)(d:Du)(es:Array G9)(ep:Nat):Prop:=∃ o,h.get? d=some o/\o.ExactDict/\o.data=.dict es ep
section
variable {prog:DN}{w:Ez}{A:EK}{E:Di->Dk->Prop}{s:Dk}{d v:Du}{es:Array G9}{ep:Nat}
theorem Heap.RawD.typeIs (hm:s.heap.RawD d es ep):s.TypeIs (.ref d) "dict":=by obtain⟨o,ho,hc,_⟩:=hm;exact⟨o,ho,hc.1⟩
theorem Heap.RawD.of {K:Type}[DecidableEq K]{knd:HeapKind prog w K}{xs:List (K×Du×Di)}(hm:s.heap.DictOfH knd d xs):∃ es ep,s.heap.RawD d es ep/\es.toList=xs.map (entryOfKey knd):=by
 obtain⟨o,es,ep,h1,h2,h3,h4,_⟩:=hm;exact⟨es,ep,⟨o,h1,h2,h3⟩,h4⟩
theorem sY (d:Du) (hd:(d == Fv)=false) :
  MeetsIn prog w (Gn.«dict.items» ⟨[.ref d],[]⟩) (λ_ R s=>(∃ es ep,s.heap.RawD d es ep) /\
   R (.ok (.ret (.ref s.heap.objs.size))) { s with heap:=s.heap.push { cls:=.type "dict_items",data:=.fields #[.ref d] } }):=
 .of_wp λA R s ⟨⟨es,ep,hm⟩,h⟩=>by
  unfold Gn.«dict.items» Builtin.Dict.noArgs;refine De (De (wpAny_notOrdered_dict hm.typeIs (Dg ?_)));unfold Kq;rw[DS (by rw[hd];exact DM)];exact De (Dg (De (Es (Dg ⟨_,rfl,h⟩))))
theorem vg (hv:s.heap.IsItemsView v d) (hm:s.heap.RawD d es ep)
  (hQ:Q (.ref s.heap.objs.size) { s with heap:=s.heap.push { cls:=.type "dict_itemiterator",data:=.fields #[.none,.bool false,.ref d,.int 0 0,.int es.size 0,.int ep 0,.none,.none] } }):
  Dy (DK prog w) A (LH (.ref v)) Q E s:=by
 obtain⟨ov,hov,hcv,hdv⟩:=id hv;obtain⟨o,ho,hc,hdat⟩:=id hm;refine JK hv.typeIs Kh (EU Kh hv.typeIs F.entry_dict_items_iter ?_ (F.args_dict_items_iter_1 _));unfold Gn.«dict_items.__iter__» MC L8;refine De (Dg (De (De (EC hov hdv (x:=.ref d) rfl (Dg ?_)))));refine De (De (FN ho hdat (De (KN ho hdat ?_))));have hown:GC "dict_itemiterator"=true:=by decide
 simp only[hown,GQ];refine Es (Dg ⟨_,rfl,"dict_itemiterator",_,⟨_,Dl _ rfl,rfl⟩,Fb.lookup,?_⟩)
  (by simp only[sizeOk,Hm,DJ,EF,Et,IJ,EZ];omega)
 simpa [FK,Hm] using hQ
end
section
variable {prog:DN}{w:Ez}{A:EK}{E:Di->Dk->Prop}{s:Dk}{d it:Du}{es:Array G9}{i ep:Nat}{ok ov:Di}
theorem v5 (hh:A.handled=none) (hit:HX s.heap it d i es.size ep ok ov) (hm:s.heap.RawD d es ep) (hx:es.size <= i)
  (hQ:∀ h',IH it s.heap h'->Q none { s with heap:=h' }):Dy (DK prog w) A (HR (.ref it)) Q E s:=by
 obtain⟨od,hod,hcd,hdd⟩:=id hm;have hT:s.TypeIs (.ref it) "dict_itemiterator":=⟨_,hit,rfl⟩
 have hown:GC "dict_itemiterator"=true:=by decide
 unfold HR;refine De (F0 (EJ (name:=E4 "__next__") hT Fb
  (EU Fb hT Ih ?_ (HV _))))
 refine De (Dg (De (De ?_)))
 first|refine De (FC hT (Dg ?_))|refine De (F6 hT (Dg ?_))
 refine De (Jt hit rfl ?_);simp only[hown,GQ];show Dy _ _ (if(DQ d==D_)=true then _ else _) _ _ s;rw[DS (show ¬ ((DQ d==D_)=true) from DM)];refine De (Dg (De (FN hod hdd ?_)));rw[DS (by simp)];refine De (Dg (De (KN hod hdd ?_)));rw[DS (by simp)];refine Dg ?_;simp only[show ¬ ((i:Int)<0) from by omega,GG,ED,Array.getElem?_eq_none hx];refine De ?_
 first|refine De (FC hT (Dg ?_))|refine De (F6 hT (Dg ?_))
 show Dy _ _ (Mp (.ref it) 2 .none>>=_) _ _ s;refine De (Fa hit rfl (by simp) ?_);show Dy _ _ (newExc (.type "StopIteration") []>>=_) _ _ _;refine De ?_;simp only[newExc,newTuple];refine De (Es ?_ (by size_fits));refine De (m:=Hg _ _) (Ka (a:=D_) (by first|rfl|(simp only[Hg];rfl)) ?_);refine Es ?_ (by size_fits);simp only[raiseNew];refine De (LK ?_);rw[show A.in1.handled=none from hh];refine De (Dg (Lm ?_));refine De (Hl (T:="StopIteration") (b:=true) ⟨_,Dl _ rfl,rfl⟩ K4 ?_);exact Dg (hQ _ (((Eu ..).extBut.push _).push _))
theorem vz (hit:HX s.heap it d i es.size ep ok ov) (hm:s.heap.RawD d es ep) (hx:es[i]?=some e)
  (hQ:∀ h',Ls h' it d (i+1) es.size ep e.key e.val s.heap.objs.size->h'.get? s.heap.objs.size=some { cls:=.type "tuple",data:=.seq #[e.key,e.val] }->h'.objs.size=s.heap.objs.size+1 ->
   (∀ b o,b≠it->s.heap.get? b=some o->h'.get? b=some o)->Q (some (.ref s.heap.objs.size)) { s with heap:=h' }):Dy (DK prog w) A (HR (.ref it)) Q E s:=by
 obtain⟨hp,g,dr,tk,os⟩:=s;obtain⟨od,hod,hcd,hdd⟩:=id hm;have hT:LF ⟨hp,g,dr,tk,os⟩ (.ref it) "dict_itemiterator":=⟨_,hit,rfl⟩
 have hown:GC "dict_itemiterator"=true:=by decide
 unfold HR;refine De (F0 (EJ (name:=E4 "__next__") hT Fb
  (EU Fb hT Ih ?_ (HV _))))
 refine De (Dg (De (De ?_)))
 first|refine De (FC hT (Dg ?_))|refine De (F6 hT (Dg ?_))
 refine De (Jt hit rfl ?_);simp only[hown,GQ];show Dy _ _ (if(DQ d==D_)=true then _ else _) _ _ _;rw[DS (show ¬ ((DQ d==D_)=true) from DM)];refine De (Dg (De (FN hod hdd ?_)));rw[DS (by simp)];refine De (Dg (De (KN hod hdd ?_)));rw[DS (by simp)];refine Dg ?_;simp only[show ¬ ((i:Int)<0) from by omega,GG,ED,hx];refine De ?_
 first|refine De (FC hT (Dg ?_))|refine De (F6 hT (Dg ?_))
 refine De (HS hT ?_);show Dy _ _ (Mp (.ref it) 3 (FK ((i:Int)+1))>>=_) _ _ ⟨hp,g,dr,tk,os⟩;refine De (EQ hit (by simp) λh₁ he₁ hs₁=>?_);replace hs₁:Ew it hp h₁:=hs₁;replace he₁:HX h₁ it d (i+1) es.size ep ok ov:=by
  have e:((i+1:Nat):Int)=(i:Int)+1:=by omega
  unfold HX;rw[e];simpa [FK] using he₁
 have hT₁:LF ⟨h₁,g,dr,tk,os⟩ (.ref it) "dict_itemiterator":=⟨_,he₁,rfl⟩
 refine De (Em (De (HS hT₁ (De (HS hT₁ ?_)))));show Dy _ _ (HN (.ref it) 6 e.key e.val) _ _ ⟨h₁,g,dr,tk,os⟩;unfold HN;refine De (K6 ?_);have hz₁:h₁.objs.size=hp.objs.size:=hs₁.1;have hil:it<hp.objs.size:=Dj hit;have up:∀ b o,b≠it->hp.get? b=some o->(h₁.push { cls:=.type "tuple",data:=.seq #[e.key,e.val] }).get? b=some o:=λb o hb q=>Df _ (hs₁.extBut b o hb q)
 have he₂:HX (h₁.push { cls:=.type "tuple",data:=.seq #[e.key,e.val] }) it d (i+1) es.size ep ok ov:=Df _ he₁;have ht₂:(h₁.push { cls:=.type "tuple",data:=.seq #[e.key,e.val] }).get? hp.objs.size=some { cls:=.type "tuple",data:=.seq #[e.key,e.val] }:=by rw[<- hz₁];exact Dl _ rfl
 have hz₂:(h₁.push { cls:=.type "tuple",data:=.seq #[e.key,e.val] }).objs.size=hp.objs.size+1:=by rw[EA,hz₁]
 rw[hz₁];generalize h₁.push { cls:=.type "tuple",data:=.seq #[e.key,e.val] }=h₂ at up he₂ ht₂ hz₂ ⊢;show Dy _ _ (Hn (.ref it)>>=_) _ _ ⟨h₂,g,dr,tk,os⟩;clear he₁ hs₁ hT₁ hz₁ h₁;refine De ?_;unfold Hn;refine De (EC he₂ rfl (x:=.none) rfl (Dg ?_));simp only[GQ];refine De (EC he₂ rfl (x:=ok) rfl (De (EC he₂ rfl (x:=ov) rfl ?_)));refine De (EQ he₂ (by simp) λh₃ he₃ hs₃=>?_);replace hs₃:Ew it h₂ h₃:=hs₃;replace he₃:HX h₃ it d (i+1) es.size ep e.key ov:=he₃;refine De (EQ he₃ (by simp) λh₄ he₄ hs₄=>?_);replace hs₄:Ew it h₃ h₄:=hs₄;replace he₄:HX h₄ it d (i+1) es.size ep e.key e.val:=he₄;refine De (EQ he₄ (by simp) λh₅ he₅ hs₅=>?_);replace hs₅:Ew it h₄ h₅:=hs₅;replace he₅:Ls h₅ it d (i+1) es.size ep e.key e.val hp.objs.size:=he₅;refine De (EQ he₅ (by simp) λh₆ he₆ hs₆=>?_);replace hs₆:Ew it h₅ h₆:=hs₆;replace he₆:Ls h₆ it d (i+1) es.size ep e.key e.val hp.objs.size:=he₆;have all:∀ b o,b≠it->h₂.get? b=some o->h₆.get? b=some o:=λb o hb q=>hs₆.extBut b o hb (hs₅.extBut b o hb (hs₄.extBut b o hb (hs₃.extBut b o hb q)))
 refine De (J_ (Dg (Dg ⟨_,rfl,Dg (hQ h₆ he₆ (all _ _ (FB hil) ht₂) ?_ λb o hb q=>all b o hb (up b o hb q))⟩)));show h₆.objs.size=hp.objs.size+1;rw[hs₆.1,hs₅.1,hs₄.1,hs₃.1,hz₂]
end
end PySem
namespace TR
open PySem PySem.Spec PyProof.Rows L2
section
variable {X:Cx}{pins:List (Du×Obj)}{σ:L2.St}{H:Hp}{s:Dk}{d:Du}{u u':HO}
theorem oN (I:av X pins σ H s)(e:H d=some u)(nt:∀ xs,u≠.tup xs)(no:∀ x,u≠.own x)(ntb:∀ ps,u≠.tbl ps)(nf:∀ o w,X.H₀ d≠some (.frz o w))(new:be X.prog X.w (upd H d u') s.heap d u'):av X pins σ (upd H d u') s:=by
 have ne:∀ b,H b=none->b≠d:=λb z q=>by rw[q,e] at z;cases z
 have fr:∀ b,H b=none->upd H d u' b=none:=λb z=>by rw[ap (ne b z)];exact z
 refine⟨I.ok,I.os,I.bare,⟨I.base.keep,I.base.slot,λb o q n hx=>fr b (I.base.free b o q n hx),I.base.there,λb xs q=>?_,λb o w q=>?_,λb ps q=>?_⟩,I.loc,I.cell,fr _ I.free,λx c q=>fr _ (I.freeC x c q),λp hp=>?_,λb o q=>?_,I.len⟩
 ·have z:=I.base.tups b xs q;rw[ap (λk=>nt xs (by rw[k,e] at z;exact Dm z))];exact z
 ·have z:=I.base.frzs b o w q;rw[ap (λk=>nf o w (by rw[<- k];exact q))];exact z
 ·obtain⟨more,z⟩:=I.base.tbls b ps q;exact⟨more,by rw[ap (λk=>ntb _ (by rw[k,e] at z;exact Dm z))];exact z⟩
 ·obtain⟨a1,a2,a3⟩:=I.pin p hp;exact⟨a1,fr _ a2,a3⟩
 ·by_cases hb:b=d
  ·subst hb;rw[ac] at q;cases q;exact new
  ·rw[ap hb] at q;refine(I.hok b o q).stay (λ_ _ _ z=>z) (λc z=>?_) λc xs z=>?_
   ·rw[ap (λk=>no b (by rw[k,e] at z;exact Dm z))];exact z
   ·rw[ap (λk=>nt xs (by rw[k,e] at z;exact Dm z))];exact z
theorem qd (I:av X pins σ H s)(e:H d=some (.dT kvs)):∃ o,s.heap.get? d=some o/\av X pins σ (upd H d (.frz o (.dT kvs))) s:=by
 have ok:=I.hok d _ e;obtain⟨_,_,_,_,o,es,ep,g1,_⟩:=id ok;refine⟨o,g1,oN I e (λ_ z=>nomatch z) (λ_ z=>nomatch z) (λ_ z=>nomatch z) (λob w z=>?_) ⟨g1,?_⟩⟩
 ·have:=I.base.frzs d ob w z;rw[e] at this;cases this
 ·exact(show be X.prog X.w H s.heap d (.dT kvs) from ok).stay (λ_ _ _ z=>z) (λc z=>by
   by_cases k:c=d
   ·rw[k,e] at z;cases z
   ·rw[ap k];exact z) λc xs z=>by
   by_cases k:c=d
   ·rw[k,e] at z;cases z
   ·rw[ap k];exact z
theorem uf (I:av X pins σ H s)(e:H d=some (.frz o (.dT kvs)))(nf:∀ o w,X.H₀ d≠some (.frz o w)):av X pins σ (upd H d (.dT kvs)) s:=by
 have ok:=I.hok d _ e;obtain⟨_,ok⟩:=(show s.heap.get? d=some o/\be X.prog X.w H s.heap d (.dT kvs) from ok)
 refine oN I e (λ_ z=>nomatch z) (λ_ z=>nomatch z) (λ_ z=>nomatch z) nf (ok.stay (λ_ _ _ z=>z) (λc z=>?_) λc xs z=>?_)
 ·by_cases k:c=d
  ·rw[k,e] at z;cases z
  ·rw[ap k];exact z
 ·by_cases k:c=d
  ·rw[k,e] at z;cases z
  ·rw[ap k];exact z
end
section
variable {X:Cx}
def Av (t:TE):TE:=λσ H Q=>t σ H λv H'=>∃ d o kvs,H d=some (.dT kvs)/\H' d=some (.frz o (.dT kvs))/\Q v (upd H' d (.dT kvs))
theorem ve (h:WE X e t):WE X e (Av t):=by
 have h:=h.go;refine⟨?_⟩;intro pins s σ H Q I q;refine bo (h pins s σ H _ I q) λu s1 h1=>?_
 obtain⟨v,H1,I1,r1,d,o,kvs,e0,e1,q1⟩:=h1;exact⟨v,_,uf I1 e1 λo w z=>(by
  have:=I.base.frzs d o w z;rw[e0] at this;cases this),r1,q1⟩
end
def B_ (d:Du)(o:Obj)(kvs:List (List cU×V)):It:=
 ⟨λi H=>H d=some (.frz o (.dT kvs))/\i<kvs.length,
  λi H v H'=>∃ (k:List cU) (x:V) (ka T:Du),kvs[i]?=some (k,x)/\H ka=some (.tup (k.map kV))/\H T=none/\v=.ref T/\H'=upd H T (.tup [.ref ka,x]),
  λi H=>H d=some (.frz o (.dT kvs))/\kvs.length<=i⟩
theorem mh:∀ {l₁:List α}{l₂:List β}{i:Nat}{a:α},Paired F l₁ l₂->l₁[i]?=some a->∃ b,l₂[i]?=some b/\F a b
 |_,_,_,_,.nil,e=>by simp at e
 |_,_,0,_,.cons r _,e=>by simp at e;subst e;exact⟨_,rfl,r⟩
 |_,_,i+1,x,.cons _ t,e=>by
  obtain⟨u,h1,h2⟩:=mh (i:=i) (a:=x) t (by simpa using e);exact⟨u,by simpa using h1,h2⟩
theorem qU {ep:Nat} (hd:o.data=.dict es ep) (ok:be P w H h d (.frz o (.dT kvs))) :
  h.RawD d es ep/\es.size=kvs.length/\∀ (i:Nat) (k:List cU) (x:V),kvs[i]?=some (k,x)->∃ (e:G9) (ka:Du) (u:Di),es[i]?=some e/\e.key=.ref ka/\e.val=u/\H ka=some (.tup (k.map kV))/\RelV x u:=by
 obtain⟨g1,_,_,xs,pr,o',es',ep',g2,ex,dd,ee,_⟩:=ok;rw[g1] at g2;cases g2;rw[hd] at dd;cases dd;refine⟨⟨_,g1,ex,hd⟩,?_,λi k x hx=>?_⟩
 ·have z:=FS Le ee;rw[Dh,Fd] at z;rw[z];exact pr.length.symm
 ·obtain⟨⟨k',ka,u⟩,h1,h2,h3,h4⟩:=mh pr hx;refine⟨entryOfKey (GR (bi P w)) (k',ka,u),ka,u,?_,rfl,rfl,h3,h4⟩;rw[<- FW,ee,Dp,h1];rfl
theorem qp {P:DN}{w:Ez}{K:Dd}{elts:List Fs}{tk:Nat}{pos:Pos}{it d:Du}{o:Obj}{kvs:List (List cU × V)}{es:Array G9}{ep:Nat} (hd:o.data=.dict es ep) :
  lB P w K (.Tuple elts tk pos) (B_ d o kvs) [it] it (λi h=>∃ ok ov,HX h it d i es.size ep ok ov) where
 mem:=by simp
 obj:=λi h st b hb=>by
  obtain⟨ok,ov,e⟩:=st;cases DC.mp hb;exact⟨_,e,λv z=>nomatch z⟩
 keep:=λi h h' st k=>by
  obtain⟨ok,ov,e⟩:=st;exact⟨ok,ov,k it (by simp) _ e⟩
 item:=by
  intro X hP hw hK hc i pins s σ H E I hf st hg;subst hP hw hK;obtain⟨ok,ov,hit⟩:=st;obtain⟨hH,hi⟩:=hg;obtain⟨raw,hsz,at_⟩:=qU hd (I.hok d _ hH);obtain⟨e,ka,u,e1,e2,e3,e4,e5⟩:=at_ i _ _ (DB hi);refine vz hit raw e1 λh' hit' hT hz kk=>⟨_,rfl,?_⟩
  refine wpAny_letOwnedTupleGo_items hit' λg' z' sb=>?_
  have nit:it<s.heap.objs.size:=Dj hit;have tz:s.heap.objs.size≠it:=FB nit;have k2:∀ b o,b≠it->s.heap.get? b=some o->g'.get? b=some o:=λb o hb e=>sb.extBut b o hb (kk b o hb e)
  have fit:=hf it (by simp);have I1:av X pins σ H { s with heap:=g' }:=I.turned (it:=it) (t':=s.toks) k2 fit.1 fit.2.1 fit.2.2.2.1 fit.2.2.2.2.1 fit.2.2.2.2.2;have hT':g'.get? s.heap.objs.size=some { cls:=.type "tuple",data:=.seq #[e.key,e.val] }:=sb.extBut _ _ tz hT;have fT:H s.heap.objs.size=none:=I.hok.fresh (Dn _);have F:=I.fpOk (b:=s.heap.objs.size) (H':=H) (Dn _) fT;have I2:av X pins σ (upd H s.heap.objs.size (.tup [.ref ka,kvs[i].2])) { s with heap:=g' }:=f9 I1 fT I.sz F.2.1 F.2.2.2.2.1 F.2.2.2.2.2
   ⟨by show 2<=Ds;decide,[e.key,e.val],.cons (by rw[e2];rfl) (.cons (by rw[e3];exact e5) .nil),⟨_,hT',rfl,_,rfl⟩⟩
  exact⟨.ref s.heap.objs.size,_,I2,rfl,⟨kvs[i].1,kvs[i].2,ka,s.heap.objs.size,DB hi,e4,fT,rfl,rfl⟩,⟨_,_,z'⟩,λb hb=>by
   cases DC.mp hb;rw[ap (Fj tz)];exact fit.1⟩
 done:=by
  intro X hP hw hK hc i pins s σ H E I hf st hg;subst hP hw hK;obtain⟨ok,ov,hit⟩:=st;obtain⟨hH,hi⟩:=hg;obtain⟨raw,hsz,_⟩:=qU hd (I.hok d _ hH);have fit:=hf it (by simp);exact v5 (I.ok.hd hc) hit raw (by omega) λh' ex=>⟨rfl,I.turned (it:=it) (t':=s.toks) (λb o hb e=>ex b o hb e) fit.1 fit.2.1 fit.2.2.2.1 fit.2.2.2.2.1 fit.2.2.2.2.2⟩
 self:=λ_ _ _ _ _ st h=>by
  obtain⟨ok,ov,hit⟩:=st;exact PySem.W.kcp_self hit h
section
variable {X:Cx}
def yO (to:TE):TI:=λσ H R=>to σ H λx H1=>∃ d kvs,x=.ref d/\H1 d=some (.dT kvs)/\∀ o,R (B_ d o kvs) (upd H1 d (.frz o (.dT kvs)))
theorem si {o:Fs}{to:TE}{apos cpos tpos:Pos}{elts:List Fs}{tk:Nat} (ho:WE X o to)
  (hbase:Iz o "items" X.env (GI o X.env)=GI o X.env:=by rfl)(hline:(apos.endLine==cpos.line)=true:=by rfl):WI X (.Tuple elts tk tpos) (.Call (.Attribute o "items" apos) [] [] cpos) (yO to):=by
 have ho:=ho.go;refine⟨?_⟩;intro pins s σ H R I h;refine wpAny_Call_method0_late hbase hline (bo (ho pins s σ H _ I h) λv s1 ⟨x,H1,I1,r1,q1⟩=>?_);obtain⟨d,kvs,rfl,hH,q⟩:=q1;obtain⟨h1,h2⟩:=u_ (T:="dict") I1 r1 (.inr (.inr (.inl ⟨rfl,.inr ⟨kvs,hH⟩⟩)));cases r1;refine⟨"dict","dict.items",PySem.F.plainAttrs_dict,JU,PySem.F.type_dict_items,h1,h2,HP rfl (PySem.evalArgs_none ?_)⟩;obtain⟨z,hd,vs,rel,dd⟩:=l4 I1.hok (.inl hH);obtain⟨es,ep,raw,hes⟩:=Heap.RawD.of dd;refine call_meetsIn JU h1 PySem.F.entry_dict_items (PySem.F.args_dict_items_1 _) (sY d hd) ⟨⟨es,ep,raw⟩,?_⟩;obtain⟨ob,g1,I2⟩:=qd I1 hH;obtain⟨o',g1',_,gd⟩:=id raw;rw[g1] at g1';cases g1';have k1:∀ b u,s1.heap.get? b=some u->(s1.heap.push { cls:=.type "dict_items",data:=.fields #[.ref d] }).get? b=some u:=λb u e=>Df _ e
 have I3:=I2.kept (t':=s1.toks) k1;have raw3:(s1.heap.push { cls:=.type "dict_items",data:=.fields #[.ref d] }).RawD d es ep:=by
  obtain⟨o',a1,a2,a3⟩:=raw;exact⟨o',k1 _ _ a1,a2,a3⟩
 have hv:(s1.heap.push { cls:=.type "dict_items",data:=.fields #[.ref d] }).IsItemsView s1.heap.objs.size d:=⟨_,Dl _ rfl,rfl,rfl⟩
 refine vg (s:={ s1 with heap:=s1.heap.push { cls:=.type "dict_items",data:=.fields #[.ref d] } }) hv raw3 ?_;generalize s1.heap.push { cls:=.type "dict_items",data:=.fields #[.ref d] }=g at I3 raw3 hv ⊢;refine⟨g.objs.size,[g.objs.size],_,_,_,rfl,I3.kept (t':=s1.toks) λb u e=>Df _ e,qp gd,⟨_,_,Dl _ rfl⟩,λb hb=>?_,q ob⟩;cases DC.mp hb;exact I3.fpOk (Dn _) (I3.hok.fresh (Dn _))
end
end TR
namespace TR
open PySem PySem.Spec PyProof.Rows
def pW (n:Nat):List Int:=(Fm n).map λ(i:Nat)=>(i:Int)
theorem yz {n i:Nat}(h:i<n):(pW n)[i]?=some (i:Int):=by unfold pW;simp[h]
theorem ir (n:Nat):(pW n).length=n:=by unfold pW;simp
theorem zx {n:Nat}(hl:vs.length=n)(h:∀ (i:Nat) (v:Di),vs[i]?=some v->∃ t,v=Hf (i:Int) t):Ho vs (pW n):=by
 have go:∀ (vs:List Di) (k:Nat),(∀ (i:Nat) (v:Di),vs[i]?=some v->∃ t,v=Hf ((k+i:Nat):Int) t)->Ho vs ((List.range' k vs.length).map λ(i:Nat)=>(i:Int)):=by
  intro vs
  induction vs with
  |nil=>intro k _;exact .nil
  |cons v vs ih=>
   intro k h;obtain⟨t,e⟩:=h 0 v rfl;subst e;rw[Et,List.range'_succ,DP];refine .cons _ t (ih (k+1) λi v hv=>?_);obtain⟨t',e⟩:=h (i+1) v (by simpa using hv);exact⟨t',by rw[e];congr 1;omega⟩
 have:=go vs 0 λi v hv=>by simpa using h i v hv
 rw[<- List.range_eq_range',hl] at this;exact this
open L2
theorem ix:∀ {vs:List Di}{ns:List Int},Ho vs ns->aJ (ns.map V.int) vs
 |_,_,.nil=>.nil
 |_,_,.cons n t h=>.cons ⟨t,rfl⟩ (ix h)
section
variable {X:Cx}
def B8 (ta:TA):TE:=λσ H Q=>ta σ H λvs H1=>∃ n:Nat,vs=[.int n]/\n<=1000/\∀ p,H1 p=none->Q (.ref p) (upd H1 p (.rng 0 n))
theorem xL (hg:Gl X "range")(hm:X.mg "range"=none)(ha:WA X [a] ta)(hs:DO [a] X.env=[(false,GI a X.env)]:=by rfl):WE X (.Call (.Name "range" p) [a] [] pos) (B8 ta):=by
 have ha:=ha.go;refine⟨?_⟩;intro pins s σ H Q I h;refine Call_ (e6 I hg hm boot_range (E3 (bo (ha pos pins s σ H _ I h) λus s1 ⟨vs,H1,I1,r1,q1⟩=>?_) hs rfl));obtain⟨n,rfl,hn,q⟩:=q1;cases r1 with
 |cons r rr=>
  cases rr;obtain⟨t,rfl⟩:=r;exact call_range_1 ⟨.ref s1.heap.objs.size,_,I1.laid (a:=s1.heap.objs.size) (o:=.rng 0 n) (t':=_) (λb o e=>Df _ e) (Dn _) ⟨_,_,_,Dl _ rfl⟩,rfl,q _ (I1.hok.fresh (Dn _))⟩
def uE:List V->Hp->VK->Prop:=λxs H Q=>∃ (p:Du) (n:Nat),xs=[.ref p]/\H p=some (.rng 0 n)/\n<=1000/\∀ l,H l=none->Q (.ref l) (upd H l (.lst ((pW n).map V.int)))
theorem m7 (hc:X.calm=true):br X (.type "list") uE:=by
 intro pins s σ H xs us Q I r h;obtain⟨p,n,rfl,hp,hn,q⟩:=h;obtain⟨u,rfl,ru⟩:=fk r;cases ru;obtain⟨t,u,v,e⟩:=(show be X.prog X.w H s.heap p (.rng 0 n) from I.hok _ _ hp)
 refine call_list_range (n:=n) (I.ok.hd hc) e (small_one (a:=0) (b:=n) (by omega) (by omega) (by omega) (by omega)) (by rw[rangeSize_one];split<;>omega) (by omega) λh' tk acc c hk hD hI=>?_
 have hv:Ho acc.toList (pW n):=zx (by rw[Fd];exact hI.1) λi v hv=>by
  obtain⟨t',e⟩:=hI.2 i v (by rw[<- FW];exact hv);exact⟨t',by rw[e];congr 1;omega⟩
 refine⟨.ref s.heap.objs.size,_,I.laid (a:=s.heap.objs.size) (o:=.lst ((pW n).map V.int)) (t':=tk) hk (Dn _) ⟨?_,acc.toList,c,ix hv,by rw[Array.toArray_toList];exact hD⟩,rfl,q _ (I.hok.fresh (Dn _))⟩;rw[Dh,ir];exact cO hn
end
abbrev xW (q:Str):HO:=.tbl #[.str q 0]
def wz (Tb:Du->Option Str)(own:Bool)(a:Du)(o:Obj)(ns:List Int):Hp:=λb=>match Tb b with
 |some q=>some (xW q)
 |none=>if own=true/\b=a then some (.frz o (.lst (ns.map V.int))) else none
theorem sk {P:DN}{w:Ez}{K:Dd}{mg mb:Str->Option Di}{CX:iG}{k:Nat}{fa a:Du}{fd:F8}{x:Str}{sp:Sp}{s₁:Dk}{vs:List Di}{ns:List Int} (Tb:Du->Option Str)
  (KX:K.In s₁.heap)(hns:s₁.heap.Ns Dr mg)(hb:s₁.heap.Ns Ib mb)(hbb:∀ x:Str,x≠"__name__"->mb x=Ey x)(hlim:s₁.heap.NoLimit)(hg:s₁.gens=#[])
  (hbm:∃ bm o,mg "__builtins__"=some (.ref bm)/\bm≠Ib/\s₁.heap.get? bm=some o/\o.cls=.type "module"/\o.dict=some Ib/\o.data=.plain)
  (hT:∀ b q,Tb b=some q->s₁.heap.get? b=some { cls:=.none,data:=.fields #[] }/\isCodeTable s₁.heap b/\K.lookup b=none)
  (ha:s₁.heap.get? a=some { cls:=.type "list",data:=.seq vs.toArray })(hi:Ho vs ns)(hl:ns.length<=Ds)(hr:Room k MA)
  (F:∀ base:Fp,K.In base->base.Ns Dr mg->iX P w K mg base CX k fa fd [x] sp)(hbind:∀ (s:Dk) (u:Di),Mr s fd ⟨[u],[]⟩ [(x,u)])
  (hsp:∀ H:Hp,(∀ b q,Tb b=some q->H b=some (xW q))->bj K H a (ns.map V.int)->sp [.ref a] H (λv _=>v=.bl true) λ_ _ _=>False)
  (hCX:∀ H e s',CX [] H s₁ (λ_ _ _=>False) e s'->False):
  Gq (DK P w) MA (.call (.ref fa) ⟨[.ref a],[]⟩) (λr s'=>r=.ok (.ret (.bool true))/\OldK s₁.heap s'.heap/\s'.os=s₁.os/\Ko s'.gens) s₁:=by
 have rv:=eG hi;have nTa:Tb a=none:=by
  cases q:Tb a with
  |none=>rfl
  |some z=>
   have:=(hT a z q).1;rw[ha] at this;cases this
 obtain⟨own,hown⟩:∃ own:Bool,own=(K.lookup a).isNone:=⟨_,rfl⟩
 let H:Hp:=wz Tb own a { cls:=.type "list",data:=.seq vs.toArray } ns
 have HT:∀ b q,Tb b=some q->H b=some (xW q):=λb q e=>by
  show(match Tb b with|some q=>some (xW q)|none=>_)=_;rw[e]
 have cases_:∀ b u,H b=some u->(∃ q,Tb b=some q/\u=xW q)\/(own=true/\b=a/\u=.frz { cls:=.type "list",data:=.seq vs.toArray } (.lst (ns.map V.int))):=λb u e=>by
  have e':(match Tb b with|some q=>some (xW q)|none=>if own=true/\b=a then some (HO.frz { cls:=.type "list",data:=.seq vs.toArray } (.lst (ns.map V.int))) else none)=some u:=e;cases q:Tb b with
  |some z=>
   rw[q] at e';exact .inl ⟨z,rfl,(Dm e').symm⟩
  |none=>
   rw[q] at e';dsimp only at e'
   split at e'
   ·rename_i hc
    exact .inr ⟨hc.1,hc.2,(Dm e').symm⟩
   ·cases e'
 have ok:gm P w H s₁.heap:=λb u e=>by
  rcases cases_ b u e with ⟨q,hq,rfl⟩|⟨_,rfl,rfl⟩
  ·exact⟨#[],(hT b q hq).1,trivial,q,0,rfl,λpos cv z=>nomatch z⟩
  ·exact⟨ha,by rw[Dh];exact hl,vs,_,rv,ha⟩
 have hS:bj K H a (ns.map V.int):=by
  cases hk:K.lookup a with
  |some o=>
   have e:=KX a o hk;rw[ha] at e;cases e;exact .inr ⟨_,vs.toArray,_,hk,rfl,rfl,rfl,by rw[DJ,hi.length];exact hl,by simpa using rv⟩
  |none=>
   refine .inl (.inr ⟨{ cls:=.type "list",data:=.seq vs.toArray },?_⟩);show(match Tb a with|some q=>some (xW q)|none=>if own=true/\a=a then some (HO.frz { cls:=.type "list",data:=.seq vs.toArray } (.lst (ns.map V.int))) else none)=_;rw[nTa];dsimp only;rw[Ee ⟨by rw[hown,hk];rfl,rfl⟩]
 have un:∀ {b:Du}{o:Obj},s₁.heap.get? b=some o->(∀ its n,o.data≠.seq its n)->(∀ ws,o.data≠.fields ws)->H b=none:=λ{b o} e h1 h2=>by
  cases q:H b with
  |none=>rfl
  |some u=>
   rcases cases_ b u q with ⟨z,hz,_⟩|⟨_,rfl,_⟩
   ·have:=(hT b z hz).1;rw[e] at this;cases this;exact absurd rfl (h2 _)
   ·rw[ha] at e;cases e;exact absurd rfl (h1 _ _)
 have nsK:∀ {b:Du}{m:Str->Option Di},s₁.heap.Ns b m->(oR s₁.heap H).Ns b m:=λ{b m} ⟨o,es,ep,e,d,r⟩=>⟨o,es,ep,kS e (un e (λ_ _ z=>by rw[d] at z;cases z) λ_ z=>by rw[d] at z;cases z),d,r⟩
 have hKb:K.In (oR s₁.heap H):=λb o e=>kS (KX b o e) (by
  cases q:H b with
  |none=>rfl
  |some u=>
   rcases cases_ b u q with ⟨z,hz,_⟩|⟨ho,rfl,_⟩
   ·rw[(hT b z hz).2.2] at e;cases e
   ·rw[hown,e] at ho;cases ho)
 have hM:Mod K mg (oR s₁.heap H):=⟨hKb,nsK hns,⟨mb,nsK hb,hbb⟩,let ⟨mc,h1,h2⟩:=hlim;⟨mc,nsK h1,h2⟩,by
  obtain⟨bm,o,b1,b2,b3,b4,b5,b6⟩:=hbm;exact⟨bm,o,b1,b2,kS b3 (un b3 (λ_ _ z=>by rw[b6] at z;cases z) λ_ z=>by rw[b6] at z;cases z),b4,b5,b6⟩⟩
 have e0:qr P w K mg (oR s₁.heap H) MA [] s₁ H:=⟨rfl,hM,λb o e=>wX e,Nat.le_of_eq (sV _ _),trivial,λb hb=>absurd (show b∈([]:List Du) from hb) (by simp),ok,.of_eq hg⟩
 refine GP ((F _ hKb (nsK hns)).run MA [] s₁ H ⟨[.ref a],[]⟩ [.ref a] [.ref a] _ _ hr e0 (hbind s₁ (.ref a)) (.cons rfl .nil) (hsp H HT hS)) λr s' h=>?_
 cases r with
 |error e=>exact(hCX H e s' h).elim
 |ok fl=>
  cases fl with
  |next=>exact FD h
  |brk=>exact FD h
  |cont=>exact FD h
  |ret u=>
   obtain⟨v,H',os,bare,un',hok',r',q⟩:=h;have q':v=.bl true:=q;subst q';obtain rfl:u=IA true:=r';have old:∀ b o,s₁.heap.get? b=some o->asItWas s₁.heap s'.heap b o:=λb o e=>by
    cases z:H b with
    |none=>exact .inl (un'.keep b o e z (by intro z;exact absurd (show b∈([]:List Du) from z) (by simp)) (by simp))
    |some u=>
     rcases cases_ b u z with ⟨n,hn,rfl⟩|⟨_,rfl,rfl⟩
     ·obtain⟨more,z2⟩:=un'.tbls b _ z;obtain⟨ps,e2,_⟩:=(show be P w H' s'.heap b (.tbl _) from hok' b _ z2)
      obtain⟨e1,ct,_⟩:=hT b n hn;rw[e] at e1;cases e1;exact .inr (.inl ⟨ct,rfl,#[],ps,rfl,by simpa using e2⟩)
     ·have z2:=un'.frzs _ _ _ z;obtain⟨e2,_⟩:=(show s'.heap.get? _=some _/\_ from hok' _ _ z2)
      rw[ha] at e;cases e;exact .inl e2
   refine⟨rfl,⟨old,λb o e=>?_⟩,os,bare⟩;rcases old b o e with x|⟨_,_,_,_,_,x⟩|⟨_,_,⟨o',_,_,x,_⟩,_⟩
   ·exact⟨_,x⟩
   ·exact⟨_,x⟩
   ·exact⟨_,x⟩
def xY (K:Dd)(x:Str)(P:Du):Prop:=∃ (f:Du) (oc:Di) (od:Option Du) (fd:F8) (sl:Array (Option Di)) (c:Du),DG K Dr x=some (some (.ref f))/\K.lookup f=some ⟨oc,od,.func fd,sl⟩/\fd.code=.ref c /\
 (∀ h:Fp,K.In h->PySem.W.CodeHd h c P)/\fd.qualname=x
def CQ (K:Dd)(x:Str)(H:Hp):Prop:=∃ P,xY K x P/\H P=some (xW (x++".<locals>."++"<lambda>"))
def vM (ts:List (Str×Du))(b:Du):Option Str:=(ts.find? λp=>p.2==b).map λp=>p.1++".<locals>."++"<lambda>"
structure mQ (K:Dd)(tA:List Du)(ts:List (Str×Du)):Prop where
 nodup:(ts.map (·.2)).Nodup
 tab:∀ p∈ts,p.2∈tA/\K.lookup p.2=none/\(∀ h:Fp,K.In h->isCodeTable h p.2)/\xY K p.1 p.2
theorem uR (h:vM ts b=some q):∃ p∈ts,p.2=b/\q=p.1++".<locals>."++"<lambda>":=by
 unfold vM at h;obtain⟨p,e,rfl⟩:=DA.mp h;exact⟨p,List.mem_of_find?_eq_some e,eq_of_beq (List.find?_some (p:=λr:Str×Du=>r.2==b) e),rfl⟩
theorem xE {ts:List (Str×Du)}{p:Str×Du}(hn:(ts.map (·.2)).Nodup)(hp:p∈ts):vM ts p.2=some (p.1++".<locals>."++"<lambda>"):=by
 unfold vM;have e:ts.find? (λr=>r.2==p.2)=some p:=by
  induction ts with
  |nil=>nomatch hp
  |cons r ts ih=>
   rw[DP,E9] at hn;rw[F_];rcases Dx.mp hp with rfl|hp
   ·rw[Im]
   ·have:(r.2==p.2)=false:=ET.mpr λz=>hn.1 (z▸EH.mpr ⟨p,hp,rfl⟩)
    rw[this];exact ih hn.2 hp
 rw[e];rfl
theorem ub {l:KC}{k:Nat}{q:DN}{loose:List Str}{XP:(Str->Option Di)->Fp->Prop}{YP:Ez->Fp->Prop}{d:DefRec}{K:Params->Dd}{CX:Ez->iG}{x:Str}{sp:List Str->Dd->Sp}{tA:List Du}
  (hn:l.most=some 63)(hdf:d.params.defaults=[])(hr:Room k MA)
  (hY:∀ (w:Ez) (h:Fp),YP w h->(K w.params).In h)(hY2:∀ (w:Ez) (h:Fp),YP w h->∀ P∈tA,h.get? P=some { cls:=.none,data:=.fields #[] })
  (F:∀ (w:Ez) (mg:Str->Option Di) (fa:Du) (h:Fp),(K w.params).In h->h.Ns Dr mg->mg d.name=some (.ref fa) ->
   ∃ (ts:List (Str×Du)) (fd:F8),mQ (K w.params) tA ts/\(∀ (s:Dk) (u:Di),Mr s fd ⟨[u],[]⟩ [(x,u)]) /\
    ∀ base:Fp,(K w.params).In base->base.Ns Dr mg->iX l.prog w (K w.params) mg base (CX w) k fa fd [x] (sp (ts.map (·.1)) (K w.params)))
  (hsp:∀ (xs:List Str) (K:Dd) (H:Hp) (a:Du) (ns:List Int),ns.length<=63->bj K H a (ns.map V.int)->(∀ x∈xs,CQ K x H)->sp xs K [.ref a] H (λv _=>v=.bl true) λ_ _ _=>False)
  (hCX:∀ (w:Ez) (H:Hp) (s:Dk) (e:Di) (s':Dk),CX w [] H s (λ_ _ _=>False) e s'->False):
  PySem.W.WalkO q loose XP YP l.row.toRowW d [] (λf vs=>MH f vs):=by
 refine Att.attach_call hn hdf λw s₀ s₁ mg mb fa o pm cd doc a vs ns G Y ho hd hcd hmg hobj hints hlen hg=>?_
 have KX:=hY w _ Y;obtain⟨ts,fd,tk,hb,hF⟩:=F w mg fa _ KX G.T.g hmg;refine sk (K:=K w.params) (vM ts) KX G.T.g G.T.b G.T.builtins G.T.nolimit hg G.T.bmain (λb z e=>?_) hobj hints (Dt hlen (by decide)) hr hF hb (λH hH hS=>hsp _ _ H a ns hlen hS λy hy=>?_) λH e s'=>hCX w H s₁ e s'
 ·obtain⟨p,m,rfl,rfl⟩:=uR e;obtain⟨t1,t2,t3,_⟩:=tk.tab p m;exact⟨hY2 w _ Y _ t1,t3 _ KX,t2⟩
 ·obtain⟨p,m,rfl⟩:=EH.mp hy;exact⟨p.2,(tk.tab p m).2.2.2,hH _ _ (xE tk.nodup m)⟩
theorem _root_.L2.Room.u1 {k:Nat}(r:Room k A):A.units+1<cLine:=Je (by omega) r.units
abbrev Kn:=Nat×Nat×Nat
def vX (t:Kn):DZ:=.tuple [.int t.1,.int t.2.1,.int t.2.2]
def Bn (t:Kn):List V:=[.int t.1,.int t.2.1,.int t.2.2]
theorem uA (t:Kn):(bH t).map kV=Bn t:=rfl
theorem rO {K:Dd}{H:Hp}{t:Kn}{v:V}(h:aQ K H (vX t) v):∃ a,v=.ref a/\H a=some (.tup (Bn t)):=by
 cases h with
 |tup h q=>
  cases q with
  |cons q1 q=>
   cases q1;cases q with
   |cons q2 q=>
    cases q2;cases q with
    |cons q3 q=>
     cases q3;cases q;exact⟨_,rfl,h⟩
theorem ug {K:Dd}{H:Hp}{t:Kn}{a:Du}(h:H a=some (.tup (Bn t))):aQ K H (vX t) (.ref a):=.tup h (.cons (.int _) (.cons (.int _) (.cons (.int _) .nil)))
theorem l9 (h:bH t=bH u):t=u:=by
 obtain⟨a,b,c⟩:=t;obtain⟨x,y,z⟩:=u;have h:[Il (a:Int),Il (b:Int),Il (c:Int)]=([Il (x:Int),Il (y:Int),Il (z:Int)]:List cU):=h;injection h with h1 h
 injection h with h2 h
 injection h with h3 h
 injection h1 with h1
 injection h2 with h2
 injection h3 with h3
 have e1:a=x:=by omega
 have e2:b=y:=by omega
 have e3:c=z:=by omega
 rw[e1,e2,e3]
def gK:List Kn->List V->List (List cU×V)
 |t::ts,v::vs=>(bH t,v)::gK ts vs
 |_,_=>[]
theorem kI:∀ {ts:List Kn}{vs:List V},ts.length=vs.length->(gK ts vs).length=ts.length
 |[],[],_=>rfl
 |[],_::_,h=>by simp at h
 |_::_,[],h=>by simp at h
 |t::ts,v::vs,h=>by
  rw[gK,Et,kI (by simpa using h),Et]
theorem re:∀ {ts:List Kn}{vs:List V},ts.length=vs.length->(gK ts vs).map (·.1)=ts.map bH
 |[],[],_=>rfl
 |[],_::_,h=>by simp at h
 |_::_,[],h=>by simp at h
 |t::ts,v::vs,h=>by
  rw[gK,DP,re (by simpa using h),DP]
theorem xU:∀ {ts:List Kn}{vs:List V}{i:Nat}{k:List cU}{v:V},(gK ts vs)[i]?=some (k,v)->∃ t,ts[i]?=some t/\k=bH t/\vs[i]?=some v
 |[],_,_,_,_,h=>by simp[gK] at h
 |_::_,[],_,_,_,h=>by simp[gK] at h
 |t::ts,w::vs,0,k,v,h=>by
  have h:some (bH t,w)=some (k,v):=h;cases h;exact⟨t,rfl,rfl,rfl⟩
 |t::ts,w::vs,i+1,k,v,h=>by
  obtain⟨u,a,b,c⟩:=xU (ts:=ts) (vs:=vs) (i:=i) (by simpa [gK] using h);exact⟨u,by simpa using a,b,by simpa using c⟩
theorem tV {K:Dd}{H:Hp}{f:Kn->DZ}{t:Kn}:∀ {ts:List Kn}{vs:List V},aw K H (ts.map f) vs->t∈ts->∃ v,iP (gK ts vs) (bH t)=some v/\aQ K H (f t) v
 |[],_,_,m=>nomatch m
 |u::ts,vs,h,m=>by
  cases h with
  |@cons d v ds vs h1 h2=>
   by_cases e:u=t
   ·subst e;exact⟨v,iq (p:=(bH u,v)) rfl,h1⟩
   ·rcases Dx.mp m with z|m
    ·exact absurd z.symm e
    ·obtain⟨w,a,b⟩:=tV h2 m;exact⟨w,by rw[gK,fK (p:=(bH u,v)) (λz=>e (l9 z))];exact a,b⟩
theorem qW:∀ {ts:List Kn}{vs:List V},t∉ts->iP (gK ts vs) (bH t)=none
 |[],_,_=>rfl
 |_::_,[],_=>rfl
 |u::ts,v::vs,m=>by
  rw[gK,fK (p:=(bH u,v)) (λz=>m (by rw[l9 z];exact DL))];exact qW λz=>m (Do _ z)
theorem uv:∀ {ts:List Kn}{vs:List V}{t:Kn}{v:V},ts.length=vs.length->gK (ts++[t]) (vs++[v])=gK ts vs++[(bH t,v)]
 |[],[],_,_,_=>rfl
 |[],_::_,_,_,h=>by simp at h
 |_::_,[],_,_,h=>by simp at h
 |u::ts,w::vs,t,v,h=>by
  rw[Kd,Kd,gK,gK,uv (by simpa using h),Kd]
theorem t5 (hl:ts.length=vs.length)(h:t∉ts):eO (gK ts vs) (bH t) v=gK (ts++[t]) (vs++[v]):=by
 rw[vI v (qW h),uv hl]
def wD (r:R3):DZ:=tL false r
structure R3.Wt (r:R3):Prop where
 a0:0<=r.a
 a1:r.a<=1000
 b0:0<=r.b
 b1:r.b<=1000
 c0:0<=r.c
 c1:r.c<=1000
def mC (K:Dd)(H:Hp)(ts:List Kn)(f:Kn->R3)(d:Du):Prop:=∃ vs,H d=some (.dT (gK ts vs))/\aw K H (ts.map λt=>wD (f t)) vs
def Gr (K:Dd)(H:Hp)(n:Nat)(f:Kn->R3)(d:Du):Prop:=∃ ts,ts.Perm (aG n)/\mC K H ts f d
def xD (n:Nat)(f:Kn->R3):Prop:=∀ t∈aG n,(f t).Wt
theorem rG {f:Kn->R3}:∀ ts:List Kn,gG (ts.map λt=>wD (f t))=true
 |[]=>rfl
 |t::ts=>by
  rw[DP,gG,rG ts];rfl
theorem mC.len {K:Dd}{ts:List Kn}{f:Kn->R3}{H:Hp}{vs:List V}(h:aw K H (ts.map λt=>wD (f t)) vs):ts.length=vs.length:=by
 have:=h.length
 rwa [Dh] at this
theorem mC.same {K:Dd}{H H':Hp}{ts:List Kn}{f:Kn->R3}{d:Du}(h:mC K H ts f d)(s:ae H H'):mC K H' ts f d:=by obtain⟨vs,a,b⟩:=h;exact⟨vs,s _ _ a,aw.same s b⟩
theorem Gr.same {K:Dd}{H H':Hp}{n:Nat}{f:Kn->R3}{d:Du}(h:Gr K H n f d)(s:ae H H'):Gr K H' n f d:=by obtain⟨ts,p,g⟩:=h;exact⟨ts,p,g.same s⟩
theorem mC.mv {K:Dd}{T:List Du}{H H':Hp}{ts:List Kn}{f:Kn->R3}{d:Du}(h:mC K H ts f d)(m:Mv T H H')(l:cV H T):mC K H' ts f d:=by
 obtain⟨vs,a,b⟩:=h;exact⟨vs,m _ _ a (l.not a λ_ z=>nomatch z),aw.mv m l (rG ts) b⟩
theorem Gr.mv {K:Dd}{T:List Du}{H H':Hp}{n:Nat}{f:Kn->R3}{d:Du}(h:Gr K H n f d)(m:Mv T H H')(l:cV H T):Gr K H' n f d:=by obtain⟨ts,p,g⟩:=h;exact⟨ts,p,g.mv m l⟩
theorem yG {K:Dd}{H:Hp}{n:Nat}{f:Kn->R3}{d b:Du}{t:Kn}(h:Gr K H n f d)(ht:t∈aG n)(hb:H b=some (.tup (Bn t))):∃ v,qj H d (.ref b) (some v)/\aQ K H (wD (f t)) v:=by
 obtain⟨ts,p,vs,a,q⟩:=h;obtain⟨v,e,hv⟩:=tV (f:=λt=>wD (f t)) q (p.mem_iff.mpr ht);refine⟨v,?_,hv⟩;have:=qj.t (k:=bH t) a (by rw[uA];exact hb)
 rwa [e] at this
theorem kM {n:Nat}(h:n<=7):(aG n).Nodup:=by
 match n,h with
 |0,_=>decide +kernel
 |1,_=>decide +kernel
 |2,_=>decide +kernel
 |3,_=>decide +kernel
 |4,_=>decide +kernel
 |5,_=>decide +kernel
 |6,_=>decide +kernel
 |7,_=>decide +kernel
theorem cn {n:Nat}:(aG n).length=n^3:=by
 unfold aG;have h1:∀ (m:Nat) {α:Type} (g:Nat->List α) (k:Nat),(∀ i,(g i).length=k)->((Fm m).flatMap g).length=m*k:=λm α g k hg=>by
  induction m with
  |zero=>simp
  |succ m ih=>rw[IL,II,EF,ih];simp[hg,Jf]
 rw[h1 n _ (n*n) λi=>by rw[h1 n _ n λj=>by simp]];rw[Nat.pow_succ,Nat.pow_two,Me n (n*n)]
theorem Ak {n:Nat}(h:n<=7)(m:t∈aG n):t∈aG 7:=by
 rw[bM] at m ⊢;omega
theorem wH {n:Nat}(h:n<=7)(p:ts.Perm (aG n))(hl:ts.length=vs.length):tM (gK ts vs):=
 oE (re hl) (p.nodup_iff.mpr (kM h)) λt ht=>Ak h (p.mem_iff.mp ht)
def jz (K:Dd)(H:Hp)(n:Nat)(f:Kn->R3)(v:V):Prop:=∃ a C dx d,v=.ref a/\bf K "Grid" C/\H a=some (.ins C dx [("knots",.int n),("table",.ref d)])/\Gr K H n f d
theorem jz.same {K:Dd}{H H':Hp}{n:Nat}{f:Kn->R3}{v:V}(h:jz K H n f v)(s:ae H H'):jz K H' n f v:=by obtain⟨a,C,dx,d,h1,h2,h3,h4⟩:=h;exact⟨a,C,dx,d,h1,h2,s _ _ h3,h4.same s⟩
theorem jz.mv {K:Dd}{T:List Du}{H H':Hp}{n:Nat}{f:Kn->R3}{v:V}(h:jz K H n f v)(m:Mv T H H')(l:cV H T):jz K H' n f v:=by
 obtain⟨a,C,dx,d,h1,h2,h3,h4⟩:=h;exact⟨a,C,dx,d,h1,h2,m _ _ h3 (l.not h3 λ_ z=>nomatch z),h4.mv m l⟩
section
variable {K:Dd}{g:TG}{tt:TT}{te:TE}{σ0:L2.St}{Fin:List V->Hp->Prop}{H1:Hp}
theorem qJ {d:Du}{o:Obj}{kvs:List (List cU × V)}{bs:List Bool} (hH:H1 d=some (.frz o (.dT kvs))) (hlb:bs.length=kvs.length) (hl:kvs.length <= 1000)
  (he:∀ (i:Nat) (k:List cU) (x:V) (ka T:Du) (b:Bool) (H:Hp),kvs[i]?=some (k,x)->bs[i]?=some b->ae H1 H->H ka=some (.tup (k.map kV))->H T=some (.tup [.ref ka,x])->jm g tt te σ0 (.ref T) H λy H'=>ae H H'/\y=.bl b)
  (hd:∀ H,ae H1 H->Fin (bs.map V.bl) H):fb (B_ d o kvs) g tt te σ0 Fin H1:=by
 refine⟨λi m ys H=>m=kvs.length-i/\i<=kvs.length/\ae H1 H/\ys=(bs.take i).map V.bl,⟨kvs.length,by omega,ES _,ae.refl _,rfl⟩,?_⟩;rintro i m ys H ⟨rfl,hi,s,rfl⟩;have hyl:((bs.take i).map V.bl).length<=1000:=by rw[Dh,Ei];omega
 by_cases hlt:i<kvs.length
 ·refine .inr ⟨⟨s _ _ hH,hlt⟩,bP hyl,λv H3 y3=>?_⟩;obtain⟨k,x,ka,T,e1,e2,e3,rfl,rfl⟩:=y3;have sT:ae H (upd H T (.tup [.ref ka,x])):=ae.new e3;have hb:bs[i]?=some bs[i]:=by simp[show i<bs.length by omega]
  refine he i k x ka T bs[i] _ e1 hb (s.trans sT) (sT _ _ e2) ac _ (λy H' ⟨s',hy⟩=>⟨kvs.length-(i+1),by omega,rfl,hlt,(s.trans sT).trans s',?_⟩) λH5=>∃ m',m'<kvs.length-i/\(m'=kvs.length-(i+1)/\i+1<=kvs.length/\ae H1 H5/\(bs.take i).map V.bl=(bs.take (i+1)).map V.bl)
  rw[c7 hb,FP,hy];rfl
 ·have e:i=kvs.length:=by omega
  subst e;refine .inl ⟨⟨s _ _ hH,Dn _⟩,cO hyl,?_⟩;rw[EM (by omega)];exact hd H s
end
section
variable {K:Dd}{g:TG}{tt:TT}{tb:TB}{σ0:L2.St}
theorem sN {a:Du}{b:Bool}{xs:List V}{Fin:List V->Hp->Prop}{H1:Hp} (Pv:Nat->List V->Hp->Prop) (h0:Pv 0 [] H1) (hsrc:∀ i ys H,i <= xs.length->Pv i ys H->cq K H a xs b)
  (he:∀ i x ys H,xs[i]?=some x->Pv i ys H->∀ R:L2.St->Hp->List V->Prop,(∀ σ' H' ys',Pv (i+1) ys' H'->R σ' H' ys')->∀ S:Hp->Prop,g x σ0 H λσ' H4=>tt σ' H4 λc H5=>if c=true then tb σ' H5 ys R else S H5)
  (hd:∀ ys H,Pv xs.length ys H->ys.length<=1000/\Fin ys H):p_ (pZ K a b) g tt tb σ0 Fin H1:=by
 refine⟨λi m ys H=>m=xs.length-i/\i<=xs.length/\Pv i ys H,⟨xs.length,by omega,ES _,h0⟩,?_⟩;rintro i m ys H ⟨rfl,hi,p⟩;have q:=hsrc i ys H hi p
 by_cases hlt:i<xs.length
 ·have go:(pZ K a b).go i H:=by
   cases b with
   |true=>exact⟨xs,xs[i],q,by simp[hlt]⟩
   |false=>exact⟨xs,xs[i],q,by simp[hlt]⟩
  refine .inr ⟨go,λx H3 y3=>?_⟩;have e3:H3=H/\xs[i]?=some x:=by
   cases b with
   |true=>exact⟨y3.1,y3.2 xs q⟩
   |false=>exact⟨y3.1,y3.2 xs q⟩
  obtain⟨rfl,hx⟩:=e3;exact he i x ys _ hx p _ (λσ' H' ys' p'=>⟨xs.length-(i+1),by omega,rfl,hlt,p'⟩) λH5=>∃ m',m'<xs.length-i/\(m'=xs.length-(i+1)/\i+1<=xs.length/\Pv (i+1) ys H5)
 ·have e:i=xs.length:=by omega
  subst e;have stop:(pZ K a b).stop xs.length H:=by
   cases b with
   |true=>exact⟨xs,q,Dn _⟩
   |false=>exact⟨xs,q,Dn _⟩
  exact .inl ⟨stop,cO (hd ys H p).1,(hd ys H p).2⟩
theorem pI {a:Du}{b:Bool}{xs:List V}{σ:L2.St}{H:Hp}{ys:List V}{Q:L2.St->Hp->List V->Prop} (Pv:Nat->L2.St->List V->Hp->Prop) (h0:Pv 0 σ ys H) (hsrc:∀ i σ ys H,i <= xs.length->Pv i σ ys H->cq K H a xs b)
  (he:∀ i x σ ys H,xs[i]?=some x->Pv i σ ys H->∀ R:L2.St->Hp->List V->Prop,(∀ σ' H' ys',Pv (i+1) σ' ys' H'->R σ' H' ys')->∀ S:L2.St->Hp->Prop,g x σ H λσ' H4=>tt σ' H4 λc H5=>if c=true then tb σ' H5 ys R else S σ' H5)
  (hd:∀ σ ys H,Pv xs.length σ ys H->Q σ H ys):∃ W:Nat->Nat->L2.St->Hp->List V->Prop,(∃ m,W 0 m σ H ys)/\∀ i m σ2 H2 ys2,W i m σ2 H2 ys2 ->
   ((pZ K a b).stop i H2/\Q σ2 H2 ys2) \/
   ((pZ K a b).go i H2/\∀ x H3,(pZ K a b).yld i H2 x H3->g x σ2 H3 λσ3 H4=>tt σ3 H4 λb H5=>if b=true then tb σ3 H5 ys2 λσ' H' ys'=>∃ m',m'<m/\W (i+1) m' σ' H' ys' else ∃ m',m'<m/\W (i+1) m' σ3 H5 ys2):=by
 refine⟨λi m σ H ys=>m=xs.length-i/\i<=xs.length/\Pv i σ ys H,⟨xs.length,by omega,ES _,h0⟩,?_⟩;rintro i m σ H ys ⟨rfl,hi,p⟩;have q:=hsrc i σ ys H hi p
 by_cases hlt:i<xs.length
 ·have go:(pZ K a b).go i H:=by
   cases b with
   |true=>exact⟨xs,xs[i],q,by simp[hlt]⟩
   |false=>exact⟨xs,xs[i],q,by simp[hlt]⟩
  refine .inr ⟨go,λx H3 y3=>?_⟩;have e3:H3=H/\xs[i]?=some x:=by
   cases b with
   |true=>exact⟨y3.1,y3.2 xs q⟩
   |false=>exact⟨y3.1,y3.2 xs q⟩
  obtain⟨rfl,hx⟩:=e3;exact he i x σ ys _ hx p _ (λσ' H' ys' p'=>⟨xs.length-(i+1),by omega,rfl,hlt,p'⟩) λσ5 H5=>∃ m',m'<xs.length-i/\(m'=xs.length-(i+1)/\i+1<=xs.length/\Pv (i+1) σ5 ys H5)
 ·have e:i=xs.length:=by omega
  subst e;have stop:(pZ K a b).stop xs.length H:=by
   cases b with
   |true=>exact⟨xs,q,Dn _⟩
   |false=>exact⟨xs,q,Dn _⟩
  exact .inl ⟨stop,hd σ ys H p⟩
end
theorem fE {K:Dd}{H:Hp}:∀ {ns:List Int}{ys:List V},aw K H (ns.map Eo) ys->ys=ns.map V.int
 |[],_,h=>by cases h;rfl
 |n::ns,_,h=>by
  cases h with
  |cons h1 h2=>
   cases h1;rw[fE h2];rfl
def mx (a b k:Nat):List Kn:=(Fm k).map λc=>(a,b,c)
def lj (n a j:Nat):List Kn:=(Fm j).flatMap λb=>mx a b n
def lA (n i:Nat):List Kn:=(Fm i).flatMap λa=>lj n a n
theorem wP (n:Nat):lA n n=aG n:=rfl
theorem oZ (a b k:Nat):mx a b (k+1)=mx a b k++[(a,b,k)]:=by unfold mx;rw[IL,FP];rfl
theorem k_ (n a j:Nat):lj n a (j+1)=lj n a j++mx a j n:=by unfold lj;rw[IL,II];simp
theorem ku (n i:Nat):lA n (i+1)=lA n i++lj n i n:=by unfold lA;rw[IL,II];simp
theorem rL (a b k:Nat):(mx a b k).length=k:=by unfold mx;simp
theorem mW (n a:Nat):∀ j,(lj n a j).length=j*n
 |0=>by simp[lj]
 |j+1=>by rw[k_,EF,mW n a j,rL,Jf]
theorem rP (n:Nat):∀ i,(lA n i).length=i*(n*n)
 |0=>by simp[lA]
 |i+1=>by rw[ku,EF,rP n i,mW,Jf]
theorem rd {a b k:Nat}:t∈mx a b k↔t.1=a/\t.2.1=b/\t.2.2<k:=by
 obtain⟨x,y,z⟩:=t;unfold mx;simp only[EH,Fi,Prod.mk.injEq];constructor
 ·rintro⟨c,hc,rfl,rfl,rfl⟩;exact⟨rfl,rfl,hc⟩
 ·rintro⟨h1,h2,h3⟩;exact⟨z,h3,h1.symm,h2.symm,rfl⟩
theorem rF {n a j:Nat}:t∈lj n a j↔t.1=a/\t.2.1<j/\t.2.2<n:=by
 unfold lj;simp only[Ke,Fi,rd];constructor
 ·rintro⟨b,hb,h1,h2,h3⟩;exact⟨h1,by omega,h3⟩
 ·rintro⟨h1,h2,h3⟩;exact⟨t.2.1,h2,h1,rfl,h3⟩
theorem wE {n i:Nat}:t∈lA n i↔t.1<i/\t.2.1<n/\t.2.2<n:=by
 unfold lA;simp only[Ke,Fi,rF];constructor
 ·rintro⟨b,hb,h1,h2,h3⟩;exact⟨by omega,h2,h3⟩
 ·rintro⟨h1,h2,h3⟩;exact⟨t.1,h1,rfl,h2,h3⟩
theorem tJ {n i j k:Nat}(h:n<=7)(hi:i<n)(hj:j<n)(hk:k<=n):(lA n i++lj n i j++mx i j k).length<=343:=by
 rw[EF,EF,rP,mW,rL];have h1:n*n<=49:=Jp h h;have h2:i*(n*n)<=6*49:=Jp (by omega) h1;have h3:j*n<=6*7:=Jp (by omega) h;omega
theorem m6 {n i:Nat}{x:V}(h:((pW n).map V.int)[i]?=some x):i<n/\x=.int (i:Int):=by
 rw[Dp] at h;obtain⟨z,e,rfl⟩:=DA.mp h;have hi:i<(pW n).length:=(DH.mp e).1;rw[ir] at hi;rw[yz hi] at e;cases e;exact⟨hi,rfl⟩
theorem Da:[a,b,c,d].length<=Ds:=by show 4<=Ds;decide
structure Q3.Wi (c:Q3)(m:Rat):Prop where
 a0:0<=c.a
 a1:c.a<=m
 b0:0<=c.b
 b1:c.b<=m
 c0:0<=c.c
 c1:c.c<=m
def dH (H H':Hp):Prop:=∀ b o,H b=some o->(∀ kvs,o≠.dT kvs)->H' b=some o
theorem dH.put (h:H d=some (.dT kvs)):dH H (upd H d (.dT kvs')):=λb o e n=>by
 rw[ap (λz=>by rw[z,h] at e;cases e;exact n _ rfl)];exact e
theorem dH.cut (h:dH H H'):dH (TR.cut T H) (TR.cut T H'):=λb o e n=>by
 unfold TR.cut at e ⊢
 split at e
 ·cases e
 ·rename_i nb
  rw[DS nb];exact h b o e n
theorem Rd.sameD (e:dH H H')(h:Rd H a (.lst xs)):Rd H' a (.lst xs):=by
 rcases h with h|⟨o,h⟩
 ·exact .inl (e _ _ h λ_ z=>nomatch z)
 ·exact .inr ⟨o,e _ _ h λ_ z=>nomatch z⟩
mutual
theorem aQ.sameD {K:Dd}{H H':Hp}(e:dH H H'):∀ {d:DZ}{v:V},aQ K H d v->aQ K H' d v
 |_,_,.non=>.non
 |_,_,.bl b=>.bl b
 |_,_,.int i=>.int i
 |_,_,.str x=>.str x
 |_,_,.lst h q=>.lst (Rd.sameD e h) (aw.sameD e q)
 |_,_,.tup h q=>.tup (e _ _ h λ_ z=>nomatch z) (aw.sameD e q)
 |_,_,.dct h=>.dct (e _ _ h λ_ z=>nomatch z)
theorem aw.sameD {K:Dd}{H H':Hp}(e:dH H H'):∀ {ds:List DZ}{vs:List V},aw K H ds vs->aw K H' ds vs
 |_,_,.nil=>.nil
 |_,_,.cons h q=>.cons (aQ.sameD e h) (aw.sameD e q)
end
theorem bv.sameD (h:bv H t r)(e:dH H H'):bv H' t r:=by
 obtain⟨c,k,h1,h2,h3,h4⟩:=h;exact⟨c,k,e _ _ h1 (λ_ z=>nomatch z),e _ _ h2 (λ_ z=>nomatch z),h3,h4⟩
theorem Mv.wide (m:Mv [t,r] H H'):Mv [t,r,d] H H':=λb o e n=>m b o e λz=>n (by
 simp only[Dx,Ef,Gu] at z ⊢;rcases z with z|z
 ·exact .inl z
 ·exact .inr (.inl z))
theorem zO (i j:Int):(if j<i then j else i)=min i j:=by
 by_cases h:j<i
 ·rw[Ee h];omega
 ·rw[DS h];omega
end TR
namespace TR
open PySem PySem.Spec PyProof.Rows L2
def un:Nat->Kn
 |0=>(1,0,0)
 |1=>(0,1,0)
 |_=>(0,0,1)
structure Dv (n:Nat)(x:Rat):Prop where
 n2:2<=n
 n7:n<=7
 lo:0<=x
 hi:x<=((60:Int):Rat)
section
variable {n:Nat}{x:Rat}(h:Dv n x)
include h
end
def AN (x y z:Rat):Nat->Rat
 |0=>x
 |1=>y
 |_=>z
def Q3.lst (q:Q3):DZ:=.list q.ds
theorem uu (s:ae H0 H)(h:H0 F=none):ae H0 (upd H F o):=λb o' e=>by
 rw[ap (λz=>by rw[z,h] at e;cases e)];exact s _ _ e
def Dc (o:Nat×Nat×Nat):Nat->Nat
 |0=>o.1
 |1=>o.2.1
 |_=>o.2.2
def y6 (o:Nat×Nat×Nat)(k:Nat):Nat:=if o.1=k then 0 else if o.2.1=k then 1 else 2
def p8 (t:Kn):Nat->Nat
 |0=>t.1
 |1=>t.2.1
 |_=>t.2.2
def fW (o:Nat×Nat×Nat)(t:Kn):Kn:=(p8 t o.1,p8 t o.2.1,p8 t o.2.2)
def BO (o:Nat×Nat×Nat):Nat×Nat×Nat:=(y6 o 0,y6 o 1,y6 o 2)
def fT (o:Nat×Nat×Nat)(f:Kn->R3)(t:Kn):R3:=f (fW (BO o) t)
theorem mC.more {K:Dd}{H:Hp}{ts:List Kn}{f:Kn->R3}{d:Du}{t:Kn}{v:V}{vs:List V}(hd:H d=some (.dT (gK ts vs)))(h:aw K H (ts.map λt=>wD (f t)) vs)(nt:t∉ts)(hv:aQ K H (wD (f t)) v):mC K (upd H d (.dT (eO (gK ts vs) (bH t) v))) (ts++[t]) f d:=by
 have hlen:=mC.len h;rw[t5 hlen nt];refine⟨_,ac,?_⟩;rw[FP];exact(aw.sameD (dH.put hd) h).snoc (aQ.sameD (dH.put hd) hv)
theorem CD {M:V->Hp->Prop}{I:V->Hp->Prop}{G:Prop}(cD:∀ v H,I v H->M v H)(main:(∀ v H,I v H->M v H)->G):G:=main cD
section
variable {X:Cx}{pins:List (Du×Obj)}{σ:L2.St}{H H2:Hp}{s s2:Dk}
theorem sR {tk:Nat} (I:av X pins σ H2 s2) (S:kr X scope)
  (hcap:gN X scope N σ σ0)(hlen:σ0.length=N.length)(f2:∀ b∈fp,eV X pins H2 b)(fo:∀ b∈fp,∃ o,s2.heap.get? b=some o)(hC:s2.heap.objs.size<=C)
  (old:∀ b o,s2.heap.get? b=some o->h1.get? b=some o)(hnC:∃ m,h1.Ns C m)(own:∀ x c,(ay X scope C).lookup x=some c->C+1<=c->h1.IsCell c none):
  av (aF X N scope (ay X scope C) C s2 H2 fp pins) [] σ0 H2 { s2 with heap:=h1,toks:=tk }:=by
 have ltne:∀ b,b<s2.heap.objs.size->b≠C:=λb hb z=>absurd (z▸hb) (El.mpr hC)
 have cellLt:∀ x c,X.env.cells.lookup x=some c->c<s2.heap.objs.size:=λx c e=>by
  obtain⟨v,q⟩:=I.cell x c e;exact q.lt
 have big:∀ c:Du,C+1<=c->s2.heap.objs.size<=c:=λc h=>Dt hC (Gf h)
 refine⟨⟨I.ok.mod,S.kind,I.ok.glob,I.ok.blt,hC,?_,?_,?_,I.ok.hd,I.ok.frames,.inl rfl,?_,?_,?_,?_,?_,I.stack,I.stkFree⟩,rfl,I.bare,Un.kept old,?_,?_,?_,?_,?_,I.hok.kept old,hlen⟩
 ·intro x y c e1 e2;exact uy S e1 e2 I.ok.inj λx c e=>DD (cellLt x c e) hC
 ·intro x hx;exact ny S hx
 ·intro x c hf e;rcases bR S e with ⟨_,k⟩|⟨l,_⟩
  ·have hf:(scope.names.lookup x==some EX)=true:=hf;rw[k] at hf;cases hf
  ·exact big c l
 ·intro b hb;obtain⟨o,ho⟩:=fo b hb;refine⟨ltne b (Dj ho),λx c e=>?_⟩;rcases bR S e with ⟨e,_⟩|⟨l,_⟩
  ·exact(f2 b hb).2.2.2.2.1 x c e
  ·exact λz=>absurd (Dj ho) (El.mpr (z▸big c l))
 ·exact λb o e=>I.bs b o e
 ·exact Dt I.ok.bsz I.sz
 ·intro b o e hb;rcases(f2 b hb).2.2.2.1 with z|z
  ·exact I.ok.noex b o e z
  ·exact absurd (DD (Dj e) (Dt I.ok.bsz z)) (Eh _)
 ·intro b hb;exact gl I (f2 b hb).2.1 (f2 b hb).2.2.1
 ·obtain⟨m1,hm1⟩:=hnC;refine⟨m1,hm1,λi x v e1 e2 _=>?_⟩;obtain⟨j,j1,j2,j3,jf,j4⟩:=hcap i x v e1 e2;obtain⟨m,hn,hl⟩:=I.loc;have vis:z9 X.env.scope x:=by
   rcases j3 with z|z
   ·exact .inr (.inl z)
   ·exact .inr (.inr z)
  obtain⟨u,r,l⟩:=hl j x v j1 j2 vis;refine⟨u,r,.inr ⟨j4,?_⟩⟩;obtain⟨c,hc⟩:=ny S (C:=C) j4;rcases l with ⟨k,_⟩|⟨_,c',e',z'⟩
  ·exfalso;rcases j3 with z|z<;>(rw[z] at k;cases k)
  ·rcases bR S hc with ⟨e,_⟩|⟨_,k⟩
   ·rw[e'] at e;cases e;exact⟨_,hc,z'.keeps old⟩
   ·rw[jf] at k;cases k
 ·intro x c e;rcases bR S e with ⟨e,_⟩|⟨l,_⟩
  ·obtain⟨v,q⟩:=I.cell x c e;exact⟨v,q.keeps old⟩
  ·exact⟨_,own x c e l⟩
 ·exact I.hok.fresh hC
 ·intro x c e;rcases bR S e with ⟨e,_⟩|⟨l,_⟩
  ·exact I.freeC x c e
  ·exact I.hok.fresh (big c l)
 ·intro p hp;rw[Kw] at hp;obtain⟨q1,q2,q3,q4,q5⟩:=I.pin p hp;exact⟨old _ _ q1,q2,ltne _ (Dj q1),gl I q3 q4,q5⟩
theorem md (I:av X pins σ H2 s2)
  (f2:∀ b∈fp,eV X pins H2 b)(J:av (aF X N scope (ay X scope C) C s2 H2 fp pins) pl σ0 H' s'):av X pins σ H' s':=by
 refine I.call' (ch:=fp) J.os J.base J.hok J.bare λb hb=>?_
 obtain⟨_,g1,_,g3,g4,g5⟩:=f2 b hb;exact⟨g3,g1,g4,g5⟩
theorem rZ (hu:A.units < cLine) (I:av X pins σ H s) (e:H a=some (.dT kvs)) (ey:y=.ref b) (eb:H b=some (.tup (k.map kV))) (l:kvs.length < Ds) (eH:H'=upd H a (.dT (eO kvs k v))) (ry:RelV y u) (rv:RelV v r) (h:∀ s',av X pins σ H' s'->Q () s') :
  Dy (DK X.prog X.w) A (dictSet a u r) Q E s:=by
 subst ey eH;cases(show u=DQ b from ry);obtain⟨z,hd,xs,rel,dd⟩:=yf I.hok e;have hz:xs.length<=Ds:=by rw[<- JR rel];exact z
 have hl:(eO kvs k v).length<=Ds:=by have:=fP kvs k v;omega
 refine wpAny_dictSet_heap (hsz:=hz) hu (kz I.hok eb) dd λh' dd' hs=>h _ ?_
 obtain⟨q,es,ep,hq,h2,h3,h4,_,h5⟩:=dd';refine nV I (by rw[e];exact True.intro) hs ⟨q,hq⟩ ⟨hl,hd,_,(rel.put k eb rv).keeps λc ys ec=>?_,q,es,ep,hq,h2,h3,h4,h5⟩;rw[ap (tP ec e (λz=>nomatch z))];exact ec
def qI (J:It)(g:TG)(tt:TT)(tk tv:TE)(D:Du)(σ0:L2.St)(Fin:Hp->Prop)(H1:Hp):Prop:=∃ W:Nat->Nat->Hp->Prop,(∃ m,W 0 m H1)/\∀ i m H2,W i m H2 ->
 (J.stop i H2/\Fin H2) \/
 (J.go i H2/\∀ x H3,J.yld i H2 x H3->g x σ0 H3 λσ' H4=>tt σ' H4 λb H5=>if b=true then tk σ' H5 λk H6=>tv σ' H6 λv H7=>∃ kvs ks b,H7 D=some (.dT kvs)/\k=.ref b/\H7 b=some (.tup (ks.map kV))/\kvs.length<Ds/\∃ m',m'<m/\W (i+1) m' (upd H7 D (.dT (eO kvs ks v))) else ∃ m',m'<m/\W (i+1) m' H5)
end
section
variable {X:Cx}{pos:Pos}
def yX (wi:TI)(g:TG)(tt:TT)(tk tv:TE)(mk:L2.St->L2.St):TE:=λσ H Q=>wi σ H λJ H1=>∀ D,H1 D=none->qI J g tt tk tv D (mk σ) (λH2=>Q (.ref D) H2) (upd H1 D (.dT []))
end
structure Rw where
 w:Int
 x:Int
 y:Int
 z:Int
def Rw.ns (r:Rw):List Int:=[r.w,r.x,r.y,r.z]
def Rw.d (r:Rw):DZ:=.tuple (r.ns.map Eo)
structure Rw.In (r:Rw)(m:Int):Prop where
 w0:-m<=r.w
 w1:r.w<=m
 x0:-m<=r.x
 x1:r.x<=m
 y0:-m<=r.y
 y1:r.y<=m
 z0:-m<=r.z
 z1:r.z<=m
def Bt (i:Int):Int:=min (max i 0) 1000
def Rw.at (r:Rw)(t:Kn):Int:=Bt (r.w+(r.x*(t.1:Int)+(r.y*(t.2.1:Int)+r.z*(t.2.2:Int))))
def R3.sub (r s:R3):R3:=⟨r.a-s.a,r.b-s.b,r.c-s.c⟩
structure Rw.Lo (r:Rw):Prop where
 w0:0<=r.w
 w1:r.w<100
 x0:0<=r.x
 x1:r.x<40
 y0:0<=r.y
 y1:r.y<40
 z0:0<=r.z
 z1:r.z<40
def Kn.Lo (t:Kn):Prop:=t.1<=2/\t.2.1<=2/\t.2.2<=2
theorem wJ (h:∀ x,d≠.str x):bw (z_ d) "str"=some false:=by
 cases d with
 |none=>exact(show bw "NoneType" "str"=some false by decide +kernel)
 |bool b=>exact(show bw "bool" "str"=some false by decide +kernel)
 |int i=>exact(show bw "int" "str"=some false by decide +kernel)
 |list ds=>exact(show bw "list" "str"=some false by decide +kernel)
 |tuple ds=>exact(show bw "tuple" "str"=some false by decide +kernel)
 |dict kvs=>exact(show bw "dict" "str"=some false by decide +kernel)
 |str x=>exact absurd rfl (h x)
theorem qX {l m a b c:Int}(ha:l<=a/\a<=m)(hb:l<=b/\b<=m)(hc:l<=c/\c<=m):li 3 l m (.tuple [.int a,.int b,.int c])=true:=by
 show((decide (l<=a)&&decide (a<=m))&&((decide (l<=b)&&decide (b<=m))&&((decide (l<=c)&&decide (c<=m))&&true)))=true;rw[DE ha.1,DE ha.2,DE hb.1,DE hb.2,DE hc.1,DE hc.2];rfl
open PySem.W PySem.Calls
def A_ (t u:Kn):Prop:=¬ (t.1<u.1\/(t.1=u.1/\(t.2.1<u.2.1\/(t.2.1=u.2.1/\t.2.2<u.2.2))))
instance {t u:Kn}:Decidable (A_ t u):=by unfold A_;infer_instance
def Db (b t:Kn)(j:Nat):Bool:=decide (0<=((p8 t j:Nat):Int)-((p8 b j:Nat):Int))&&decide (((p8 t j:Nat):Int)-((p8 b j:Nat):Int)<=1)
def Bz (b t:Kn)(k:Nat):List Int:=((Fm k).filter λj=>!Db b t j).map λ(j:Nat)=>(j:Int)
def C_ (b t:Kn):Bool:=decide (Bz b t 3=[])
def crn (n:Nat)(b:Kn):List Kn:=(aG n).filter (C_ b)
def Rw.co (r:Rw):Nat->Int
 |0=>r.x
 |1=>r.y
 |_=>r.z
structure C3 where
 p:List Pt
 q:List Pt
 r:List Pt
def C3.at (P:C3):Nat->List Pt
 |0=>P.p
 |1=>P.q
 |_=>P.r
def C3.In (P:C3)(cap:Int):Prop:=∀ i,i<3->vS (P.at i)/\∃ y z,(P.at i)[0]?=some y/\(P.at i).getLast?=some z/\z.1=60/\z.2<=cap
def S9.cp (s:S9):S9:=⟨true,true,true,true,s.x,s.y,s.z⟩
def S9.row (s:S9):Nat->R3
 |0=>s.x
 |1=>s.y
 |_=>s.z
def AtD (K:Dd)(x:Str)(st:Gv):Prop:=∃ f oc od osl kV doc pm an cdv ct,DG K Dr x=some (some (.ref f))/\K.lookup f=some ⟨oc,od,.func (DY x x (aW st) (aR st) (ai st) .none kV doc pm an cdv ct),osl⟩/\E_ K cdv x=true/\EL K (.ref f)=true
def AtM (K:Dd)(x m qual:Str)(st:Gv):Prop:=∃ C f oc od osl kV doc pm an cdv ct,DG K Dr x=some (some (.ref C))/\Eb K (.ref C) m=some (some (.ref f))/\K.lookup f=some ⟨oc,od,.func (DY m qual (aW st) (aR st) (ai st) .none kV doc pm an cdv ct),osl⟩/\E_ K cdv qual=true/\EL K (.ref f)=true/\Ij K (.ref f)=true
theorem AtD.of {K:Dd}{x:Str}{st:Gv}{f:Du}{oc kV doc pm cdv ct:Di}{od an:Option Du}{osl:Array (Option Di)}(h1:DG K Dr x=some (some (.ref f)))(h2:K.lookup f=some ⟨oc,od,.func (DY x x (aW st) (aR st) (ai st) .none kV doc pm an cdv ct),osl⟩)(h3:E_ K cdv x=true)(h4:EL K (.ref f)=true):AtD K x st:=⟨_,_,_,_,_,_,_,_,_,_,h1,h2,h3,h4⟩
theorem AtM.of {K:Dd}{x m qual:Str}{st:Gv}{C f:Du}{oc kV doc pm cdv ct:Di}{od an:Option Du}{osl:Array (Option Di)}(h1:DG K Dr x=some (some (.ref C)))(h2:Eb K (.ref C) m=some (some (.ref f)))(h3:K.lookup f=some ⟨oc,od,.func (DY m qual (aW st) (aR st) (ai st) .none kV doc pm an cdv ct),osl⟩)(h4:E_ K cdv qual=true)(h5:EL K (.ref f)=true)(h6:Ij K (.ref f)=true):AtM K x m qual st:=⟨_,_,_,_,_,_,_,_,_,_,_,h1,h2,h3,h4,h5,h6⟩
theorem gOf {K:Dd}{x:Str}{i:Int}{t:Tok}(h:DG K Dr x=some (some (.int i t))):∃ t,DG K Dr x=some (some (.int i t)):=⟨t,h⟩
section
variable {K:Dd}{mg:Str->Option Di}{x m qual:Str}{st:Gv}{ps fs:List Str}{h:Fp}
theorem AtD.dfn (a:AtD K x st)(X:K.In h)(G:h.Ns Dr mg)(hb:∀ kV doc pm an cdv ct us,us.length=ps.length->Fh (DY x x (aW st) (aR st) (ai st) .none kV doc pm an cdv ct) ⟨us,[]⟩=pure (ps.zip us)):dz K mg x st ps []:=by
 obtain⟨_,_,_,_,_,_,_,_,_,_,h1,h2,h3,h4⟩:=a;exact yk h2 h3 h4 (FZ X G h1) (hb _ _ _ _ _ _)
theorem AtM.dfn (a:AtM K x m qual st)(X:K.In h)(G:h.Ns Dr mg)(hc:dF K x fs=true)(hb:∀ kV doc pm an cdv ct us,us.length=ps.length->Fh (DY m qual (aW st) (aR st) (ai st) .none kV doc pm an cdv ct) ⟨us,[]⟩=pure (ps.zip us)):gP K mg x m qual st ps []:=by
 obtain⟨_,_,_,_,_,_,_,_,_,_,_,h1,h2,h3,h4,h5,h6⟩:=a;exact xM h3 h4 h5 h6 h1 h2 hc (FZ X G h1) (hb _ _ _ _ _ _)
theorem CC {P:List Di->Prop}{us:List Di}(h:us.length=1)(k:∀ a,P [a]):P us:=by
 match us,h with
 |[a],_=>exact k a
theorem CF {P:List Di->Prop}{us:List Di}(h:us.length=2)(k:∀ a b,P [a,b]):P us:=by
 match us,h with
 |[a,b],_=>exact k a b
theorem CM {P:List Di->Prop}{us:List Di}(h:us.length=3)(k:∀ a b c,P [a,b,c]):P us:=by
 match us,h with
 |[a,b,c],_=>exact k a b c
theorem CN {P:List Di->Prop}{us:List Di}(h:us.length=4)(k:∀ a b c d,P [a,b,c,d]):P us:=by
 match us,h with
 |[a,b,c,d],_=>exact k a b c d
theorem CH {P:List Di->Prop}{us:List Di}(h:us.length=5)(k:∀ a b c d e,P [a,b,c,d,e]):P us:=by
 match us,h with
 |[a,b,c,d,e],_=>exact k a b c d e
theorem AtD.d1 {p:Str}(a:AtD K x st)(X:K.In h)(G:h.Ns Dr mg)(hb:∀ kV doc pm an cdv ct a,Fh (DY x x (aW st) (aR st) (ai st) .none kV doc pm an cdv ct) ⟨[a],[]⟩=pure (([p]:List Str).zip [a])):dz K mg x st [p] []:=a.dfn X G λ_ _ _ _ _ _ us hl=>CC (P:=λus=>Fh _ ⟨us,[]⟩=pure ([p].zip us)) hl (hb _ _ _ _ _ _)
theorem AtM.d1 {p:Str}(a:AtM K x m qual st)(X:K.In h)(G:h.Ns Dr mg)(hc:dF K x fs=true)(hb:∀ kV doc pm an cdv ct a,Fh (DY m qual (aW st) (aR st) (ai st) .none kV doc pm an cdv ct) ⟨[a],[]⟩=pure (([p]:List Str).zip [a])):gP K mg x m qual st [p] []:=a.dfn X G hc λ_ _ _ _ _ _ us hl=>CC (P:=λus=>Fh _ ⟨us,[]⟩=pure ([p].zip us)) hl (hb _ _ _ _ _ _)
theorem AtD.d2 {p q:Str}(a:AtD K x st)(X:K.In h)(G:h.Ns Dr mg)(hb:∀ kV doc pm an cdv ct a b,Fh (DY x x (aW st) (aR st) (ai st) .none kV doc pm an cdv ct) ⟨[a,b],[]⟩=pure (([p,q]:List Str).zip [a,b])):dz K mg x st [p,q] []:=a.dfn X G λ_ _ _ _ _ _ us hl=>CF (P:=λus=>Fh _ ⟨us,[]⟩=pure ([p,q].zip us)) hl (hb _ _ _ _ _ _)
theorem AtM.d2 {p q:Str}(a:AtM K x m qual st)(X:K.In h)(G:h.Ns Dr mg)(hc:dF K x fs=true)(hb:∀ kV doc pm an cdv ct a b,Fh (DY m qual (aW st) (aR st) (ai st) .none kV doc pm an cdv ct) ⟨[a,b],[]⟩=pure (([p,q]:List Str).zip [a,b])):gP K mg x m qual st [p,q] []:=a.dfn X G hc λ_ _ _ _ _ _ us hl=>CF (P:=λus=>Fh _ ⟨us,[]⟩=pure ([p,q].zip us)) hl (hb _ _ _ _ _ _)
theorem AtD.d3 {p q r:Str}(a:AtD K x st)(X:K.In h)(G:h.Ns Dr mg)(hb:∀ kV doc pm an cdv ct a b c,Fh (DY x x (aW st) (aR st) (ai st) .none kV doc pm an cdv ct) ⟨[a,b,c],[]⟩=pure (([p,q,r]:List Str).zip [a,b,c])):dz K mg x st [p,q,r] []:=a.dfn X G λ_ _ _ _ _ _ us hl=>CM (P:=λus=>Fh _ ⟨us,[]⟩=pure ([p,q,r].zip us)) hl (hb _ _ _ _ _ _)
theorem AtM.d3 {p q r:Str}(a:AtM K x m qual st)(X:K.In h)(G:h.Ns Dr mg)(hc:dF K x fs=true)(hb:∀ kV doc pm an cdv ct a b c,Fh (DY m qual (aW st) (aR st) (ai st) .none kV doc pm an cdv ct) ⟨[a,b,c],[]⟩=pure (([p,q,r]:List Str).zip [a,b,c])):gP K mg x m qual st [p,q,r] []:=a.dfn X G hc λ_ _ _ _ _ _ us hl=>CM (P:=λus=>Fh _ ⟨us,[]⟩=pure ([p,q,r].zip us)) hl (hb _ _ _ _ _ _)
theorem AtD.d4 {p q r u:Str}(a:AtD K x st)(X:K.In h)(G:h.Ns Dr mg)(hb:∀ kV doc pm an cdv ct a b c d,Fh (DY x x (aW st) (aR st) (ai st) .none kV doc pm an cdv ct) ⟨[a,b,c,d],[]⟩=pure (([p,q,r,u]:List Str).zip [a,b,c,d])):dz K mg x st [p,q,r,u] []:=a.dfn X G λ_ _ _ _ _ _ us hl=>CN (P:=λus=>Fh _ ⟨us,[]⟩=pure ([p,q,r,u].zip us)) hl (hb _ _ _ _ _ _)
theorem AtM.d4 {p q r u:Str}(a:AtM K x m qual st)(X:K.In h)(G:h.Ns Dr mg)(hc:dF K x fs=true)(hb:∀ kV doc pm an cdv ct a b c d,Fh (DY m qual (aW st) (aR st) (ai st) .none kV doc pm an cdv ct) ⟨[a,b,c,d],[]⟩=pure (([p,q,r,u]:List Str).zip [a,b,c,d])):gP K mg x m qual st [p,q,r,u] []:=a.dfn X G hc λ_ _ _ _ _ _ us hl=>CN (P:=λus=>Fh _ ⟨us,[]⟩=pure ([p,q,r,u].zip us)) hl (hb _ _ _ _ _ _)
theorem AtD.d5 {p q r u v:Str}(a:AtD K x st)(X:K.In h)(G:h.Ns Dr mg)(hb:∀ kV doc pm an cdv ct a b c d e,Fh (DY x x (aW st) (aR st) (ai st) .none kV doc pm an cdv ct) ⟨[a,b,c,d,e],[]⟩=pure (([p,q,r,u,v]:List Str).zip [a,b,c,d,e])):dz K mg x st [p,q,r,u,v] []:=a.dfn X G λ_ _ _ _ _ _ us hl=>CH (P:=λus=>Fh _ ⟨us,[]⟩=pure ([p,q,r,u,v].zip us)) hl (hb _ _ _ _ _ _)
theorem AtM.d5 {p q r u v:Str}(a:AtM K x m qual st)(X:K.In h)(G:h.Ns Dr mg)(hc:dF K x fs=true)(hb:∀ kV doc pm an cdv ct a b c d e,Fh (DY m qual (aW st) (aR st) (ai st) .none kV doc pm an cdv ct) ⟨[a,b,c,d,e],[]⟩=pure (([p,q,r,u,v]:List Str).zip [a,b,c,d,e])):gP K mg x m qual st [p,q,r,u,v] []:=a.dfn X G hc λ_ _ _ _ _ _ us hl=>CH (P:=λus=>Fh _ ⟨us,[]⟩=pure ([p,q,r,u,v].zip us)) hl (hb _ _ _ _ _ _)
theorem zi {i:Int}(X:K.In h)(G:h.Ns Dr mg)(a:∃ t,DG K Dr x=some (some (.int i t))):∃ t,mg x=some (.int i t):=by obtain⟨t,e⟩:=a;exact⟨t,FZ X G e⟩
end
theorem dX (a:sc.kind=.function:=by rfl)(b:sc.isCoroutine=false:=by rfl)(c:sc.isGenerator=false:=by rfl)(d:N.Nodup:=by decide +kernel)(e:N.take P.length=P:=by rfl)(f:∀ x∈P,sc.names.lookup x=some .local\/sc.names.lookup x=some .cell:=by decide +kernel)(g:∀ y∈sc.names,y.2≠.free:=by decide +kernel):az N P sc:=⟨a,b,c,d,e,f,g⟩
theorem dG (hp:H p=none)(e:upd H p o=H1):ae H H1:=e▸ae.new hp
theorem cT (e:upd H p o=H1):H1 p=some o:=e▸ac
theorem yA (ha:H a=none)(hd:H dx=none)(hn:dx≠a)(e:upd (upd H dx o1) a o=H1):ae H H1:=e▸(ae.new hd).trans (ae.new (by rw[ap hn.symm];exact ha))
def Q3.at (q:Q3):Nat->Rat:=AN q.a q.b q.c
def nw (q:Rat):Int:=(2*q.num+(q.den:Int)).fdiv (2*(q.den:Int))
def hq (q:Q3):R3:=⟨Bt (nw q.a),Bt (nw q.b),Bt (nw q.c)⟩
section
variable {X:Cx}{K:Dd}
def wu:V->List V->Hp->VK->Prop:=λx xs H Q=>∃ a b:Str,x=.str a/\xs=[.str b]/\Q (.bl (Jr a b)) H
theorem sH:B9 X "str.startswith" wu:=by
 intro pins s σ H x xs v us Q I rx rv h;obtain⟨a,b,rfl,rfl,q⟩:=h;obtain⟨t,rfl⟩:=rx;obtain⟨u,rfl,ru⟩:=rv.one;obtain⟨t',rfl⟩:=ru;exact SC.startswith ⟨.bl _,H,I,rfl,q⟩
theorem rc:∀ {ts:List Str}{us:List Di},aJ (ts.map V.str) us->∃ l:List (Str×Tok),us=strValues l/\l.map (·.1)=ts
 |[],_,h=>by cases h;exact⟨[],rfl,rfl⟩
 |x::ts,_,h=>by
  cases h with
  |cons h1 h2=>
   obtain⟨t,rfl⟩:=h1;obtain⟨l,rfl,e⟩:=rc h2;exact⟨(x,t)::l,rfl,by rw[DP,e]⟩
theorem lZ:∀ {ts:List Str}{l:List (Str×Tok)},l.map (·.1)=ts->aJ (ts.map V.str) (strValues l)
 |_,[],e=>by subst e;exact .nil
 |_,(x,t)::l,e=>by subst e;exact .cons ⟨t,rfl⟩ (lZ rfl)
def Ay (K:Dd):V->List V->Hp->VK->Prop:=λx xs H Q=>∃ (a:Str) (D:Du) (ts:List Str),x=.str a/\xs=[.ref D]/\bj K H D (ts.map V.str)/\JoinOk a ts=true/\Q (.str (KP a ts)) H
theorem jU (hK:X.K=K):B9 X "str.join" (Ay K):=by
 subst hK;intro pins s σ H x xs v us Q I rx rv h;obtain⟨a,D,ts,rfl,rfl,hD,hj,q⟩:=h;obtain⟨t,rfl⟩:=rx;obtain⟨u,rfl,ru⟩:=rv.one;cases ru;obtain⟨its,r,pl,hz⟩:=I.list hD;obtain⟨l,rfl,e⟩:=rc r;exact SC.join pl.isList e hj λt' k=>⟨.str _,H,I.tok k,⟨_,rfl⟩,q⟩
def y4:V->List V->Hp->VK->Prop:=λx xs H Q=>∃ a b:Str,x=.str a/\xs=[.str b]/\(b.length==0)=false/\a.length+2<=Ds/\∀ D,H D=none->Q (.ref D) (upd H D (.lst ((Fq a b).map V.str)))
theorem eB (a b:Str):(Fq a b).length<=a.length+2:=by
 unfold Fq;have e1:=KH a b 0 a.length (a.length+1)
 split
 ·show 1<=_;omega
 ·split
  ·show 1<=_;omega
  ·rw[length_partsBetween];omega
theorem iT:B9 X "str.split" y4:=by
 intro pins s σ H x xs v us Q I rx rv h;obtain⟨a,b,rfl,rfl,hb,hz,q⟩:=h;obtain⟨t,rfl⟩:=rx;obtain⟨u,rfl,ru⟩:=rv.one;obtain⟨t',rfl⟩:=ru;have fin:∀ (l:List (Str×Tok)) (k:Nat),l.map (·.1)=Fq a b->EP X pins σ Q (.ref s.heap.objs.size) { s with heap:=s.heap.push { cls:=.type "list",data:=.seq (strValues l).toArray },toks:=k }:=λl k e=>
  ⟨.ref s.heap.objs.size,_,I.lnew (lZ e) (by rw[Dh];have:=eB a b;omega),rfl,q _ I.fresh⟩
 have hn:(Jx a (FH a b 0 a.length (a.length+1)) b.length).length<=Ds:=by
  have e1:=KH a b 0 a.length (a.length+1);rw[length_partsBetween];omega
 cases h1:(decide (a.length<b.length)||decide (K8 a<K8 b))
 ·cases hf:(FH a b 0 a.length (a.length+1)).isEmpty
  ·refine Hv Fo (IB _ _ _) Jy (Jb _ _) (meets_str_split_sep a b t t' h1 hb hf (by omega) hn) ?_;show wants _ _ _ { s with toks:=_,heap:=s.heap.push { cls:=.type "list",data:=.seq (strsFrom s.toks (Jx a (FH a b 0 a.length (a.length+1)) b.length)).toArray } };rw[strsFrom_eq];exact fin (numbered s.toks _) _ ((numbered_texts _ _).trans ((DS (IU h1)).trans (DS (IU hf))).symm)
  ·exact Hv Fo (IB _ _ _) Jy (Jb _ _) (meets_str_split_not_found a b t t' h1 hb hf)
    (fin [(a,t)] s.toks ((DS (IU h1)).trans (Ee hf)).symm)
 ·exact Hv Fo (IB _ _ _) Jy (Jb _ _) (meets_str_split_cannot_occur a b t t' h1)
   (fin [(a,t)] s.toks (Ee h1).symm)
def Ba:List V->Hp->VK->Prop:=λxs H Q=>∃ (x:Str) (n:Int),xs=[.str x]/\PySem.intText? x=some n/\x.length<=640/\Q (.int n) H
theorem lY:br X (.type "int") Ba:=by
 intro pins s σ H xs us Q I r h;obtain⟨x,n,rfl,hn,hl,q⟩:=h;obtain⟨u,rfl,t,rfl⟩:=fk r;exact PySem.W.KIN.call_text hn hl ⟨.int n,H,I.tok _,⟨_,rfl⟩,q⟩
def Bw (x:Str):It:=⟨λi _=>i<x.cps.size,λi H v H'=>H'=H/\∃ c,x.cps[i]?=some c/\v=.str ⟨#[c]⟩,λi _=>x.cps.size<=i⟩
theorem pE {P:DN}{w:Ez}{K:Dd}{tg:Fs}(it:Du)(T:String)(x:Str)(t:Tok)(hT:T="str_ascii_iterator"\/T="str_iterator"):lB P w K tg (Bw x) [it] it (λi h=>h.IsStrIter it T x t i) where
 mem:=by simp
 obj:=λi h st b hb=>by
  have e:b=it:=by simpa using hb
  subst e;obtain⟨o,e,c,d⟩:=st;exact⟨o,e,λv z=>by rw[d] at z;cases z⟩
 keep:=λi h h' st k=>let ⟨o,ho,r⟩:=st;⟨o,k it (by simp) o ho,r⟩
 item:=by
  intro X hP hw hK hc i pins s σ H E I hf st hg;subst hP hw hK;have hg:i<x.cps.size:=hg;obtain⟨f0,f1,f2,f3,f4,f5⟩:=hf it (by simp);have fin:∀ h',h'.IsStrIter it T x t (i+1)->Ew it s.heap h'->∃ u,some (KI ⟨#[x.cps[i]]⟩ s.toks)=some u/\Dy (DK X.prog X.w) X.A (Gh tg (.ref it) u) (λ_ s2=>∃ x' H',av X pins σ H' s2/\RelV x' u/\(Bw x).yld i H x' H'/\(λi h=>h.IsStrIter it T x t i) (i+1) s2.heap/\∀ b∈[it],H' b=none) E { s with heap:=h',toks:=s.toks+1 }:=λh' st' sb=>by
   have I1:av X pins σ H { s with heap:=h',toks:=s.toks+1 }:=I.turned (t':=s.toks+1) (λb o hb e=>(sb.2 b hb).trans e) f0 f1 f3 f4 f5;obtain⟨o,e,c,d⟩:=id st';exact⟨_,rfl,rp (s:={ s with heap:=h',toks:=s.toks+1 }) e c d (by rcases hT with rfl|rfl<;>decide) ⟨.str ⟨#[x.cps[i]]⟩,H,I1,⟨_,rfl⟩,⟨rfl,_,by simp[hg],rfl⟩,st',λb hb=>(hf b hb).1⟩⟩
  rcases hT with rfl|rfl
  ·exact wpAny_pyNext_ascii_item st (c:=x.cps[i]) (by simp[hg]) fin
  ·exact wpAny_pyNext_wide_item st (c:=x.cps[i]) (by simp[hg]) fin
 done:=by
  intro X hP hw hK hc i pins s σ H E I hf st hg;subst hP hw hK;have hg:x.cps.size<=i:=hg;obtain⟨f0,f1,f2,f3,f4,f5⟩:=hf it (by simp);rcases hT with rfl|rfl
  ·exact wpAny_pyNext_ascii_end (I.ok.hd hc) st (by simp;omega) λh' eb=>⟨rfl,I.turned (t':=s.toks) (λb o hb e=>eb b o hb e) f0 f1 f3 f4 f5⟩
  ·exact wpAny_pyNext_wide_end (I.ok.hd hc) st (by simp;omega) λh' eb=>⟨rfl,I.turned (t':=s.toks) (λb o hb e=>eb b o hb e) f0 f1 f3 f4 f5⟩
 self:=λ_ _ _ _ _ st h=>by
  rcases hT with rfl|rfl
  ·exact wpAny_pyIter_striter_ascii st h
  ·exact wpAny_pyIter_striter_wide st h
def Co (tl:TE):TI:=λσ H R=>tl σ H λx H1=>∃ a,x=.str a/\R (Bw a) H1
theorem wB {tg l:Fs}{tl:TE}(hl:WE X l tl):WI X tg l (Co tl):=by
 have hl:=hl.go;refine⟨?_⟩;intro pins s σ H R I h;refine bo (hl pins s σ H _ I h) λv s1 ⟨x,H1,I1,r1,q1⟩=>?_
 obtain⟨a,rfl,q⟩:=q1;obtain⟨t,rfl⟩:=r1;have fp:∀ c∈[s1.heap.objs.size],eV X pins H1 c:=λc hc=>by
  cases DC.mp hc;exact I1.fpOk (Dn _) (I1.hok.fresh (Dn _))
 cases ha:a.cps.all (·<128)
 ·exact wpAny_pyIter_wide ha ⟨s1.heap.objs.size,[s1.heap.objs.size],_,_,H1,rfl,I1.kept (t':=s1.toks) λb o e=>Df _ e,pE _ "str_iterator" a t (.inr rfl),⟨_,Dl _ rfl,rfl,rfl⟩,fp,q⟩
 ·exact wpAny_pyIter_ascii ha ⟨s1.heap.objs.size,[s1.heap.objs.size],_,_,H1,rfl,I1.kept (t':=s1.toks) λb o e=>Df _ e,pE _ "str_ascii_iterator" a t (.inl rfl),⟨_,Dl _ rfl,rfl,rfl⟩,fp,q⟩
def BV:V->Option Int->Option Int->Hp->VK->Prop:=λx lo hi H Q=>∃ a,x=.str a/\a.length<=Ds/\Q (.str (Txt.slice a lo hi)) H
theorem yJ:By X BV:=by
 intro pins s σ H x v vl vu lo hi sl Q I rx hs pl pu h;obtain⟨a,rfl,hz,q⟩:=h;obtain⟨t,rfl⟩:=rx;have part:∀ {v:Di}{o:Option Int},IsPart v o->∃ l:Option (Int×Tok),v=partValue l/\l.map (·.1)=o:=λ{v o} h=>by
  cases h with
  |none=>exact⟨none,rfl,rfl⟩
  |int i t=>exact⟨some (i,t),rfl,rfl⟩
 obtain⟨l,rfl,rfl⟩:=part pl;obtain⟨u,rfl,rfl⟩:=part pu;exact⟨"str",_,F.slot_str_getitem.lookup,IB _ _ _,wpAny_getItem_str_slice (l:=l) (u:=u) (st:=none) hs rfl (post_val_or_str ⟨Dt (Txt.slice_le a _ _) hz,λt' k=>⟨.str _,H,I.tok k,⟨_,rfl⟩,q⟩⟩)⟩
def Cv (te:TE):TE:=λσ H Q=>te σ H λv H1=>(∃ i:Int,v=.int i/\i.natAbs.log2<1920/\Q (.str (toString i)) H1)\/(∃ x:Str,v=.str x/\x.length<=Ds/\Q (.str x) H1)
theorem rb {e:Fs}{te:TE}{pos:Pos}(he:WE X e te):WE X (.FormattedValue e (-1) none pos) (Cv te):=by
 have he:=he.go;refine⟨?_⟩;intro pins s σ H Q I h;refine wpAny_FormattedValue_plain (bo (he pins s σ H _ I h) λv s1 ⟨x,H1,I1,r1,q1⟩=>?_);rcases q1 with ⟨i,rfl,hi,q⟩|⟨x,rfl,hx,q⟩
 ·obtain⟨t,rfl⟩:=r1;exact wpAny_formatField_int hi ⟨.str _,H1,I1.tok _,⟨_,rfl⟩,q⟩
 ·obtain⟨t,rfl⟩:=r1;exact wpAny_formatField_str ⟨.str _,H1,I1,⟨_,rfl⟩,q⟩ ⟨.str _,H1,I1.tok _,⟨_,rfl⟩,q⟩ hx
theorem empty_app (d:Str):Str.empty++d=d:=PySem.W.KT.empty_app d
def C5 (ta tb:TE):TE:=λσ H Q=>ta σ H λv H1=>∃ x:Str,v=.str x/\x.length<=Ds/\tb σ H1 λu H2=>∃ y:Str,u=.str y/\x.length+y.length<=Ds/\Q (.str (x++y)) H2
theorem my {a b:Fs}{ta tb:TE}{pos:Pos}(ha:WE X a ta)(hb:WE X b tb)(hs:evalEach [a,b] X.env=[GI a X.env,GI b X.env]:=by rfl):WE X (.JoinedStr [a,b] pos) (C5 ta tb):=by
 have ha:=ha.go;have hb:=hb.go;refine⟨?_⟩;intro pins s σ H Q I h;refine wpAny_JoinedStr ?_;rw[hs];refine bo (ha pins s σ H _ I h) λv s1 ⟨x,H1,I1,r1,x',e1,hx,q1⟩=>?_
 subst e1;obtain⟨t,rfl⟩:=r1;have go:Dy (DK X.prog X.w) X.A (GI b X.env) (λv s₂=>∃ y t,v=.str y t/\(x'++y).length<=Ds/\((x'++y).length<=Ds/\EP X pins σ Q (.str (x'++y) s₂.toks) { s₂ with toks:=s₂.toks+1 })) X.xe s1:=by
  refine bo (hb pins s1 σ H1 _ I1 q1) λu s2 ⟨y,H2,I2,r2,y',e2,hz,q2⟩=>?_
  subst e2;obtain⟨t2,rfl⟩:=r2;have hz':(x'++y').length<=Ds:=by rw[FI];exact hz
  exact⟨y',t2,rfl,hz',hz',.str _,H2,I2.tok _,⟨_,rfl⟩,q2⟩
 refine⟨x',t,rfl,?_,?_⟩
 ·rw[empty_app];exact hx
 ·rw[empty_app];exact go
theorem uS {x z:Str}{pos:Pos}(hg:Gl X x)(hm:∃ t,X.mg x=some (.str z t))(hd:(x==("__debug__":Str))=false:=by decide):WE X (.Name x pos) (tC (.str z)):=by
 refine⟨?_⟩;obtain⟨t,e⟩:=hm;exact rh hg e ⟨t,rfl⟩ hd
def AW (K:Dd)(t:wc):TG:=λv σ H Q=>∃ a x xs,v=.ref a/\bj K H a (x::xs)/\xs.length<=16383/\∀ D,H D=none->t [x,.ref D] σ (upd H D (.lst xs)) Q
theorem vB {e1 e2:Fs}{es:List Fs}{k:Nat}{pos:Pos}{t:wc} (hK:X.K=K) (hc:X.calm=true) (h:Ad X [e1,e2] t) (hn:(Fn es X.env).length=2:=by rfl) (hst:(Fn es X.env).findIdx? (·.1)=some 1:=by rfl)
  (hm:(Fn es X.env).map (·.2)=(Fn [e1,e2] X.env).map (·.2):=by rfl):WG X (.Tuple es k pos) (AW K t):=by
 have h:=h.go;refine⟨?_⟩;subst hK;intro pins s σ H v u Q I r hw;obtain⟨a,x,xs,rfl,hq,hl,hw⟩:=hw;cases r;obtain⟨its,rv,pl,hz⟩:=I.list hq;cases rv with
 |@cons _ u0 _ us r0 rs=>
 have hl':=pl.isList;have hlen:us.length<=16383:=by rw[<- rs.length];exact hl
 rw[assign_Tuple];refine De (Fl ?_);unfold unpack;rw[hn,hst];refine De (Em ?_);have hlt:a≠s.heap.objs.size:=by obtain⟨o,ho,_⟩:=hl';exact DI (Dj ho)
 unfold unpackItems;refine De ?_;unfold notIterableAtAll;refine De (HM hl'.typeIs slot_list_iter.lookup ?_);refine Dg ?_;simp only[EO,GG];refine De (Em (Fw hl' ?_));refine De (Em (PySem.W.kun_draw hlt 1 0 _ _ ⟨_,Dl _ rfl,rfl,rfl⟩ (hl'.push _) (by simp) λh₁ hit₁ hs₁=>?_));have hl₁:h₁.IsList a (u0::us).toArray:=(hl'.push _).extBut hs₁.extBut hlt;rw[Nat.zero_add] at hit₁;have hit₁':=hit₁;obtain⟨oi,hoi,_⟩:=hit₁';have hl₁':=hl₁;obtain⟨ol,hol,_⟩:=hl₁';rw[List.drop_zero];rw[DS (show ¬ (((u0::us).toArray.toList.take 1).length<1) by simp)];refine De (Em (PySem.W.kun_collect (s:={ s with heap:=h₁ }) (T:="list_iterator") (.inr (.inr (.inl rfl))) (Walks.list (A:=X.A.in1) (I.ok.hd hc) s.heap.objs.size a hlt (u0::us).toArray) (λj u st=>st.1.typeIs) (k:=1) (by simp) ⟨hit₁,hl₁⟩ (Dj hoi) (Dj hol) (λh₂ tk hk=>?_) (by rw[EZ];simp;omega)));show Dy _ _ (if us.length<0 then _ else _) _ _ _;rw[DS (Nat.not_lt_zero _)];show Dy _ _ (newList (us.take (us.length-0))>>=λd=>pure ([u0]++[d]++us.drop (us.length-0))) _ _ _;rw[Nat.sub_zero,List.take_length,List.drop_length];have he:IH s.heap.objs.size s.heap h₂:=λb o hb e=>hk b o hb (hs₁.extBut b o hb (Df _ e))
 have I1:av X pins σ H { s with heap:=h₂,toks:=tk }:=I.kept (t':=tk) λb o e=>he b o (DI (Dj e)) e
 refine De (wpAny_newList ?_ ?_)
 ·refine Dg ?_;rw[hm];have I2:=I1.lnew (t':=tk) rs (by rw[EZ];omega);exact h pins _ σ _ _ _ Q I2 (.cons r0 (.cons (show L2.RelV (V.ref h₂.objs.size) (DQ h₂.objs.size) from rfl) .nil)) (hw _ I1.fresh)
 ·rw[EZ];omega
end
theorem gOfS {K:Dd}{x z:Str}{t:Tok}(h:DG K Dr x=some (some (.str z t))):∃ t,DG K Dr x=some (some (.str z t)):=⟨t,h⟩
theorem C6 {K:Dd}{mg:Str->Option Di}{h:Fp}{x z:Str}(X:K.In h)(G:h.Ns Dr mg)(a:∃ t,DG K Dr x=some (some (.str z t))):∃ t,mg x=some (.str z t):=by obtain⟨t,e⟩:=a;exact⟨t,FZ X G e⟩
def lF (h:Fp)(e C T:Du):Prop:=∃ oe vs oT ts v,h.get? e=some oe/\oe.cls=.ref C/\oe.data=.fields vs/\vs[1]?=some (.ref T)/\T≠e/\h.get? T=some oT/\oT.data=.fields ts/\ts[3]?=some v
def t4 (l:List Env)(e:Du)(T:Option Du)(h h':Fp):Prop:=(∀ b o,h.get? b=some o->b∉dB l->b≠e->T≠some b->h'.get? b=some o)/\∀ b o,h.get? b=some o->b∈dB l->∃ sl,h'.get? b=some { o with slots:=sl }
section
variable {M:Model}{A:EK}{E:Di->Dk->Prop}{s:Dk}
theorem ja {base:Fp}{env env':Env}{outer:List Env}{L e C:Du}{oe:Obj}{vs:Array Di}{head:Di}{hadNext:Bool}{Q:Unit->Dk->Prop} (hfr:A.frames=some (env :: outer)) (hl:s.heap.FunFrames base (env :: outer)) (hf:env.frame=some L) (hf':env'.frame=some L)
  (he:s.heap.get? e=some oe)(hc:oe.cls=.ref C)(hd:oe.data=.fields vs)(hsz:1<vs.size)(h:∀ h' T',t4 (env::outer) e none s.heap h'->lF h' e C T'->s.heap.get? T'=none->Q () { s with heap:=h' }):
  Dy M A (do let a <- JY env';let pl <- entryPlaceOf L hadNext;let b <- K9 head a .none (FK L) .none pl;Mp (.ref e) 1 b) Q E s:=by
 have hene:e∉(env::outer).filterMap (·.frame):=λhm=>by
  obtain⟨_,o,ho,hnf⟩:=hl.mem hm;rw[he] at ho;injection ho with ho;subst ho;exact hnf vs hd
 have ef:JY env'=JY env:=by unfold JY;rw[hf',hf]
 rw[ef];refine De (wpAny_frameOf_fun hfr hl hf λh₁ hs₁=>?_);refine De (wpAny_entryPlaceOf λpl hpl=>?_);unfold K9 newFields;refine De (Es ?_ (hpl.sizeOk5 _ _ _ _ _));have he₁:h₁.get? e=some oe:=(hs₁.2.1 e hene).trans he;have he₂:=Df (h:=h₁) { cls:=.type "traceback",dict:=none,data:=.fields ([head,.ref L,.none,FK L,.none]++(if pl.isEmpty then Dz 6 D_ else pl)).toArray } he₁;refine Fa he₂ hd hsz ?_;have hTe:h₁.objs.size≠e:=FB (Dj he₁);have hd₃:=Ec hd (·.setIfInBounds 1 (DQ h₁.objs.size));have he₃:=DX (Ev (·.setIfInBounds 1 (DQ h₁.objs.size))) he₂ (EI hd₃);have hT₃:=(DV (h₁.push { cls:=.type "traceback",dict:=none,data:=.fields ([head,.ref L,.none,FK L,.none]++(if pl.isEmpty then Dz 6 D_ else pl)).toArray })
  (Ev (·.setIfInBounds 1 (DQ h₁.objs.size))) (Fj hTe)).trans (Dl h₁ rfl)
 have keep:∀ b o,b≠e->h₁.get? b=some o->((h₁.push { cls:=.type "traceback",dict:=none,data:=.fields ([head,.ref L,.none,FK L,.none]++(if pl.isEmpty then Dz 6 D_ else pl)).toArray }).update e (Ev (·.setIfInBounds 1 (DQ h₁.objs.size)))).get? b=some o:=λb o hbe hb=>by
  rw[DV _ _ (Fj hbe)];exact Df _ hb
 refine h _ h₁.objs.size ⟨λb o q n ne _=>keep b o ne ((hs₁.2.1 b n).trans q),λb o q m=>?_⟩ ⟨_,_,_,_,FK L,he₃,(GX _ _).trans hc,hd₃,by simp[hsz],hTe,hT₃,rfl,?_⟩ ?_
 ·obtain⟨sl,hs⟩:=hs₁.2.2 b o q;exact⟨sl,keep b _ (λz=>hene (z▸m)) hs⟩
 ·rcases hpl with rfl|⟨_,_,_,_,_,_,_,rfl⟩<;>simp
 ·cases q:s.heap.get? h₁.objs.size with
  |none=>rfl
  |some o=>
   have:=Dj q;rw[hs₁.1] at this;exact absurd this (Eh _)
theorem mD {h:Fp}{e C T:Du}{v:Di}(x:lF h e C T):lF (h.update T (Ev (·.setIfInBounds 3 v))) e C T/\(v=.none->kD (h.update T (Ev (·.setIfInBounds 3 v))) e C (some T)):=by
 obtain⟨oe,vs,oT,ts,u,he,hc,hd,h1,hTe,hT,hdT,h3⟩:=x;have sz:3<ts.size:=(Eg.mp h3).1;have d3:=Ec hdT (·.setIfInBounds 3 v);have e1:(h.update T (Ev (·.setIfInBounds 3 v))).get? e=some oe:=(DV _ _ hTe).trans he;have e2:=DX (Ev (·.setIfInBounds 3 v)) hT (EI d3);exact⟨⟨oe,vs,_,_,v,e1,hc,hd,h1,hTe,e2,d3,by simp[sz]⟩,λev=>⟨oe,vs,e1,hc,hd,h1,hTe,_,_,e2,d3,by simp[sz,ev]⟩⟩
theorem vh {base:Fp}{env env':Env}{outer:List Env}{L e C:Du}{T:Option Du}{Q:Unit->Dk->Prop} (hfr:A.frames=some (env :: outer)) (hl:s.heap.FunFrames base (env :: outer)) (hf:env.frame=some L) (hf':env'.frame=some L) (x:kD s.heap e C T)
  (h:∀ h' T',t4 (env::outer) e T s.heap h'->lF h' e C T'->s.heap.get? T'=none->Q () { s with heap:=h' }):Dy M A (IV (.ref e) env') Q E s:=by
 obtain⟨oe,vs,he,hc,hd,hT⟩:=x;unfold IV;simp only[hf'];cases T with
 |none=>
  refine De (EC he hd hT ?_);rw[DS (by decide)];exact ja hfr hl hf hf' he hc hd (Eg.mp hT).1 h
 |some T=>
  obtain⟨h1,hTe,oT,ts,hoT,hdT,h3⟩:=hT;refine De (EC he hd h1 ?_);rw[Ee (show(DQ T != D_)=true from by simp)];refine De (EC hoT hdT h3 ?_);rw[DS (show ¬ ((D_==FK L)=true) from by simp[FK])];refine De (Fa hoT hdT (Eg.mp h3).1 ?_);have other:∀ b,b≠T->(s.heap.update T (Ev (·.setIfInBounds 3 D_))).get? b=s.heap.get? b:=λb hb=>DV _ _ (Fj hb)
  have noRecord:∀ b o,s.heap.get? b=some o->(∀ vs,o.data≠.fields vs)->b≠T:=λb o hb hnf q=>by
   rw[q,hoT] at hb;injection hb with hb;subst hb;exact hnf ts hdT
  have nTf:T∉dB (env::outer):=λm=>by
   obtain⟨_,o,ho,hnf⟩:=hl.mem m;rw[hoT] at ho;injection ho with ho;subst ho;exact hnf ts hdT
  refine ja (s:={ s with heap:=s.heap.update T (Ev (·.setIfInBounds 3 D_)) }) hfr (hl.of_keeps λb o hb hnf=>⟨o,(other b (noRecord b o hb hnf)).trans hb,rfl⟩) hf hf' ((other e (Fj hTe)).trans he) hc hd (Eg.mp h1).1 λh' T' k x' nT=>?_
  refine h h' T' ⟨λb o q n ne nt=>k.1 b o ((other b (λz=>nt (by rw[z]))).trans q) n ne (λz=>nomatch z),λb o q m=>k.2 b o ((other b (λz=>nTf (z▸m))).trans q) m⟩ x' ?_
  by_cases z:T'=T
  ·subst z;exfalso;have e2:=DX (Ev (·.setIfInBounds 3 D_)) hoT (EI (Ec hdT _));have nT':(s.heap.update T' (Ev (·.setIfInBounds 3 D_))).get? T'=none:=nT;rw[e2] at nT';cases nT'
  ·exact(other T' z).symm.trans nT
theorem zU {base:Fp}{env:Env}{outer:List Env}{L e C T:Du}{Q:Unit->Dk->Prop} (hfr:A.frames=some (env :: outer)) (hl:s.heap.FunFrames base (env :: outer)) (hf:env.frame=some L) (x:lF s.heap e C T)
  (h:∀ h' T',t4 (env::outer) e (some T) s.heap h'->kD h' e C (some T')->(s.heap.get? T'=none\/T=T')->Q () { s with heap:=h' }):Dy M A (leaving env (.ref e)) Q E s:=by
 obtain⟨oe,vs,oT,ts,v,he,hc,hd,h1,hTe,hT,hdT,h3⟩:=id x;have sz:3<ts.size:=(Eg.mp h3).1;have other:∀ (u:Di) b,b≠T->(s.heap.update T (Ev (·.setIfInBounds 3 u))).get? b=s.heap.get? b:=λu b hb=>DV _ _ (Fj hb)
 have nTf:T∉dB (env::outer):=λm=>by
  obtain⟨_,o,ho,hnf⟩:=hl.mem m;rw[hT] at ho;injection ho with ho;subst ho;exact hnf ts hdT
 have noRecord:∀ b o,s.heap.get? b=some o->(∀ vs,o.data≠.fields vs)->b≠T:=λb o hb hnf q=>by
  rw[q,hT] at hb;injection hb with hb;subst hb;exact hnf ts hdT
 unfold leaving IV;simp only[hf];refine De (De (EC he hd h1 ?_));rw[Ee (show(DQ T != D_)=true from by simp)];refine De (EC hT hdT h3 ?_)
 by_cases z:(v==FK L)=true
 ·rw[Ee z];refine Dg ?_;refine Iu he hd h1 hT hdT sz ?_;exact h _ T ⟨λb o q _ _ nt=>(other _ b (λz=>nt (by rw[z]))).trans q,λb o q m=>⟨o.slots,(other _ b (λz=>nTf (z▸m))).trans q⟩⟩ ((mD (v:=.none) x).2 rfl) (.inr rfl)
 ·rw[DS z];refine De (Fa hT hdT sz ?_);refine ja (s:={ s with heap:=s.heap.update T (Ev (·.setIfInBounds 3 D_)) }) hfr (hl.of_keeps λb o hb hnf=>⟨o,(other _ b (noRecord b o hb hnf)).trans hb,rfl⟩) hf hf ((other _ e (Fj hTe)).trans he) hc hd (Eg.mp h1).1 λh' T' k x' nT=>?_
  obtain⟨oe',vs',oT',ts',v',he',hc',hd',h1',hTe',hT',hdT',h3'⟩:=id x';refine Iu he' hd' h1' hT' hdT' (Eg.mp h3').1 ?_;have other':∀ b,b≠T'->(h'.update T' (Ev (·.setIfInBounds 3 D_))).get? b=h'.get? b:=λb hb=>DV _ _ (Fj hb)
  have e2:=DX (Ev (·.setIfInBounds 3 D_)) hT (EI (Ec hdT _));have nT1:(s.heap.update T (Ev (·.setIfInBounds 3 D_))).get? T'=none:=nT;have zT:T'≠T:=λz=>by rw[z,e2] at nT1;cases nT1
  have nT2:s.heap.get? T'=none:=(other _ T' zT).symm.trans nT1;have nb:∀ b o,s.heap.get? b=some o->b≠T':=λb o q z=>by rw[z,nT2] at q;cases q
  refine h _ T' ⟨λb o q n ne nt=>(other' b (nb b o q)).trans (k.1 b o ((other _ b (λz=>nt (by rw[z]))).trans q) n ne (λz=>nomatch z)),λb o q m=>?_⟩ ((mD (v:=.none) x').2 rfl) (.inl nT2);obtain⟨sl,q'⟩:=k.2 b o ((other _ b (λz=>nTf (z▸m))).trans q) m;exact⟨sl,(other' b (nb b o q)).trans q'⟩
end
def zR (X:Cx)(W:L2.St->Du->Hp->Prop):Prop:=∀ (pins:List (Du×Obj)) (σ:L2.St) (H:Hp) (s:Dk) (e C T:Du),av X pins σ H s->lF s.heap e C T->d_ X pins H e->d_ X pins H T->W σ C H->X.xe (.ref e) s
theorem uB {P:DN}{w:Ez}{K:Dd}{mg:Str->Option Di}{base:Fp}{N:List Str}{qual:Str}{scope:He}{f:Du}{cd:Di}{A:EK}{outer:List Env}{s:Dk}{H:Hp}{E:XK} :
  zR (kF (cC P w) P w K mg base N qual scope f cd A outer s H E) (λ_ C H'=>E (.ref C) none H'):=by
 intro pins σ H' s' e C T I x oe oT q;have fl:=I.stack;show Dy _ _ (leaving _ _) _ _ _;refine zU (base:=base) I.ok.frames fl rfl x λh' T' ⟨keep,slot⟩ x' nT=>?_
 have sz:∀ b o,s.heap.get? b=some o->b≠s.heap.objs.size:=λb o e=>DI (Dj e)
 have nf:∀ b o,s.heap.get? b=some o->b∉dB outer->b∉dB (envOfC qual scope s.heap.objs.size f cd::outer):=λb o e n m=>by
  obtain⟨env,he,hf⟩:=EG.mp m;rcases Dx.mp he with rfl|he
  ·exact sz b o e (Dm hf).symm
  ·exact n (EG.mpr ⟨env,he,hf⟩)
 have inn:∀ b,b∈dB outer->b∈dB (envOfC qual scope s.heap.objs.size f cd::outer):=λb m=>by
  obtain⟨env,he,hf⟩:=EG.mp m;exact EG.mpr ⟨env,Do _ he,hf⟩
 have ne:∀ b o,s.heap.get? b=some o->b≠e:=λb o q z=>by rw[z] at q;rw[show s.heap.get? e=none from oe.new] at q;cases q
 have nt:∀ b o,s.heap.get? b=some o->some T≠some b:=λb o q z=>by cases z;rw[show s.heap.get? T=none from oT.new] at q;cases q
 have hT':s.heap.get? T'=none/\H' T'=none:=by
  rcases nT with nT|nT
  ·constructor
   ·cases q:s.heap.get? T' with
    |none=>rfl
    |some o=>
     obtain⟨o',q'⟩:=I.base.there T' o q (by intro z;exact absurd (show T'∈([]:List Du) from z) (by simp));rw[nT] at q';cases q'
   ·cases q:H' T' with
    |none=>rfl
    |some u=>
     have lt:=I.hok T' u q;obtain⟨o,q'⟩:∃ o,s'.heap.get? T'=some o:=dN lt;rw[nT] at q';cases q'
  ·subst nT;exact⟨oT.new,oT.free⟩
 refine⟨e,C,some T',H',rfl,I.os,I.bare,⟨λb o q n m z=>?_,λb o q n m z=>?_,λb o q n z=>I.base.free b o q n z,λb o q z=>?_,I.base.tups,I.base.frzs,I.base.tbls⟩,gf I.hok λb u o hb q=>?_,x',⟨oe.new,oe.free⟩,λt et=>by cases et;exact hT',q⟩
 ·exact keep b o (I.base.keep b o q n m z) (nf b o q m) (ne b o q) (nt b o q)
 ·obtain⟨sl,q2⟩:=I.base.slot b o q n m z;obtain⟨sl2,q3⟩:=slot b _ q2 (inn b m);exact⟨sl2,q3⟩
 ·obtain⟨o',q2⟩:=I.base.there b o q z
  by_cases m:b∈dB (envOfC qual scope s.heap.objs.size f cd::outer)
  ·obtain⟨sl,q3⟩:=slot b o' q2 m;exact⟨_,q3⟩
  ·exact⟨o',keep b o' q2 m (ne b o q) (nt b o q)⟩
 ·refine keep b o q (λm=>?_) (λz=>?_) (λz=>?_)
  ·rw[I.stkFree b m] at hb;cases hb
  ·rw[z,oe.free] at hb;cases hb
  ·cases z;rw[oT.free] at hb;cases hb
theorem oU {X:Cx}{pins:List (Du×Obj)}{σ:L2.St}{H:Hp}{s:Dk}{b:Du}(hex:X.ex=[])(I:av X pins σ H s)(n1:s.heap.get? b=none):d_ X pins H b:=by
 have ne:∀ c o,s.heap.get? c=some o->c≠b:=λc o q z=>by rw[z,n1] at q;cases q
 refine⟨?_,?_,λz=>?_,λy c q z=>?_,λp hp z=>?_⟩
 ·cases q:X.s₀.heap.get? b with
  |none=>rfl
  |some o=>
   obtain⟨o',q'⟩:=I.base.there b o q (by rw[hex];simp);rw[n1] at q';cases q'
 ·cases q:H b with
  |none=>rfl
  |some u=>
   obtain⟨o,q'⟩:=dN (I.hok b u q);rw[n1] at q';cases q'
 ·obtain⟨m,hn,_⟩:=I.loc;obtain⟨o,_,_,ho,_⟩:=hn;exact ne _ o ho z.symm
 ·obtain⟨v,o,ho,_⟩:=I.cell y c q;exact ne _ o ho z
 ·exact ne _ _ (I.pin p hp).1 z
theorem Ah {X:Cx}{W:L2.St->Du->Hp->Prop}{pins:List (Du × Obj)}{σ:L2.St}{H:Hp}{s:Dk}{e C T:Du}{what:String}{env:Env}{Q:Di->Dk->Prop} (hT:zR X W) (I:av X pins σ H s) (x:lF s.heap e C T) (oe:d_ X pins H e) (oT:d_ X pins H T) (q:W σ C H) :
  Dy (DK X.prog X.w) X.A (PySem.passOn what (.ref e) env:Sem Di) Q X.xe s:=by
 obtain⟨o1,vs,o2,ts,v,a1,a2,a3,a4,a5,a6,a7,a8⟩:=id x;unfold PySem.passOn;refine De (EC a1 a3 a4 ?_);rw[DS (show ¬ ((DQ T==D_)=true) from by simp)];unfold setFlight;refine De (De (EC a1 a3 a4 ?_));rw[Ee (show(DQ T != D_)=true from by simp)];refine Fa a6 a7 (Eg.mp a8).1 ?_;refine Lm ?_;have J:av X pins σ H { s with heap:=s.heap.update T (Ev (·.setIfInBounds 3 (env.frame.elim .none λf=>FK f))) }:=av.flown (L:=[T]) I (λb hb=>by cases DC.mp hb;exact oT)
  (λb o q' _ n=>(DV _ _ (λz=>n (by rw[z];simp))).trans q') λb o q' m=>⟨o.slots,(DV _ _ (λz=>by
   obtain⟨_,o',ho,hnf⟩:=I.stack.mem m;rw[<- z,a6] at ho;cases ho;exact hnf ts a7)).trans q'⟩
 exact hT pins σ H _ e C T J (mD x).1 oe oT q
def BN (X:Cx)(N:List Str)(scope:He)(C:Du)(s2:Dk)(H2:Hp)(fp:List Du)(pins:List (Du×Obj))(Wh:Du->Hp->Prop):Di->Dk->Prop:=λv s'=>∃ e Cl T pl σ' H',v=.ref e/\av (aF X N scope (ay X scope C) C s2 H2 fp pins) pl σ' H' s'/\kD s'.heap e Cl T /\
 (((s2.heap.get? e=none\/e∈fp)/\H' e=none/\e≠C)/\∀ t,T=some t->(s2.heap.get? t=none\/t∈fp)/\H' t=none/\t≠C)/\Wh Cl H'
def lN (X:Cx)(N:List Str)(scope:He)(C:Du)(s2:Dk)(H2:Hp)(fp:List Du)(pins:List (Du×Obj))(Wh:Du->Hp->Prop):Cx:={ aF X N scope (ay X scope C) C s2 H2 fp pins with xe:=BN X N scope C s2 H2 fp pins Wh }
theorem BJ {X:Cx}{pins:List (Du × Obj)}{σ:L2.St}{H2:Hp}{s2 s':Dk}{N:List Str}{scope:He}{C:Du}{fp:List Du}{Wh:Du->Hp->Prop}{outs:List Env}{L0:Du}{v:Di}{RR:Du->Result->Dk->Prop} (hst:X.stack=X.env :: outs) (hfr0:X.env.frame=some L0) (hex:X.ex=[]) (I:av X pins σ H2 s2) (f2:∀ b ∈ fp,eV X pins H2 b) (hC:s2.heap.objs.size <= C) (fpLt:∀ b ∈ fp,b < s2.heap.objs.size)
  (hRE:∀ (C:Du) (s':Dk) (H':Hp) (e Cl T:Du),av X pins σ H' s'->lF s'.heap e Cl T->d_ X pins H' e->d_ X pins H' T->Wh Cl H'->(∃ m,s'.heap.Ns C m)->H' C=none->e≠C->T≠C->s2.heap.objs.size<=C->RR C (.error (.ref e)) s')
  (hx:BN X N scope C s2 H2 fp pins Wh v s'):notedBy (DK X.prog X.w) X.A (Hj scope (ay X scope C) C X.env) (λe s'=>RR C (.error e) s') v s':=by
 obtain⟨e,Cl,T,pl,σ',H',rfl,J,x,⟨oe,oT⟩,q⟩:=hx;have I':av X pins σ H' s':=md I f2 J;have ours:∀ b,(s2.heap.get? b=none\/b∈fp)/\H' b=none/\b≠C->d_ X pins H' b:=λb ⟨z,n2,_⟩=>by
  rcases z with z|z
  ·have o:=oU hex I z;exact⟨o.new,n2,o.loc,o.cell,o.pin⟩
  ·obtain⟨_,g1,_,g3,g4,g5⟩:=f2 b z;refine⟨?_,n2,g1,g4,g5⟩;rcases g3 with g3|g3
   ·rw[hex] at g3;cases g3
   ·exact KY g3
 have fr:=I'.ok.frames;rw[hst] at fr;have fl:=I'.stack;rw[hst] at fl;obtain⟨m,hn,_⟩:=id J.loc;obtain⟨oC,es,ep,hoC,rC⟩:=id hn;have cF:C∉dB (X.env::outs):=λz=>by
  have fl2:=I.stack;rw[hst] at fl2;obtain⟨_,o,ho,_⟩:=fl2.mem z;exact absurd (Dj ho) (El.mpr hC)
 show Dy _ _ (IV _ _) _ _ _;refine vh fr fl hfr0 (show(Hj scope (ay X scope C) C X.env).frame=some L0 from hfr0) x λh' T' ⟨keep,slot⟩ x' nT=>?_
 have J2:av X pins σ H' { s' with heap:=h' }:=av.flown (L:=e::T.toList) I' (λb hb=>by
  rcases Dx.mp hb with rfl|hb
  ·exact ours _ oe
  ·exact ours _ (oT b (HY.mp hb))) (λb o q' n nl=>keep b o q' (by rw[<- hst];exact n) (λz=>nl (by simp[z])) (λz=>nl (by simp[z]))) λb o q' mm=>slot b o q' (by rw[<- hst];exact mm)
 have oT':d_ X pins H' T':=oU hex I' nT;refine hRE C _ H' e Cl T' J2 x' (ours e oe) oT' q ⟨m,oC,es,ep,keep C oC hoC cF oe.2.2.symm (λz=>(oT C z).2.2 rfl),rC⟩ J.free oe.2.2 (λz=>?_) hC;rw[z] at nT;rw[show s'.heap.get? C=some oC from hoC] at nT;cases nT
section
variable {X:Cx}{N:List Str}{scope:He}{C:Du}{s2:Dk}{H2:Hp}{fp:List Du}{pn:List (Du×Obj)}{Wh:Du->Hp->Prop}{k:Nat}{ps:List Str}{sp:Sp}{dvs:List V}{x:Str}{p pos:Pos}{e:Fs}{es:List Fs}{t:TA}
theorem vK (Cc:dA X.prog X.w X.K X.mg X.base (cC X.prog X.w) k x ps dvs sp) (hr:Room k X.A) (hg:Gl (lN X N scope C s2 H2 fp pn Wh) x) (ha:WA (lN X N scope C s2 H2 fp pn Wh) (e :: es) t) (hdb:(x == ("__debug__":Str))=false:=by decide)
  (he:DO (e::es) (lN X N scope C s2 H2 fp pn Wh).env=(false,GI e (lN X N scope C s2 H2 fp pn Wh).env)::DO es (lN X N scope C s2 H2 fp pn Wh).env:=by rfl)(hpl:(HJ pos (DO es (lN X N scope C s2 H2 fp pn Wh).env)).any (·.1)=false:=by rfl):
  WE (lN X N scope C s2 H2 fp pn Wh) (.Call (.Name x p) (e::es) [] pos) (uV sp dvs (λ_ Cl H'=>Wh Cl H') t):=by
 have ha:=ha.go;refine⟨?_⟩;obtain⟨f,fd,ds,F,hm,hk,hb,hv⟩:=Cc.ex;intro pins s σ H Q I h;refine FF (dJ I hg hm ?_ hdb);refine GF (h₀:=X.base) I.ok.mod.kin hk (bo (ha pos pins s σ H _ I h) λus s1 ⟨vs,H1,I1,r,q⟩=>⟨I1.kIn,?_⟩) he hpl;have rr:aJ (vs++dvs) (us++ds):=aJ.append r hv;have hn:(us++ds).length=ps.length:=rr.length.symm.trans (F.len _ _ _ _ q);refine IC (GP (F.run X.A X.stack s1 H1 ⟨us,[]⟩ (us++ds) (vs++dvs) Q _ hr I1.env0 (hb s1 us I1.kIn hn) rr q) λz s' hz=>?_)
 match z,hz with
 |.error v,hz=>
  obtain⟨a,Cl,T,H',rfl,os,bare,un,hok,xx,⟨e1,e2⟩,hT,C',eC,q'⟩:=hz;cases eC;have I':av (lN X N scope C s2 H2 fp pn Wh) pins σ H' s':=I1.call' os un hok bare λb z=>absurd z (by simp)
  have J:av (aF X N scope (ay X scope C) C s2 H2 fp pn) pins σ H' s':=av.ctx (A':=X.A) (c':=X.calm) (pn':=X.pn++pn) (xe':=λ_ _=>False) I' rfl (λz=>I'.ok.hd z) λp hp=>hp
  have own:∀ b,s1.heap.get? b=none->H' b=none->(s2.heap.get? b=none\/b∈fp)/\H' b=none/\b≠C:=λb n1 n2=>by
   refine⟨?_,n2,λz=>?_⟩
   ·by_cases m:b∈fp
    ·exact .inr m
    ·left
     cases qq:s2.heap.get? b with
     |none=>rfl
     |some o=>
      obtain⟨o',q''⟩:=I1.base.there b o qq m;rw[n1] at q'';cases q''
   ·obtain⟨m,⟨o,_,_,ho,_⟩,_⟩:=I1.loc;rw[z] at n1;rw[show s1.heap.get? C=some o from ho] at n1;cases n1
  exact⟨a,Cl,T,pins,σ,H',rfl,J,xx,⟨own a e1 e2,λt et=>own t (hT t et).1 (hT t et).2⟩,q'⟩
 |.ok (.ret u),hz=>exact I1.after hz
end
section
variable {X:Cx}{pins:List (Du×Obj)}{σ:L2.St}{H H2:Hp}{s s2:Dk}
theorem lx {prog:DN}{w:Ez}{A:EK}{R:Result->Dk->Prop}{kx vx target iter:Fs}{ifs:List Fs}{scope:He}{pos:Pos}{it:Di}{D:Du}{env:Env}{s:Dk} (I:Nat->Dk->Prop)
  (fW:∀ n s,I n s->Dy (DK prog w) A (HR it) (λr s₁=>match r with
   |none=>R (.ok .next) s₁
   | some v=>Dy (DK prog w) A (Gh target it v) (fun _ s₁'=>Dy (DK prog w) A (assign target env v) (fun _ s₂=>
     Dy (DK prog w) A (forIn ifs true λc r=>if r=true then do let ok <- isTrue c env (GI c env);pure (FO ok) else pure (FO r)) (λok s₃=>
      if ok=true then Dy (DK prog w) A (GI kx env) (λkv s₄=>Dy (DK prog w) A (GI vx env) (λvv s₅=>
       Dy (DK prog w) A (dictSet D kv vv) (λ_ s₆=>∃ m,m<n/\I m s₆) (λ_ _=>False) s₅) (notedBy (DK prog w) A env λe s'=>R (.error e) s') s₄) (λ_ _=>False) s₃
      else ∃ m,m<n/\I m s₃) (λ_ _=>False) s₂) (λ_ _=>False) s₁') (λ_ _=>False) s₁) (λ_ _=>False) s)
  (n:Nat)(h:I n s):Gq (DK prog w) A (.compLoop (.DictComp kx vx [⟨target,iter,ifs,0⟩] scope pos) 0 it (.ref D) env) R s:=by
 refine codeAny_loop rfl I (λn s hI=>?_) n h;show Dy _ A ((compTurn (.DictComp kx vx [⟨target,iter,ifs,0⟩] scope pos) 0 it (.ref D) env).onRaise (λx=>do IV x env;theTreesLotGoes x)) _ _ s;refine wpAny_noted ?_;rw[compTurn_dict];refine De (Fl (De (DW (fW n s hI) (λr s₁ h₁=>?_) λ_ _ z=>z.elim)));cases r with
 |none=>exact Dg h₁
 |some v=>
  refine De (DW h₁ (λ_ s₁' h₁'=>?_) λ_ _ z=>z.elim);refine De (DW h₁' (λ_ s₂ h₂=>De (DW h₂ (λok s₃ h₃=>?_) λ_ _ z=>z.elim)) λ_ _ z=>z.elim);cases ok with
  |false=>exact Dg ⟨rfl,h₃⟩
  |true=>
   exact De (De (DW h₃ (λkv s₄ h₄=>De (Em (DW h₄ (λvv s₅ h₅=>De (Fl (Em (DW h₅ (λ_ s₆ h₆=>Dg ⟨rfl,h₆⟩) λ_ _ z=>z.elim)))) λ_ _ z=>z))) λ_ _ z=>z.elim))
theorem nO {N:List Str}{scope:He}{kx vx tg iter:Fs}{ifs:List Fs}{pos:Pos}{it D:Du}{fp:List Du}{tn:Nat->Fp->Prop}{J:It}{g:TG}{tt:TT}{tk tv:TE}{σ0:L2.St}{Fin:Hp->Prop}
  {E:Di->Dk->Prop}{RR:Du->Result->Dk->Prop}{Wh:Du->Hp->Prop}{outs:List Env}{L0:Du}(hst:X.stack=X.env::outs)(hfr0:X.env.frame=some L0)(hex:X.ex=[])(hc:X.calm=true)(hu:X.A.units<cLine)(I:av X pins σ H2 s2)(S:kr X scope)
  (hcap:gN X scope N σ σ0)(hlen:σ0.length=N.length)(f2:∀ b∈fp,eV X pins H2 b)(T:lB X.prog X.w X.K tg J fp it tn)(st2:tn 0 s2.heap)
  (hg:∀ C,PG (aF X N scope (ay X scope C) C s2 H2 fp pins) tg g)(ht:∀ C,Bp (aF X N scope (ay X scope C) C s2 H2 fp pins) ifs tt)(hk:∀ C,PE (aF X N scope (ay X scope C) C s2 H2 fp pins) kx tk)(hv:∀ C,PE (lN X N scope C s2 H2 fp pins Wh) vx tv)(hw:qI J g tt tk tv D σ0 Fin H2)
  (hRR:∀ (C:Du) (s':Dk) (H':Hp),av X pins σ H' s'->Fin H'->(∃ m,s'.heap.Ns C m)->H' C=none->s2.heap.objs.size<=C->RR C (.ok .next) s')
  (hRE:∀ (C:Du) (s':Dk) (H':Hp) (e Cl T:Du),av X pins σ H' s'->lF s'.heap e Cl T->d_ X pins H' e->d_ X pins H' T->Wh Cl H'->(∃ m,s'.heap.Ns C m)->H' C=none->e≠C->T≠C->s2.heap.objs.size<=C->RR C (.error (.ref e)) s'):
  Dy (DK X.prog X.w) X.A (Ig scope X.env.globals (rV X.env.cells scope.names []) [] X.env.qual none .none (some X.env)) (λcenv s₄=>
   Gq (DK X.prog X.w) X.A (.compStart (.DictComp kx vx [⟨tg,iter,ifs,0⟩] scope pos) 0 (.ref it) (.ref D) { cenv with scope:=relabel scope X.env }) (RR cenv.locals) s₄) E s2:=by
 obtain⟨W,⟨m0,w0⟩,fW⟩:=hw;refine pC λh1 hns1 own1 kk1=>?_
 have below:∀ b,b<s2.heap.objs.size->b≠s2.heap.objs.size:=λb hb=>DI hb
 have old:∀ b o,s2.heap.get? b=some o->h1.get? b=some o:=λb o e=>kk1 b o e
 have cellLt:∀ x c,X.env.cells.lookup x=some c->c<s2.heap.objs.size:=λx c e=>by
  obtain⟨v,q⟩:=I.cell x c e;exact q.lt
 have fo:∀ b∈fp,∃ o,s2.heap.get? b=some o:=λb hb=>let ⟨o,e,_⟩:=T.obj 0 _ st2 b hb;⟨o,e⟩
 have fpLt:∀ b∈fp,b<s2.heap.objs.size:=λb hb=>let ⟨o,e⟩:=fo b hb;Dj e
 have st1:tn 0 h1:=T.keep 0 _ _ st2 λb _ o e=>old b o e
 have I0:∀ tk,av (aF X N scope (ay X scope s2.heap.objs.size) s2.heap.objs.size s2 H2 fp pins) [] σ0 H2 { s2 with heap:=h1,toks:=tk }:=λtk=>
  sR I S hcap hlen f2 fo (Dn _) old hns1 λx c e l=>(own1 x c e).resolve_left λz=>by
   rcases c8 S.free z with z|⟨_,z⟩
   ·cases z
   ·exact absurd (cellLt x c z) (El.mpr (Dt (Hh _ 1) l))
 have fpOk:∀ {H':Hp},(∀ b∈fp,H' b=none)->∀ b∈fp,eV (aF X N scope (ay X scope s2.heap.objs.size) s2.heap.objs.size s2 H2 fp pins) [] H' b:=λ{H'} hn b hb=>by
  obtain⟨_,g1,g2,g3,g4,g5⟩:=f2 b hb;refine⟨hn b hb,below b (fpLt b hb),gl I g1 g2,.inl hb,λx c e=>?_,λp hp=>?_⟩;rcases bR S e with ⟨e,_⟩|⟨l,_⟩
  ·exact g4 x c e
  ·exact λz=>absurd (fpLt b hb) (El.mpr (z▸Dt (Hh _ 1) l))
  rw[Kw] at hp;exact g5 p hp
 have loop:∀ s3:Dk,s3.heap=h1->s3.gens=s2.gens->s3.os=s2.os->av (aF X N scope (ay X scope s2.heap.objs.size) s2.heap.objs.size s2 H2 fp pins) [] σ0 H2 s3 ->
   Gq (DK X.prog X.w) X.A (.compLoop (.DictComp kx vx [⟨tg,iter,ifs,0⟩] scope pos) 0 (.ref it) (.ref D) (Hj scope (ay X scope s2.heap.objs.size) s2.heap.objs.size X.env)) (RR s2.heap.objs.size) s3:=by
  intro s3 e3 _ _ I3;refine lx (λk s'=>∃ i H',av (aF X N scope (ay X scope s2.heap.objs.size) s2.heap.objs.size s2 H2 fp pins) [] σ0 H' s'/\tn i s'.heap/\(∀ b∈fp,H' b=none)/\W i k H') ?_ m0
   ⟨0,H2,I3,by rw[e3];exact st1,λb hb=>(f2 b hb).1,w0⟩
  rintro k s' ⟨i,H',I',tn',fr',w'⟩;rcases fW i k H' w' with ⟨stop,fin⟩|⟨go,step⟩
  ·refine DW (T.done (aF X N scope (ay X scope s2.heap.objs.size) s2.heap.objs.size s2 H2 fp pins) rfl rfl rfl hc i _ s' σ0 H' (λ_ _=>False) I' (fpOk fr') tn' stop) (λr s1 hr=>?_) λ_ _ z=>z
   obtain⟨rfl,I1⟩:=hr;obtain⟨m,hn,_⟩:=id I1.loc;exact hRR _ s1 H' (md I f2 I1) fin ⟨m,hn⟩ I1.free (Dn _)
  ·refine DW (T.item (aF X N scope (ay X scope s2.heap.objs.size) s2.heap.objs.size s2 H2 fp pins) rfl rfl rfl hc i _ s' σ0 H' (λ_ _=>False) I' (fpOk fr') tn' go) (λr s4 hr=>?_) λ_ _ z=>z
   obtain⟨u,rfl,h4⟩:=hr;refine DW h4 (λ_ s5 h5=>?_) λ_ _ z=>z
   obtain⟨x,H5,I5,r5,y5,tn5,fr5⟩:=h5;have I5':=I5.pinned (fpOk fr5) (T.obj _ _ tn5);refine bo (hg s2.heap.objs.size _ s5 σ0 H5 x u _ I5' r5 (step x H5 y5)) λ_ s6 h6=>?_
   obtain⟨σ6,H6,I6,q6⟩:=h6;refine bo (ht s2.heap.objs.size _ s6 σ6 H6 _ I6 q6) λok s7 h7=>?_
   obtain ⟨H7,I7,q7⟩:=h7;have weak:∀ {s8:Dk}{H8:Hp},av (aF X N scope (ay X scope s2.heap.objs.size) s2.heap.objs.size s2 H2 fp pins) ([] ++ du fp s5.heap) σ6 H8 s8 ->
     av (aF X N scope (ay X scope s2.heap.objs.size) s2.heap.objs.size s2 H2 fp pins) [] σ0 H8 s8/\tn (i+1) s8.heap/\∀ b∈fp,H8 b=none:=λ{s8 H8} I8=>by
    have st8:tn (i+1) s8.heap:=T.keep _ _ _ tn5 λb hb o e=>(I8.pin (b,o) (Dq _ (Dq _ (bS hb e)))).1
    have fr8:∀ b∈fp,H8 b=none:=λb hb=>by
     obtain⟨o,e,d⟩:=T.obj _ _ tn5 b hb;exact(I8.pin (b,o) (Dq _ (Dq _ (bS hb e)))).2.1
    refine⟨?_,st8,fr8⟩;obtain⟨m8,hn8,_⟩:=id I8.loc;have J:=I8.unpinned;exact⟨J.ok,J.os,J.bare,J.base,⟨m8,hn8,λj y v e1 e2 _=>by
     obtain⟨m00,_,hm00⟩:=(I0 0).loc;obtain⟨u',r',l'⟩:=hm00 j y v e1 e2 (by
      obtain⟨_,_,_,_,_,z⟩:=hcap j y v e1 e2;exact .inr z)
     obtain⟨j',j1,j2,j3,jf,j4⟩:=hcap j y v e1 e2;rcases l' with ⟨k',_⟩|⟨k',c,ec,z⟩
     ·exfalso;have k'':(Hj scope [] 0 X.env).kindOf y=some .local:=k';rcases j4 with q|q<;>(rw[q] at k'';cases k'')
     ·have eo:X.env.cells.lookup y=some c:=by
       rcases bR S ec with ⟨e,_⟩|⟨_,k2⟩
       ·exact e
       ·rw[jf] at k2;cases k2
      refine⟨u',r',.inr ⟨k',c,ec,?_⟩⟩;obtain⟨oc,hoc,hd⟩:=z;have hoc2:s2.heap.get? c=some oc:=by
       obtain⟨v',o',q',d'⟩:=I.cell y c eo;have e':=old c o' q';have hoc':h1.get? c=some oc:=hoc;rw[e'] at hoc';cases hoc';exact q'
      have nfp:c∉fp:=λz=>(f2 c z).2.2.2.2.1 y c eo rfl
      by_cases hfs:c∈dB X.stack
      ·obtain⟨sl,q⟩:=J.base.slot c oc hoc2 (I.freeC y c eo) hfs nfp;exact⟨_,q,hd⟩
      ·exact⟨oc,J.base.keep c oc hoc2 (I.freeC y c eo) hfs nfp,hd⟩⟩,J.cell,J.free,J.freeC,J.pin,J.hok,hlen⟩
   cases ok with
   |false=>
    obtain⟨m',hm,w8⟩:=q7;obtain⟨I8,st8,fr8⟩:=weak I7;exact⟨m',hm,i+1,H7,I8,st8,fr8,w8⟩
   |true=>
    refine bo (hk s2.heap.objs.size _ s7 σ6 H7 _ I7 q7) λkv s8 h8=>?_
    obtain⟨kk,H8,I8,r8,q8⟩:=h8;refine DW (hv s2.heap.objs.size _ s8 σ6 H8 _ (av.ctx (A':=X.A) (c':=X.calm) (pn':=X.pn++pins) (xe':=BN X N scope s2.heap.objs.size s2 H2 fp pins Wh) I8 rfl (λz=>I8.ok.hd z) λp hp=>hp) q8) (λvv s9 h9=>?_) λv s9 hx=>BJ hst hfr0 hex I f2 (Dn _) fpLt hRE hx
    obtain⟨yv,H9,I9,r9,kvs,ks,b,e1,e2,e3,e4,m',hm,w9⟩:=h9;replace I9:av (aF X N scope (ay X scope s2.heap.objs.size) s2.heap.objs.size s2 H2 fp pins) ([]++du fp s5.heap) σ6 H9 s9:=av.ctx (A':=X.A) (c':=X.calm) (pn':=X.pn++pins) (xe':=λ_ _=>False) I9 rfl (λz=>I9.ok.hd z) λp hp=>hp
    refine rZ (X:=aF X N scope (ay X scope s2.heap.objs.size) s2.heap.objs.size s2 H2 fp pins) hu I9 e1 e2 e3 e4 rfl r8 r9 λs10 I10=>?_
    obtain⟨L1,L2',L3⟩:=weak I10;exact⟨m',hm,i+1,_,L1,L2',L3,w9⟩
 exact codeAny_compStart_dict (loop _ rfl rfl rfl (I0 _)) (T.self _ 0 _ _ _ st1 (loop _ rfl rfl rfl (I0 _)))
end
section
variable {X:Cx}{pos:Pos}
theorem qv {N:List Str}{scope:He}{kx vx tg iter:Fs}{ifs:List Fs}{wi:TI}{g:TG}{tt:TT}{tk tv:TE}{mk:L2.St->L2.St}{Wh:Du->Hp->Prop}{outs:List Env}{L0:Du} (hst:X.stack=X.env :: outs) (hfr0:X.env.frame=some L0) (hex:X.ex=[]) (hTA:zR X fun _ Cl H=>Wh Cl H) (hc:X.calm=true) (hu:X.A.units + 1 < cLine) (hi:WI X tg iter wi) (S:kr X scope) (hcap:∀ σ,σ.length=X.N.length->gN X scope N σ (mk σ)/\(mk σ).length=N.length)
  (hg:∀ C s0 H0 fp pn,WG (aF X N scope (ay X scope C) C s0 H0 fp pn) tg g)(ht:∀ C s0 H0 fp pn,yc (aF X N scope (ay X scope C) C s0 H0 fp pn) ifs tt)(hk:∀ C s0 H0 fp pn,WE (aF X N scope (ay X scope C) C s0 H0 fp pn) kx tk)(hv:∀ C s0 H0 fp pn,WE (lN X N scope C s0 H0 fp pn Wh) vx tv)
  (hs:∀ x,E6 iter X.env x=pure x:=by intro _;rfl):WE X (.DictComp kx vx [⟨tg,iter,ifs,0⟩] scope pos) (yX wi g tt tk tv mk):=by
 have hi:=hi.go;have hg:=λC s0 H0 fp pn=>(hg C s0 H0 fp pn).go
 have ht:=λC s0 H0 fp pn=>(ht C s0 H0 fp pn).go
 have hk:=λC s0 H0 fp pn=>(hk C s0 H0 fp pn).go
 have hv:=λC s0 H0 fp pn=>(hv C s0 H0 fp pn).go
 refine⟨?_⟩;intro pins s σ H Q I h;rw[arm_eval_DictComp];refine Gi (use:=none) rfl hs (mF S.free) S.kind (λy hy e=>by rw[S.once y hy,e]) ?_;refine bo (hi pins s σ H _ I h) λv s1 h1=>bo h1 λitv s2 h2=>?_
 obtain⟨it,fp,tn,J,H2,rfl,I2,T,st2,f2,hw⟩:=h2;have hcp:=hcap σ I2.len;refine Es ?_;have fr:H2 s2.heap.objs.size=none:=I2.hok.fresh (Dn _);have I3:=I2.laid (a:=s2.heap.objs.size) (o:=.dT []) (t':=s2.toks) (λ_ _ q=>Df _ q) (Dn _) (pM s2.heap I2.big);have fpLt:∀ b∈fp,b<s2.heap.objs.size:=λb hb=>let ⟨o,e,_⟩:=T.obj 0 _ st2 b hb;Dj e
 refine nO hst hfr0 hex hc (Nat.lt_of_succ_lt hu) I3 S hcp.1 hcp.2 (λb hb=>?_) T (T.keep 0 _ _ st2 λb _ o e=>Df _ e) (λC=>hg C _ _ _ _) (λC=>ht C _ _ _ _) (λC=>hk C _ _ _ _) (λC=>hv C _ _ _ _) (hw _ fr) ?_ ?_
 ·obtain⟨g0,g⟩:=f2 b hb;exact⟨by rw[ap (DI (fpLt b hb))];exact g0,g⟩
 ·intro C s' H' I' fin hm hC hle;obtain⟨m,hn⟩:=hm;refine⟨m,hn,λh' hs'=>⟨.ref s2.heap.objs.size,_,?_,rfl,fin⟩⟩;exact I'.turned (it:=C) (t':=s'.toks) (λb o hb e=>hs'.extBut b o hb e) hC (λz=>absurd (z▸I3.lt) (El.mpr hle)) (.inr (Dt I3.sz hle))
   (λx c e z=>by
    obtain⟨v',q⟩:=I3.cell x c e;exact absurd (z▸q.lt) (El.mpr hle))
   (λp hp z=>absurd (z▸Dj (I3.pin p hp).1) (El.mpr hle))
 ·intro C s' H' e Cl T I' x oe oT q hm hC heC hTC hle;obtain⟨m,hn⟩:=hm;refine⟨m,hn,λh' hs' cenv _=>?_⟩;have I4:av X pins σ H' { s' with heap:=h' }:=I'.turned (it:=C) (t':=s'.toks) (λb o hb e=>hs'.extBut b o hb e) hC (λz=>absurd (z▸I3.lt) (El.mpr hle)) (.inr (Dt I3.sz hle))
   (λx c e z=>by
    obtain⟨v',q⟩:=I3.cell x c e;exact absurd (z▸q.lt) (El.mpr hle))
   (λp hp z=>absurd (z▸Dj (I3.pin p hp).1) (El.mpr hle))
  have x4:lF h' e Cl T:=by
   obtain⟨o1,vs,o2,ts,v,a1,a2,a3,a4,a5,a6,a7,a8⟩:=x;exact⟨o1,vs,o2,ts,v,hs'.extBut _ _ heC a1,a2,a3,a4,a5,hs'.extBut _ _ hTC a6,a7,a8⟩
  exact Ah hTA I4 x4 oe oT q
end
theorem xI {X:Cx}{st:Gv}{t:TS}(h:WS X.nox st t):WS X st t:=by
 have h:=h.go;exact⟨λpins s σ H D I hw=>DW (h pins s σ H D (I.wish _) hw) (λ_ _ q=>q.unwish) λ_ _ z=>FD z⟩
def u5 (K:Dd)(x:Str):Bool:=(fe K x).any λC=>E5 K (.ref C) (.type "str")==some false
def BE (K:Dd)(x:Str):List V->Hp->VK->Prop:=λxs H Q=>∃ a C dx fs,xs=[.ref a,.ty "str"]/\bf K x C/\H a=some (.ins C dx fs)/\Q (.bl false) H
theorem xV {X:Cx}{K:Dd}{x:Str}{fs0:List Str}(hK:X.K=K)(hc:dF K x fs0=true)(hi:vU K x=true)(hn:u5 K x=true):br X (.builtin "isinstance") (BE K x):=by
 subst hK;intro pins s σ H xs us Q I r h;obtain⟨a,D',dx,fs,rfl,hD',ha,h⟩:=h;obtain⟨u,w,rfl,rx,rw'⟩:=iB r;cases(show w=FM "str" from rw');obtain⟨D,cf⟩:=gT hc;cases bu hD' cf.at_;obtain⟨E,e,q⟩:=bC hi;rw[bN hD'] at e;cases e;simp only[Dw,EV,DU] at q;obtain⟨⟨⟨⟨q1,q2⟩,q3⟩,q4⟩,q5⟩:=q;obtain⟨E1,e1,n1⟩:=bC hn;rw[bN hD'] at e1;cases e1;exact eE I rx (.ins ha cf.cls q1 q2 q3 q4) (EV.mp n1) λtk=>⟨.bl false,H,I.tok tk,rfl,h⟩
theorem rH (i j:Str):(i.cps.toList==j.cps.toList)=decide (i=j):=by
 by_cases h:i=j
 ·subst h;simp
 ·rw[DR h];refine ET.mpr λz=>h ?_
  cases i;cases j;simp only at z;rw[show _=_ from Array.toList_inj.mp z]
def Cs:R2:=λx y H Q=>∃ i j:Str,x=.str i/\y=.str j/\Q (.bl (decide (i=j))) H
theorem mU {X:Cx}:gg X (Fk .Eq) Cs:=by
 intro pins s σ H x y v u Q I rx ry h;obtain⟨i,j,rfl,rfl,q⟩:=h;obtain⟨t,rfl⟩:=rx;obtain⟨t',rfl⟩:=ry;exact P.eq_str ⟨.bl _,H,I,by rw[rH];rfl,q⟩
def BY:R2:=λx y H Q=>∃ i j:Str,x=.str i/\y=.str j/\Q (.bl (!decide (i=j))) H
theorem jd {X:Cx}:gg X (Fk .NotEq) BY:=by
 intro pins s σ H x y v u Q I rx ry h;obtain⟨i,j,rfl,rfl,q⟩:=h;obtain⟨t,rfl⟩:=rx;obtain⟨t',rfl⟩:=ry;exact P.ne_str ⟨.bl _,H,I,by rw[bne,rH];rfl,q⟩
def A6 (to:TE)(a b:Str):TE:=λσ H Q=>to σ H λx H1=>∃ z:Str,x=.str z/\z.length<=1048576/\b.length<=14/\(a==b)=false/\Q (.str (JZ z a b)) H1
theorem pX {X:Cx}{i:Int}{o:Fs}{to:TE}{a b:Str}{j0 j1 j2:Nat}{p0 p1 p2 apos cpos:Pos} (ho:WE X o to)
  (hs:DO [.Constant (.int i) j0 p0,.Call (.Attribute o "replace" apos) [.Constant (.str a) j1 p1,.Constant (.str b) j2 p2] [] cpos] X.env=[(false,GI (.Constant (.int i) j0 p0) X.env),(false,GI (.Call (.Attribute o "replace" apos) [.Constant (.str a) j1 p1,.Constant (.str b) j2 p2] [] cpos) X.env)]:=by rfl)
  (hbase:Iz o "replace" X.env (GI o X.env)=GI o X.env:=by rfl)
  (hfew:((HJ cpos (DO [.Constant (.str a) j1 p1,.Constant (.str b) j2 p2] X.env)).all (λx=>!x.1)&&(backToKw cpos (keywordEach [] X.env)).all (λx=>x.1.isSome)
   &&decide ([Expr.Constant (.str a) j1 p1,.Constant (.str b) j2 p2].length+([]:List JP).length+(if([]:List JP).isEmpty then 0 else 1)<30))=true:=by rfl)
  (hline:(apos.endLine==cpos.line)=true:=by rfl)(hs2:HJ cpos (DO [.Constant (.str a) j1 p1,.Constant (.str b) j2 p2] X.env)=[(false,GI (.Constant (.str a) j1 p1) X.env),(false,GI (.Constant (.str b) j2 p2) X.env)]:=by rfl):
  WA X [.Constant (.int i) j0 p0,.Call (.Attribute o "replace" apos) [.Constant (.str a) j1 p1,.Constant (.str b) j2 p2] [] cpos] (mj (tC (.int i)) (mj (A6 to a b) u7)):=by
 have ho:=ho.go;refine⟨?_⟩;intro pos pins s σ H Q I h;rw[hs];show Dy _ _ (spliced [(false,GI (.Constant (.int i) j0 p0) X.env),(false,GI (.Call (.Attribute o "replace" apos) [.Constant (.str a) j1 p1,.Constant (.str b) j2 p2] [] cpos) X.env)]) _ _ s;refine FX (wpAny_Constant_int ?_);refine FX ?_;have I0:av X pins σ H { s with toks:=s.toks+1 }:=I.tok _;refine Kl hbase hfew hline hs2 ?_;refine wpAny_with_toks (n:=1) (Nat.le_add_left 1 _) ?_;refine DW (ho pins { s with toks:=s.toks+1 } σ H _ I0 h) (λv s1 ⟨x,H1,I1,r1,q1⟩ hn=>?_) λ_ _ z _=>z
 obtain⟨z,rfl,hz,hb,hab,q⟩:=q1;obtain⟨t,rfl⟩:=r1;refine⟨"str","str.replace",EB,F.slot_str_replace,F.type_str_replace,IB _ _ _,λ_ e=>(nomatch e),?_⟩;refine HP rfl (Io ?_);refine FX (Ja ?_);refine FX (Ja ?_);refine HU ?_;refine SC.replaceW (by show s1.toks≠0;omega) (by show s1.toks+1≠0;omega) (by show s1.toks≠s1.toks+1;omega) hab hz hb λt' k=>?_
 refine HU ?_;exact⟨[.int i,.str (JZ z a b)],H1,I1.tok k,.cons ⟨_,rfl⟩ (.cons ⟨_,rfl⟩ .nil),q⟩
def vW (ns:List Int):Str:=KP " " (ns.map λn=>E4 (toString n))
theorem jV {K:Dd}{H:Hp}:∀ {ts:List Str}{vs:List V},aw K H (ts.map Gx) vs->vs=ts.map V.str
 |[],_,h=>by cases h;rfl
 |t::ts,_,h=>by
  cases h with
  |cons h1 h2=>
   cases h1;rw[jV h2];rfl
theorem ge {K:Dd}{H:Hp}:∀ (ts:List Str),aw K H (ts.map Gx) (ts.map V.str)
 |[]=>.nil
 |t::ts=>.cons (.str t) (ge ts)
theorem j_ {n:Int}(h:0<=n/\n<10^4):(E4 (toString n)).length<=10:=PySem.W.KT.len_num h.1 (by omega)
theorem vJ {ts:List Str}{B:Nat}(h:∀ t∈ts,t.length<=B):(ts.map (·.length)).sum<=ts.length*B:=by
 induction ts with
 |nil=>exact ES _
 |cons t ts ih=>
  have h1:=h t (by simp);have h2:=ih λx hx=>h x (by simp[hx])
  simp only[DP,List.sum_cons,Et,Jf];omega
theorem Bm {sep:Str}{ts:List Str}{B:Nat}(h:∀ t∈ts,t.length<=B)(hs:sep.length<=2)(hn:ts.length*(B+2)<=1000000):JoinOk sep ts=true:=by
 refine joinOk_of ?_;have h1:=vJ h;have h2:ts.length*sep.length<=ts.length*2:=Nat.mul_le_mul_left _ hs;rw[Nat.mul_add] at hn;omega
theorem pK {p:Prop}[Decidable p](h:¬ p):V.bl (decide p)=V.bl false:=by rw[DR h]
theorem vq {n:Int}(h:0<=n/\n<10^4):n.natAbs.log2<1920:=by
 by_cases z:n.natAbs=0
 ·rw[z];decide
 ·have h1:n.natAbs<2^14:=by omega
  have:=(Mu z).mpr h1;omega
theorem iy {ns:List Int}(hl:ns.length<=3)(hn:∀ n∈ns,0<=n/\n<10^4):(vW ns).length<=60:=by
 unfold vW KP;rw[size_glued];have h1:=vJ (ts:=ns.map λn=>E4 (toString n)) (B:=10) λt ht=>by
  obtain⟨n,hm,rfl⟩:=EH.mp ht;exact j_ (hn n hm)
 rw[Dh] at h1 ⊢;have h2:(ns.length-1)*G4 " "<=2*1:=Jp (by omega) (by decide);omega
def ox (c:Nat):Bool:=!(FH "0123456789" ⟨#[c]⟩ 0 (G4 "0123456789") 1).isEmpty
def cY (w:Str):Bool:=decide (1<=w.length)&&decide (w.length<=4)&&w.cps.toList.all ox&&(decide (w="0")||!decide (w.cps[0]?=some 48))
theorem oX {w:Str}(h:cY w=true):w.length<=4:=by
 unfold cY at h;simp only[Dw,EN] at h;exact h.1.1.2
theorem pf:∀ {a b:List Int},a.map Eo=b.map Eo->a=b
 |[],[],_=>rfl
 |[],_::_,h=>by cases h
 |_::_,[],h=>by cases h
 |x::a,y::b,h=>by
  injection h with h1 h2
  injection h1 with h1
  rw[h1,pf h2]
def j9 (t:Str):List Str:=Fq t " "
def cS (t:Str):Option (List Int):=if(j9 t).all cY then(j9 t).mapM PySem.intText? else none
theorem c5 {a b:Str}:∀ w∈Fq a b,w.length<=a.length:=λw h=>part_short h
section
variable {K:Dd}{g:TG}{tt:TT}{tk tv:TE}{σ0:L2.St}
theorem tG {a1 a2 D:Du}{b1 b2:Bool}{xs ys:List V}{Fin:Hp->Prop}{H1:Hp} (Pv:Nat->Hp->Prop) (h0:Pv 0 H1) (hle:xs.length=ys.length) (hsrc:∀ i H,Pv i H->cq K H a1 xs b1/\cq K H a2 ys b2)
  (he:∀ i x y T H,xs[i]?=some x->ys[i]?=some y->Pv i H->H T=none->∀ R:Hp->Prop,(∀ H',Pv (i+1) H'->R H')->∀ S:Hp->Prop,g (.ref T) σ0 (upd H T (.tup [x,y])) λσ' H4=>tt σ' H4 λc H5=>if c=true then tk σ' H5 λk H6=>tv σ' H6 λv H7=>∃ kvs ks b,H7 D=some (.dT kvs)/\k=.ref b/\H7 b=some (.tup (ks.map kV))/\kvs.length<Ds/\R (upd H7 D (.dT (eO kvs ks v))) else S H5)
  (hd:∀ H,Pv xs.length H->Fin H):qI (Bs K b1 b2 a1 a2) g tt tk tv D σ0 Fin H1:=by
 refine⟨λi m H=>m=xs.length-i/\i<=xs.length/\Pv i H,⟨xs.length,by omega,ES _,h0⟩,?_⟩;rintro i m H ⟨rfl,hi,pv⟩;obtain⟨q1,q2⟩:=hsrc i H pv
 by_cases hlt:i<xs.length
 ·have hlt2:i<ys.length:=by omega
  refine .inr ⟨⟨xs,ys,xs[i],ys[i],q1,q2,by simp[hlt],by simp[hlt2]⟩,λv H3 y3=>?_⟩;obtain⟨x,y,T,k1,k2,kT,rfl,rfl⟩:=y3;exact he i x y T H (k1 xs q1) (k2 ys q2) pv kT (λH'=>∃ m',m'<xs.length-i/\(m'=xs.length-(i+1)/\i+1<=xs.length/\Pv (i+1) H')) (λH' p'=>⟨xs.length-(i+1),by omega,rfl,hlt,p'⟩) λH5=>∃ m',m'<xs.length-i/\(m'=xs.length-(i+1)/\i+1<=xs.length/\Pv (i+1) H5)
 ·have e:i=xs.length:=by omega
  subst e;exact .inl ⟨⟨xs,ys,q1,q2,.inl (Dn _)⟩,hd H pv⟩
end
theorem il {α β:Type}{f:α->Option β}:∀ {l:List α}{r:List β},l.mapM f=some r->r.length=l.length/\∀ (i:Nat) (x:α) (y:β),l[i]?=some x->r[i]?=some y->f x=some y
 |[],r,h=>by
  simp at h;subst h;exact⟨rfl,λi x y h=>by simp at h⟩
 |a::l,r,h=>by
  simp only[List.mapM_cons] at h;cases ha:f a with
  |none=>rw[ha] at h;simp at h
  |some b=>
   cases hl:l.mapM f with
   |none=>rw[ha,hl] at h;simp at h
   |some bs=>
    rw[ha,hl] at h;simp at h;subst h;obtain⟨h1,h2⟩:=il hl;refine⟨by simp[h1],λi x y hx hy=>?_⟩;cases i with
    |zero=>simp at hx hy;subst hx hy;exact ha
    |succ i=>exact h2 i x y (by simpa using hx) (by simpa using hy)
section
variable {K:Dd}{g:TG}{tt:TT}{te:TE}{σ0:L2.St}{Fin:List V->Hp->Prop}{H1:Hp}
theorem vp {x:Str}{f:Nat->V} (hl:x.length <= 1000)
  (he:∀ (c:Nat) (H:Hp),c∈x.cps.toList->ae H1 H->∀ (Y:VK) (S:Hp->Prop),(∀ H',ae H H'->Y (f c) H')->g (.str ⟨#[c]⟩) σ0 H λσ' H4=>tt σ' H4 λb H5=>if b=true then te σ' H5 Y else S H5)
  (hd:∀ H,ae H1 H->Fin (x.cps.toList.map f) H):fb (Bw x) g tt te σ0 Fin H1:=by
 have hz:x.cps.size=x.cps.toList.length:=by simp
 have hl':x.cps.size<=1000:=hl;refine⟨λi m ys H=>m=x.cps.size-i/\i<=x.cps.size/\ae H1 H/\ys=(x.cps.toList.take i).map f,⟨_,rfl,ES _,ae.refl _,rfl⟩,?_⟩;rintro i m ys H ⟨rfl,hi,s,rfl⟩
 by_cases hlt:i<x.cps.size
 ·refine .inr ⟨hlt,bP (by rw[Dh,Ei];omega),λv H3 y3=>?_⟩;obtain⟨rfl,c,hc,rfl⟩:=y3;have hc':x.cps.toList[i]?=some c:=by rw[FW];exact hc
  refine he c _ (DF hc') s _ _ λH' s'=>⟨x.cps.size-(i+1),by omega,rfl,hlt,s.trans s',?_⟩
  rw[List.take_add_one,hc',FP];rfl
 ·have e:i=x.cps.size:=by omega
  subst e;refine .inl ⟨Dn _,cO (by rw[Dh,Ei];omega),?_⟩;rw[EM (by omega)];exact hd H s
end
theorem WW.pt {X:Cx}{e:Fs}{t:TT}(h:WW X e t):WT X e t:=⟨PW.pt h.go⟩
set_option autoImplicit true
set_option relaxedAutoImplicit true
section
variable {X:Cx}{st:Gv}{K:Dd}
theorem ar (i:Nat)(hN:X.N[i]?=some x:=by rfl)(hv:z9 X.env.scope x:=by first|exact Or.inl rfl|exact Mw (Or.inl rfl)|exact Mw (Mw rfl))(hd:(x==("__debug__":Str))=false:=by decide)(hcd:(x==("__classdict__":Str))=false:=by decide):WE X (.Name x pos) (yD i):=⟨pv i hN hv hd hcd⟩
theorem ur (hx:X.xe=λ_ _=>False)(hd:gens[d+1]?=none)(he:WE X elt te):WB X elt gens scope pos d (rq te):=⟨rj hx hd he.go⟩
end
theorem wb {X:Cx}{K:Dd}{x n:Str}{i:Nat}{np hpos pos:Pos}{body suite:List Gv}{b0:Gv}{tb:WX->TS}{th:TS} (hK:X.K=K) (hN:X.N.Nodup) (hi:X.N[i]?=some n) (hl:X.env.scope.names.lookup n=some .local)
  (hex:X.ex=[])(hf:X.env.frame=some X.env.locals)(hstk:X.stack=X.env::X.outer)(hg:Gl X x)
  (hb:∀ pn' xe' W,zv { X with pn:=pn',xe:=xe' } W->cE { X with pn:=pn',xe:=xe' } body (tb W))
  (hh:∀ e,cE { X with A:=X.A.mark (some (.ref e)),calm:=false,xe:=λ_ _=>False } (b0::suite) th)(hdb:(x==("__debug__":Str))=false:=by decide):
  WS X (.Try body [.ExceptHandler (some (.Name x np)) (some n) (b0::suite) hpos] [] [] pos) (AS K x i tb th):=⟨yl hK hN hi hl hex hf hstk hg (λa b c d=>(hb a b c d).go) (λe=>(hh e).go) hdb⟩
section
variable {X:Cx}
theorem aE (i:Nat){x:Str}{e:Fs}{te:TE}{pos pos':Pos}(hN:X.N.Nodup)(he:WE X e te)(hi:X.N[i]?=some x:=by rfl)(hx:Ae X.env.scope x:=by first|exact Or.inl rfl|exact Mw rfl)(hs:JJ e (some (.Name x pos')) pos.line X.env=pure false:=by rfl)(hf:X.fn x=true\/X.env.scope.names.lookup x=some .local:=by first|exact .inl rfl|exact .inr rfl|assumption):WS X (.Assign [.Name x pos'] e pos) (zY te (rJ i)):=v4 hN hi hx he hs hf
theorem aq (i:Nat){x:Str}{pos:Pos}(hN:X.N.Nodup)(hi:X.N[i]?=some x:=by rfl)(hx:Ae X.env.scope x:=by first|exact Or.inl rfl|exact Mw rfl)(hf:X.fn x=true\/X.env.scope.names.lookup x=some .local:=by first|exact .inl rfl|exact .inr rfl|assumption):WG X (.Name x pos) (rJ i):=t6 hN hi hx hf
theorem aZ (K:Dd){a b:Fs}{ta tb:TE}{pos:Pos}(ha:WE X a ta)(hb:WE X b tb)(e:X.K=K:=by rfl)(hs:rg b:=by intro _ _;rfl):WE X (.Subscript a b pos) (Bf (xK K) ta tb):=tU (BB e) ha hb hs
theorem aj {CX:iG}{k j:Nat}{x:Str}{ps:List Str}{sp:Sp}{dvs:List V}{p pos:Pos}{e:Fs}{es:List Fs}{t:TA}(hX:yM CX)(C:dA X.prog X.w X.K X.mg X.base CX k x ps dvs sp)(hr:Room j X.A)(ha:WA X (e::es) t)(hj:k<=j:=by decide)(hg:Gl X x:=by rfl)(hdb:(x==("__debug__":Str))=false:=by decide)(he:DO (e::es) X.env=(false,GI e X.env)::DO es X.env:=by rfl)(hpl:(HJ pos (DO es X.env)).any (·.1)=false:=by rfl):WE X (.Call (.Name x p) (e::es) [] pos) (ul sp dvs E0 t):=wm hX C (hr.mono hj) hg ha hdb he hpl
theorem aB {e:Fs}{te:TE}(h:WE X e te)(hs:DO [e] X.env=(false,GI e X.env)::DO [] X.env:=by rfl):WA X [e] (mj te u7):=aa h aV hs
theorem aL {e f:Fs}{te tf:TE}(h:WE X e te)(g:WE X f tf)(hs:DO [e,f] X.env=(false,GI e X.env)::DO [f] X.env:=by rfl)(gs:DO [f] X.env=(false,GI f X.env)::DO [] X.env:=by rfl):WA X [e,f] (mj te (mj tf u7)):=aa h (aa g aV gs) hs
theorem aP {scope:He}{elt tg iter:Fs}{ifs:List Fs}{wi:TI}{g:TG}{tt:TT}{te:TE}{pos:Pos}(ts cs:List Str)(js:List Nat)(k:Nat)(hi:WI X tg iter wi)(hg:(ts++cs).Nodup->∀ {C s0 H0 fp pn},WG (aF X (ts++cs) scope (ay X scope C) C s0 H0 fp pn) tg g)(ht:∀ {C s0 H0 fp pn},yc (aF X (ts++cs) scope (ay X scope C) C s0 H0 fp pn) ifs tt)(he:∀ {C s0 H0 fp pn},WE (aF X (ts++cs) scope (ay X scope C) C s0 H0 fp pn) elt te)(nd:(ts++cs).Nodup:=by decide +kernel)(hc:X.calm=true:=by rfl)(h1:j5 scope=true:=by decide +kernel)(h2:(scope.names.all λy=>!(y.2==.free)||(X.env.cells.lookup y.1).isSome)=true:=by rfl)(h3:iO X scope cs js=true:=by rfl)(h4:cs.length=js.length:=by rfl)(h5:ts.length=k:=by rfl)(hs:∀ x,E6 iter X.env x=pure x:=by intro _;rfl):WE X (.ListComp elt [⟨tg,iter,ifs,0⟩] scope pos) (yh wi g tt te (sK k js)):=vA hc hi (jW h1 h2) (mL (ts:=ts) h3 h4 h5) (λ_ _ _ _ _=>hg nd) (λ_ _ _ _ _=>ht) (λ_ _ _ _ _=>he) hs
theorem bV (i:Nat){y:Str}{py spos:Pos}{scope:He}{elt tg iter:Fs}{ifs:List Fs}{wi:TI}{g:TG}{tt:TT}{te:TE}{pos:Pos}(ts cs:List Str)(js:List Nat)(k:Nat)(hN:X.N.Nodup)(hi:WI X tg iter wi)(hg:(ts++cs).Nodup->∀ {C s0 H0 fp pn},WG (aF X (ts++cs) scope (ay X scope C) C s0 H0 fp pn) tg g)(ht:∀ {C s0 H0 fp pn},yc (aF X (ts++cs) scope (ay X scope C) C s0 H0 fp pn) ifs tt)(he:∀ {C s0 H0 fp pn},WE (aF X (ts++cs) scope (ay X scope C) C s0 H0 fp pn) elt te)(nd:(ts++cs).Nodup:=by decide +kernel)(hc:X.calm=true:=by rfl)(hi':X.N[i]?=some y:=by rfl)(hy:X.env.scope.names.lookup y=some .local:=by rfl)(h1:j5 scope=true:=by decide +kernel)(h2:(scope.names.all λy=>!(y.2==.free)||(X.env.cells.lookup y.1).isSome)=true:=by rfl)(h3:iO X scope cs js=true:=by rfl)(h4:cs.length=js.length:=by rfl)(h5:ts.length=k:=by rfl)(hsw:JJ (.ListComp elt [⟨tg,iter,ifs,0⟩] scope pos) (some (.Name y py)) spos.line X.env=pure true:=by rfl)(hs:∀ x,E6 iter X.env x=pure x:=by intro _;rfl):WS X (.Assign [.Name y py] (.ListComp elt [⟨tg,iter,ifs,0⟩] scope pos) spos) (uM i wi g tt te (sK k js)):=oS hc hN hi' hy hi (jW h1 h2) (mL (ts:=ts) h3 h4 h5) (λ_ _ _ _ _=>hg nd) (λ_ _ _ _ _=>ht) (λ_ _ _ _ _=>he) hsw hs
end
end TR
set_option Elab.async false
set_option linter.all false
set_option maxRecDepth 100000
set_option maxHeartbeats 8000000
namespace TR
open PySem PySem.Spec PyProof.Rows L2
set_option autoImplicit false
abbrev gV:List Str:=["thing"]
abbrev uA0:List Str:=["_law_town_here","_law_cap"]
abbrev uA1:List Str:=["_law_kind","_law_thing"]
abbrev uA2:List Str:=["_law_town_here","_law_last","_law_cap","_law_climbs"]
abbrev uA3:List Str:=["thing","many","least","most"]
abbrev uA4:List Str:=["thing","knots"]
abbrev uA5:List Str:=["_law_script"]
abbrev uA6:List Str:=["_law_town_here","_law_some"]
abbrev uA7:List Str:=["0 5, 5 4","1 0, 5 5","0 0, 0 5"]
abbrev uA8:List Str:=["thing","least","most"]
abbrev uA9:List Str:=["self","curve","other"]
abbrev uB0:List Str:=["self","knots","table"]
abbrev uB1:List Str:=["_law_town_here","_law_many"]
abbrev uB2:List Str:=["_law_town_here","_law_size"]
abbrev uB3:List Str:=["low","high"]
abbrev uB4:List Str:=["text"]
abbrev uB5:List Str:=["_law_w","_law_x","_law_y","_law_z"]
abbrev uB6:List Str:=["_law_one","_law_two"]
abbrev uB7:List Str:=["a","b","c","numbers"]
abbrev uB8:List Str:=["self","points"]
abbrev uB9:List Str:=["self"]
abbrev uC0:List Str:=["self","place"]
abbrev uC1:List Str:=["word"]
abbrev uC2:List Str:=["_law_k"]
abbrev uC3:List Str:=["numbers"]
def dW (i:Nat):Gv:=PySem.Challenge.pw_tintroads_k29_texts_refused.main.body.getD i (.Pass ⟨0,0,0,0⟩)
abbrev gZ:Gv:=dW 15
abbrev cB:Gv:=dW 16
abbrev cA:Gv:=dW 17
abbrev gY:Gv:=dW 30
abbrev fN:Gv:=dW 31
abbrev fH:Gv:=dW 32
abbrev cm:Gv:=f6 (dW 35) 0
abbrev c_:Gv:=f6 (dW 35) 5
abbrev dk:Gv:=f6 (dW 35) 6
abbrev bF:Gv:=f6 (dW 36) 0
abbrev g_:Gv:=dW 46
abbrev i_:Gv:=dW 47
abbrev ia:Gv:=dW 48
abbrev gS:Gv:=dW 50
abbrev df:Gv:=dW 52
abbrev cw:Gv:=f6 (dW 58) 0
abbrev dQ:Gv:=f6 (dW 58) 1
abbrev cI:Gv:=dW 59
abbrev cJ:Gv:=dW 63
abbrev dh:Gv:=dW 64
abbrev fB:Gv:=dW 65
abbrev da:Gv:=dW 66
abbrev fA:Gv:=dW 67
abbrev eP:Gv:=dW 68
abbrev fQ:Gv:=dW 69
abbrev eS:Gv:=dW 70
abbrev fI:Gv:=dW 71
abbrev fV:Gv:=dW 72
abbrev eT:Gv:=dW 73
abbrev eZ:Gv:=dW 74
abbrev fF:Gv:=dW 76
abbrev fC:Gv:=dW 77
abbrev fJ:Gv:=dW 78
abbrev de:Gv:=dW 79
abbrev ic:Gv:=dW 80
abbrev eK:Gv:=dW 81
abbrev eJ:Gv:=dW 82
abbrev dS:Gv:=dW 83
abbrev fj:Gv:=dW 84
abbrev gR:Gv:=dW 85
abbrev fq:Gv:=dW 86
abbrev iW:Gv:=dW 87
structure c6 (K:Dd)(mg:Str->Option Di)(w:Ez):Prop where
 x2:dF K "Curve" ["points"]=true
 x5:dF K "Grid" ["knots","table"]=true
 xa:dF K "JoinedCurve" ["first","second"]=true
 xg:∃ t,mg "FEWEST_KNOTS"=some (.int 2 t)
 xh:∃ t,mg "FEWEST_POINTS"=some (.int 2 t)
 xu:∃ t,mg "FIGURES"=some (.str "0123456789" t)
 xi:∃ t,mg "GREATEST_curves"=some (.int 1000 t)
 xj:∃ t,mg "GREATEST_grids"=some (.int 1000 t)
 xv:∃ t,mg "MOST_FIGURES"=some (.int 4 t)
 xk:∃ t,mg "MOST_KNOTS"=some (.int 7 t)
 xl:∃ t,mg "MOST_POINTS"=some (.int 12 t)
 x7:vU K "Curve"=true
 xb:vU K "Grid"=true
 xw:vU K "JoinedCurve"=true
 xx:u5 K "Curve"=true
 xy:u5 K "Grid"=true
 xz:mg "ValueError"=none
 x6:mg "all"=none
 x10:mg "bool"=none
 xm:mg "dict"=none
 xc:mg "int"=none
 x0:mg "isinstance"=none
 x3:mg "len"=none
 x8:mg "list"=none
 x11:mg "max"=none
 xd:mg "min"=none
 x4:mg "range"=none
 xn:mg "set"=none
 xe:mg "sorted"=none
 xo:mg "str"=none
 x9:mg "tuple"=none
 xf:mg "zip"=none
 x12:qh K "Grid" "Curve"=true
 x13:qh K "JoinedCurve" "Curve"=true
 x14:qh K "Curve" "Grid"=true
 x1:sg K=true
 x15:dz K mg "is_whole" gZ gV []
 x16:dz K mg "is_whole_within" cB uA8 []
 xp:dz K mg "is_tuple_within" cA uA3 []
 xq:dz K mg "is_point" gY gV []
 x17:dz K mg "is_onward" fN uB3 []
 xr:dz K mg "is_points" fH gV []
 x18:gP K mg "Curve" "__init__" "Curve.__init__" cm uB8 []
 x19:gP K mg "Curve" "last" "Curve.last" c_ uB9 []
 x1a:gP K mg "Curve" "ends" "Curve.ends" dk uB9 []
 x1b:gP K mg "JoinedCurve" "__init__" "JoinedCurve.__init__" bF uA9 []
 x1c:dz K mg "is_knots" g_ gV []
 x1d:dz K mg "is_knot" i_ uA4 []
 xs:dz K mg "is_worth" ia gV []
 x1e:dz K mg "is_table" gS uA4 []
 x1f:dz K mg "places_below" df ["many"] []
 x1g:gP K mg "Grid" "__init__" "Grid.__init__" cw uB0 []
 x1h:gP K mg "Grid" "knot" "Grid.knot" dQ uC0 []
 x1i:dz K mg "refuse_no_grid" cI gV []
 x1j:dz K mg "refuse_no_text" cJ gV []
 x1k:dz K mg "numbers_text" dh uC3 []
 x1l:dz K mg "is_number" fB uC1 []
 xt:dz K mg "numbers_read" da uB4 []
 x1m:dz K mg "knots_row" fA ["knots"] []
 x1n:dz K mg "knots_read" eP ["row"] []
 x1o:dz K mg "row_start" fQ ["place"] []
 x1p:dz K mg "worth_read" eS ["row","place"] []
 x1q:dz K mg "grid_text" fI ["grid"] []
 x1r:dz K mg "grid_read" fV uB4 []
 x1s:dz K mg "curve_text" eT ["curve"] []
 x1t:dz K mg "curve_read" eZ uB4 []
 x1u:dz K mg "_law_town" fF uA5 []
 x1v:dz K mg "_law_draw" fC uB1 []
 x1w:dz K mg "_law_pick" fJ uA6 []
 x1x:dz K mg "_law_refusal" de ["_law_caught"] []
 x1y:dz K mg "_law_low" ic uB6 []
 x1z:dz K mg "_law_share" eK uA0 []
 x20:dz K mg "_law_three" eJ uA0 []
 x21:dz K mg "_law_points" dS uA2 []
 x22:dz K mg "_law_grid" fj uB2 []
 x23:dz K mg "_law_did" gR uA1 []
 x24:dz K mg "_law_told" fq uA1 []
section
variable {P:DN}{w:Ez}{K:Dd}{mg:Str->Option Di}{base:Fp}
theorem oy:az gV gV (ai gZ):=dX
inductive oK (K:Dd)(vs:List V)(H:Hp)(Q:VK)(_:XK):Prop
 |mk (x T) (_:vs=[x]) (_:Ty K H x T) (_:Q (.bl (AR x)) H)
theorem pA (T:c6 K mg w):dA P w K mg base (cC P w) 1 "is_whole" gV [] (oK K):=by
  refine T.x15.cal oy (bb:=λ_ _ _ _ _ H vs Q E hr h=>?_);obtain⟨x,S,rfl,ty,q⟩:=h;refine⟨_,(cE.go (ag (au (iA (am (kY (K:=K) rfl) (by rfl) T.x0 ax (aL (ar 0) (cu (v:=.ty "int") rfl T.xc qM rfl))) (gk (v9 (am (kY (K:=K) rfl) (by rfl) T.x0 ax (aL (ar 0) (cu (v:=.ty "bool") rfl T.x10 wx rfl))))))))),?_⟩;obtain⟨b,e1,e2⟩:=zF ty;refine⟨_,rfl,_,_,_,b,rfl,ty,e1,b,rfl,?_⟩;cases b with
  |false=>
   refine aO ?_;rw[show AR x=false from e2] at q;exact q
  |true=>
   obtain⟨c,e3,e4⟩:=(show ∃ c,bw S "bool"=some c/\AR x=!c from e2)
   refine aN ⟨_,rfl,_,_,_,c,rfl,ty,e3,c,rfl,?_⟩;rw[e4] at q;exact q
theorem ie:az uA8 uA8 (ai cB):=dX
inductive hJ (K:Dd)(vs:List V)(H:Hp)(Q:VK)(_:XK):Prop
 |mk (x d l m) (_:vs=[x,.int l,.int m]) (_:aQ K H d x) (_:Q (.bl (mY l m d)) H)
theorem ci (T:c6 K mg w):dA P w K mg base (cC P w) 2 "is_whole_within" uA8 [] (hJ K):=by
  refine T.x16.cal ie (bb:=λ_ _ _ _ _ H vs Q E hr h=>?_);obtain⟨x,d,l,m,rfl,hx,q⟩:=h;refine⟨_,(cE.go (ag (au (iA (aj aU (pA T) hr (aB (ar 0))) (gk (r6 iI iI (ar 1) (ar 0) (ar 2))))))),?_⟩;refine⟨_,rfl,_,_,rfl,hx.ty,_,rfl,?_⟩;cases hx with
  |int i=>
   refine aN ⟨_,rfl,_,rfl,_,_,rfl,rfl,decide (l<=i),rfl,?_⟩;refine ib (λhc=>?_) (λhc=>?_)
   ·refine⟨_,rfl,_,_,rfl,rfl,?_⟩;have q:Q (.bl (decide (l<=i)&&decide (i<=m))) H:=q;rw[hc,Fy] at q;exact q
   ·have hc:decide (l<=i)=false:=by simpa using hc
    have q:Q (.bl (decide (l<=i)&&decide (i<=m))) H:=q;rw[hc,Fx] at q;exact q
  |non=>exact aO q
  |bl b=>exact aO q
  |str z=>exact aO q
  |lst h1 h2=>exact aO q
  |tup h1 h2=>exact aO q
  |dct h1=>exact aO q
theorem dy:az uA3 uA3 (ai cA):=dX
inductive gX (K:Dd)(vs:List V)(H:Hp)(Q:VK)(_:XK):Prop
 |mk (x:V) (ns:List Int) (n l m:Int) (_:vs=[x,.int n,.int l,.int m]) (_:aQ K H (.tuple (ns.map Eo)) x) (_:n=ns.length) (_:ns.length<=1000) (_:∀ H',ae H H'->Q (.bl (ns.all λk=>decide (l<=k)&&decide (k<=m))) H')
theorem ck (T:c6 K mg w):dA P w K mg base (cC P w) 3 "is_tuple_within" uA3 [] (gX K):=by
  refine T.xp.cal dy (bb:=λ_ _ _ _ _ H vs Q E hr h=>?_);obtain⟨x,ns,n,l,m,rfl,hx,rfl,hl,q⟩:=h;refine⟨_,(cE.go (af (aM (WW.pt (cG (aY (bd (am (kY (K:=K) rfl) (by rfl) T.x0 ax (aL (ar 0) (cu (v:=.ty "tuple") rfl T.x9 fu rfl))))) (cy (aH gO (am (dM (K:=K) rfl) (by rfl) T.x3 bU (aB (ar 0))) (ar 1) (aS _))))) (ag (au bQ)) aD)
   (ag (au (am (gF (K:=K) rfl rfl) (by rfl) T.x6 dP (aB (aP ["number"] ["least","most"] [2,3] 1 (bG (K:=K) rfl (ar 0)) (λnd=>(aq 0 nd)) aI (aj aU (ci T) hr (aa (ar 0) (aa (ar 1) (aa (ar 2) aV))))))))))),?_⟩
  refine⟨_,rfl,_,_,_,true,rfl,hx.ty,(show bw "tuple" "tuple"=some true by decide +kernel),_,rfl,aO ?_⟩;obtain⟨a,xs,rfl,ha,hds⟩:=b9 (b:=false) hx;have hlen:=hds.length;rw[Dh] at hlen;refine⟨_,rfl,a,_,rfl,qu ha,_,rfl,_,_,rfl,rfl,false,by show V.bl (!decide ((xs.length:Int)=ns.length))=_;rw[DE (by omega)];rfl,aO ?_⟩;refine⟨_,rfl,a,false,rfl,⟨_,ha⟩,ig (f:=λd=>.bool (mY l m d)) ha hds (by rw[Dh];exact hl) (λi d x H2 hd s2 hx2 R kk S=>?_) (λys H2 s2 hys D hD=>?_)⟩
  ·exact aN (B:=S H2) ⟨_,rfl,_,rfl,_,rfl,x,d,l,m,rfl,hx2,kk _ _ ⟨ae.refl _,.bl _⟩⟩
  ·have hys:aw K H2 (((ns.map Eo).map (mY l m)).map F5) ys:=by rw[Gk];exact hys
   have e:=cr hys;subst e;refine⟨D,_,rfl,bj.of ac,?_⟩;have e:((ns.map Eo).map (mY l m)).all id=ns.all λk=>decide (l<=k)&&decide (k<=m):=by
    rw[Gk,Kv];rfl
   rw[e];exact q _ (s2.trans (ae.new hD))
inductive fU (K:Dd)(vs:List V)(H:Hp)(Q:VK)(_:XK):Prop
 |mk (x:V) (d:DZ) (n l m:Int) (_:vs=[x,.int n,.int l,.int m]) (_:tY K H d x) (_:n<=1000) (_:∀ H',ae H H'->Q (.bl (li n l m d)) H')
theorem cP (T:c6 K mg w):dA P w K mg base (cC P w) 3 "is_tuple_within" uA3 [] (fU K):=by
  refine T.xp.cal dy (bb:=λ_ _ _ _ _ H vs Q E hr h=>?_);obtain⟨x,d,n,l,m,rfl,hx,hn,q⟩:=h;refine⟨_,(cE.go (af (aM (WW.pt (cG (aY (bd (am (zG (K:=K) rfl) (by rfl) T.x0 ax (aL (ar 0) (cu (v:=.ty "tuple") rfl T.x9 fu rfl))))) (cy (aH gO (am (dM (K:=K) rfl) (by rfl) T.x3 bU (aB (ar 0))) (ar 1) (aS _))))) (ag (au bQ)) aD)
   (ag (au (am (gF (K:=K) rfl rfl) (by rfl) T.x6 dP (aB (aP ["number"] ["least","most"] [2,3] 1 (bG (K:=K) rfl (ar 0)) (λnd=>(aq 0 nd)) aI (aj aU (ci T) hr (aa (ar 0) (aa (ar 1) (aa (ar 2) aV))))))))))),?_⟩
  rcases vw hx with ⟨a,ds,xs,rfl,rfl,ha,hds⟩|⟨hx,e1,e2⟩
  ·refine⟨_,rfl,.inr ⟨a,xs,rfl,ha,_,rfl,aO ?_⟩⟩;have hlen:=hds.length;refine⟨_,rfl,a,_,rfl,.inr ha,_,rfl,_,_,rfl,rfl,_,rfl,?_⟩;refine ib (λhc=>?_) (λhc=>?_)
   ·have hc:¬ ((xs.length:Int)=n):=of_decide_eq_false (by simpa using hc);rw[show li n l m (.tuple ds)=false by show(decide ((ds.length:Int)=n)&&_)=false;rw[DR (by omega)];rfl] at q;exact q _ (ae.refl _)
   ·have hc:(xs.length:Int)=n:=by simpa using hc
    refine⟨_,rfl,a,false,rfl,⟨_,ha⟩,ig (f:=λd=>.bool (mY l m d)) (show cq K H a xs false from ha) hds (by omega) (λi d x H2 hd s2 hx2 R kk S=>?_) (λys H2 s2 hys D hD=>?_)⟩
    ·exact aN (B:=S H2) ⟨_,rfl,_,rfl,_,rfl,x,d,l,m,rfl,hx2,kk _ _ ⟨ae.refl _,.bl _⟩⟩
    ·have hys:aw K H2 ((ds.map (mY l m)).map F5) ys:=by rw[Gk];exact hys
     have e:=cr hys;subst e;refine⟨D,_,rfl,bj.of ac,?_⟩;rw[show li n l m (.tuple ds)=(ds.map (mY l m)).all id by show(decide ((ds.length:Int)=n)&&_)=_;rw[DE (by omega),Fy]] at q;exact q _ (s2.trans (ae.new hD))
  ·refine⟨_,rfl,.inl ⟨_,_,_,false,rfl,hx.ty,e1,_,rfl,aN (aN ?_)⟩⟩;rw[zN e2] at q;exact q _ (ae.refl _)
theorem jg:az gV gV (ai gY):=dX
inductive o8 (K:Dd)(vs:List V)(H:Hp)(Q:VK)(_:XK):Prop
 |mk (x:V) (p:Pt) (_:vs=[x]) (_:aQ K H (j6 p) x) (_:p.In) (_:∀ H',ae H H'->Q (.bl true) H')
theorem pG (T:c6 K mg w):dA P w K mg base (cC P w) 4 "is_point" gV [] (o8 K):=by
  refine T.xq.cal jg (bb:=λ_ _ _ _ _ H vs Q E hr h=>?_);obtain⟨x,p,rfl,hx,ip,q⟩:=h;refine⟨_,(cE.go (ag (au (aj aU (ck T) hr (aa (ar 0) (aa ah (aa ah (aa (bK rfl T.xi) aV)))))))),?_⟩;refine⟨_,rfl,x,[p.1,p.2],2,0,1000,rfl,hx,rfl,by show 2<=1000;decide,λH' s=>?_⟩;have e:([p.1,p.2].all λk=>decide (0<=k)&&decide (k<=1000))=true:=by
   show((decide (0<=p.1)&&decide (p.1<=1000))&&((decide (0<=p.2)&&decide (p.2<=1000))&&true))=true;rw[DE ip.a1,DE ip.a2,DE ip.b1,DE ip.b2];rfl
  rw[e];exact q _ s
inductive lG (K:Dd)(vs:List V)(H:Hp)(Q:VK)(_:XK):Prop
 |mk (x:V) (d:DZ) (_:vs=[x]) (_:aQ K H d x) (_:∀ H',ae H H'->Q (.bl (li 2 0 1000 d)) H')
theorem lE (T:c6 K mg w):dA P w K mg base (cC P w) 4 "is_point" gV [] (lG K):=by
  refine T.xq.cal jg (bb:=λ_ _ _ _ _ H vs Q E hr h=>?_);obtain⟨x,d,rfl,hx,q⟩:=h;refine⟨_,(cE.go (ag (au (aj aU (cP T) hr (aa (ar 0) (aa ah (aa ah (aa (bK rfl T.xi) aV)))))))),?_⟩;exact⟨_,rfl,x,d,2,0,1000,rfl,.inl hx,by decide,q⟩
theorem mB:az uB3 uB3 (ai fN):=dX
inductive ng (K:Dd)(vs:List V)(H:Hp)(Q:VK)(_:XK):Prop
 |mk (x y:V) (p q:Pt) (_:vs=[x,y]) (_:aQ K H (j6 p) x) (_:aQ K H (j6 q) y) (_:Q (.bl (decide (p.1<q.1)&&decide (p.2<=q.2))) H)
theorem ij (T:c6 K mg w):dA P w K mg base (cC P w) 1 "is_onward" uB3 [] (ng K):=by
  refine T.x17.cal mB (bb:=λ_ _ _ _ _ H vs Q E hr h=>?_);obtain⟨x,y,p,r,rfl,hx,hy,q⟩:=h;obtain⟨a,rfl,ha⟩:=eN hx;obtain⟨b,rfl,hb⟩:=eN hy;refine⟨_,(cE.go (ag (au (iA (dv yd (aZ K (ar 0) ah) (aZ K (ar 1) ah) (aS _)) (gk (dv iI (aZ K (ar 0) ah) (aZ K (ar 1) ah) (aS _))))))),?_⟩;refine⟨_,rfl,pL ha ⟨_,rfl,pL hb ⟨_,_,rfl,rfl,decide (p.1<r.1),rfl,?_⟩⟩⟩;cases hc:decide (p.1<r.1) with
  |true=>
   rw[hc,Fy] at q;exact aN ⟨_,rfl,rk ha ⟨_,rfl,rk hb ⟨_,_,rfl,rfl,q⟩⟩⟩
  |false=>
   rw[hc,Fx] at q;exact aO q
theorem im:az gV gV (ai fH):=dX
inductive mT (K:Dd)(vs:List V)(H:Hp)(Q:VK)(_:XK):Prop
 |mk (x:V) (ps:List Pt) (_:vs=[x]) (_:aQ K H (yP ps) x) (_:vS ps) (_:∀ H',ae H H'->Q (.bl true) H')
theorem nK (T:c6 K mg w):dA P w K mg base (cC P w) 5 "is_points" gV [] (mT K):=by
  refine T.xr.cal im (bb:=λ_ _ _ _ _ H vs Q E hr h=>?_);obtain⟨x,ps,rfl,hx,hp,q⟩:=h;refine⟨_,(cE.go (af (aM (WW.pt (cG (aY (bd (am (kY (K:=K) rfl) (by rfl) T.x0 ax (aL (ar 0) (cu (v:=.ty "list") rfl T.x8 iQ rfl))))) (cy (aY (iY iI iI (bK rfl T.xh) (am (dM (K:=K) rfl) (by rfl) T.x3 bU (aB (ar 0))) (bK rfl T.xl)))))) (ag (au bQ)) aD)
   (af (aM (WW.pt (cG (aY (bd (am (gF (K:=K) rfl rfl) (by rfl) T.x6 dP (aB (aP ["point"] [] [] 1 (bG (K:=K) rfl (ar 0)) (λnd=>(aq 0 nd)) aI (aj aU (pG T) hr (aB (ar 0)))))))) (cy (aH gO (aZ K (aZ K (ar 0) ah) ah) ah (aS _))))) (ag (au bQ)) aD)
   (ag (au (am (gF (K:=K) rfl rfl) (by rfl) T.x6 dP (aB (aP uB3 [] [] 2 (qO (K:=K) rfl rfl T.xf (aL (ar 0) (fZ (zQ (K:=K) rfl) (ar 0) (iD ah) iS))) (λnd=>(m_ (K:=K) (n:=2) rfl rfl (a_ (aq 0 nd) (a_ (aq 1 nd) di)))) aI (aj aU (ij T) hr (aL (ar 0) (ar 1))))))))))),?_⟩
  refine⟨_,rfl,_,_,_,true,rfl,hx.ty,(show bw "list" "list"=some true by decide +kernel),_,rfl,aO ?_⟩;obtain⟨l,xs,rfl,hl,hds⟩:=b9 (b:=true) hx;have hlen:=hds.length;rw[Dh] at hlen;have two:=hp.two;have few:=hp.few;refine⟨_,rfl,l,_,rfl,qu hl,?_⟩;refine⟨_,_,rfl,rfl,true,eY (by omega),aN ⟨_,_,rfl,rfl,true,eY (by omega),aO ?_⟩⟩;have tr:∀ n:Nat,(Dz n true).all id=true:=λn=>by induction n with
   |zero=>rfl
   |succ n ih=>rw[Ft,GS,ih];rfl
  refine⟨_,rfl,l,true,rfl,⟨_,hl⟩,ig (f:=λ_=>.bool true) hl hds (by rw[Dh];omega) (λi d x H2 hd s2 hx2 R kk S=>?_) (λys H2 s2 hys D hD=>?_)⟩
  ·rw[Dp] at hd;cases e:ps[i]? with
   |none=>rw[e] at hd;cases hd
   |some p=>
    rw[e] at hd;cases hd;exact aN (B:=S H2) ⟨_,rfl,x,p,rfl,hx2,hp.inn p (DF e),λH3 s3=>kk _ _ ⟨s3,.bl _⟩⟩
  have hys:aw K H2 ((Dz ps.length true).map F5) ys:=by
   have e:(ps.map j6).map (λ_=>F5 true)=(Dz ps.length true).map F5:=by
    rw[Gk,Lv];exact List.eq_replicate_iff.mpr ⟨by simp,λb hb=>by obtain⟨_,_,h⟩:=EH.mp hb;exact h.symm⟩
   rw[<- e];exact hys
  have e:=cr hys;subst e;refine⟨D,_,rfl,bj.of ac,_,rfl,?_⟩;rw[tr];refine aO ?_;have s3:ae H (upd H2 D (.lst ((Dz ps.length true).map V.bl))):=s2.trans (ae.new hD);generalize upd H2 D (.lst ((Dz ps.length true).map V.bl))=H3 at s3 ⊢;clear hys s2 hD;have e0:ps[0]?=some ps[0]:=DB (by omega);obtain⟨v0,ev0,hv0⟩:=jX (aw.same s3 hds) e0;obtain⟨p0,rfl,hp0⟩:=eN hv0;refine⟨_,rfl,Br (i:=0) (cq.same s3 hl) ev0 (pL hp0 ⟨_,_,rfl,rfl,_,rfl,yb (hp.zero _ e0) ?_⟩)⟩;have l3:=cq.same s3 hl;refine⟨_,rfl,_,rfl,1,rfl,l,xs,rfl,l3,λL hL=>?_⟩;rw[oh xs (by omega)];have sL:ae H3 (upd H3 L (.lst (xs.drop 1))):=ae.new hL;have hL1:cq K (upd H3 L (.lst (xs.drop 1))) L (xs.drop 1) true:=bj.of ac;generalize upd H3 L (.lst (xs.drop 1))=H4 at sL hL1 ⊢;have d4:=aw.same (s3.trans sL) hds;have d5:=aw.drop 1 d4;refine⟨l,L,true,true,rfl,⟨_,cq.same sL l3⟩,⟨_,hL1⟩,?_⟩;refine lR (fs:=Dz (ps.length-1) (.bool true)) (cq.same sL l3) hL1 d4 d5 (by simp) (by simp) (by simp;omega) (λi d e f x y Z H5 hd he hf s5 hx5 hy5 hZ R kk S=>?_) (λzs H5 s5 hzs D2 hD2=>?_)
  ·have hf:f=.bool true:=(List.mem_replicate.mp (DF hf)).2;subst hf;rw[Dp] at hd;rw[Jc,Dp] at he;cases e1:ps[i]? with
   |none=>rw[e1] at hd;cases hd
   |some p=>
    cases e2:ps[1+i]? with
    |none=>rw[e2] at he;cases he
    |some r=>
     rw[e1] at hd;rw[e2] at he;cases hd;cases he;obtain⟨u1,u2⟩:=hp.up i p r e1 (by rw[Nat.add_comm];exact e2);refine⟨Z,_,rfl,f7.of hZ,rfl,_,_,rfl,_,_,rfl,rfl,?_⟩;refine aN (B:=S H5) ⟨_,rfl,_,rfl,x,y,p,r,rfl,hx5,hy5,?_⟩;rw[DE u1,DE u2];exact kk _ _ ⟨ae.refl _,.bl _⟩
  ·have hzs:aw K H5 ((Dz (ps.length-1) true).map F5) zs:=by rw[Lv];exact hzs
   have e:=cr hzs;subst e;refine⟨D2,_,rfl,bj.of ac,?_⟩;rw[tr];exact q _ (((s3.trans sL).trans s5).trans (ae.new hD2))
theorem zL {K:Dd}{H:Hp}{d:DZ}{x:V}(h:aQ K H d x):(∃ ds,d=.list ds)\/(bw (z_ d) "list"=some false/\∀ ds,d≠.list ds):=by
 cases d with
 |list ds=>exact .inl ⟨ds,rfl⟩
 |none=>exact .inr ⟨(show bw "NoneType" "list"=some false by decide +kernel),λ_ z=>nomatch z⟩
 |bool b=>exact .inr ⟨(show bw "bool" "list"=some false by decide +kernel),λ_ z=>nomatch z⟩
 |int b=>exact .inr ⟨(show bw "int" "list"=some false by decide +kernel),λ_ z=>nomatch z⟩
 |str b=>exact .inr ⟨(show bw "str" "list"=some false by decide +kernel),λ_ z=>nomatch z⟩
 |tuple b=>exact .inr ⟨(show bw "tuple" "list"=some false by decide +kernel),λ_ z=>nomatch z⟩
 |dict b=>exact .inr ⟨(show bw "dict" "list"=some false by decide +kernel),λ_ z=>nomatch z⟩
inductive kH (K:Dd)(vs:List V)(H:Hp)(Q:VK)(_:XK):Prop
 |mk (x:V) (d:DZ) (_:vs=[x]) (_:aQ K H d x) (_:∀ H',ae H H'->Q (.bl (ud d)) H')
theorem kK (T:c6 K mg w):dA P w K mg base (cC P w) 5 "is_points" gV [] (kH K):=by
  refine T.xr.cal im (bb:=λ_ _ _ _ _ H vs Q E hr h=>?_);obtain⟨x,d,rfl,hx,q⟩:=h;refine⟨_,(cE.go (af (aM (WW.pt (cG (aY (bd (am (kY (K:=K) rfl) (by rfl) T.x0 ax (aL (ar 0) (cu (v:=.ty "list") rfl T.x8 iQ rfl))))) (cy (aY (iY iI iI (bK rfl T.xh) (am (dM (K:=K) rfl) (by rfl) T.x3 bU (aB (ar 0))) (bK rfl T.xl)))))) (ag (au bQ)) aD)
   (af (aM (WW.pt (cG (aY (bd (am (gF (K:=K) rfl rfl) (by rfl) T.x6 dP (aB (aP ["point"] [] [] 1 (bG (K:=K) rfl (ar 0)) (λnd=>(aq 0 nd)) aI (aj aU (lE T) hr (aB (ar 0)))))))) (cy (aH gO (aZ K (aZ K (ar 0) ah) ah) ah (aS _))))) (ag (au bQ)) aD)
   (ag (au (am (gF (K:=K) rfl rfl) (by rfl) T.x6 dP (aB (aP uB3 [] [] 2 (qO (K:=K) rfl rfl T.xf (aL (ar 0) (fZ (zQ (K:=K) rfl) (ar 0) (iD ah) iS))) (λnd=>(m_ (K:=K) (n:=2) rfl rfl (a_ (aq 0 nd) (a_ (aq 1 nd) di)))) aI (aj aU (ij T) hr (aL (ar 0) (ar 1))))))))))),?_⟩
  rcases zL hx with ⟨ds,rfl⟩|⟨e1,e2⟩
  rotate_left
  ·rw[xH e2] at q;exact⟨_,rfl,_,_,_,false,rfl,hx.ty,e1,_,rfl,aN (aN (q _ (ae.refl _)))⟩
  refine⟨_,rfl,_,_,_,true,rfl,hx.ty,(show bw "list" "list"=some true by decide +kernel),_,rfl,aO ?_⟩;obtain⟨l,xs,rfl,hl,hds⟩:=b9 (b:=true) hx;have hlen:=hds.length;have q:∀ H',ae H H'->Q (.bl (decide (2<=ds.length)&&(decide (ds.length<=12)&&((ds.map (li 2 0 1000)).all id&&(rN (ds.map Ac)&&CB (ds.map Ac)))))) H':=q;refine⟨_,rfl,l,_,rfl,qu hl,?_⟩
  by_cases h2:2<=ds.length
  rotate_left
  ·rw[DR h2,Fx] at q;refine⟨_,_,rfl,rfl,false,?_,aO ⟨_,rfl,aN (q _ (ae.refl _))⟩⟩;show V.bl (decide ((2:Int)<=(xs.length:Int)))=_;rw[DR (by omega)]
  refine⟨_,_,rfl,rfl,true,eY (by omega),aN ?_⟩
  by_cases h12:ds.length<=12
  rotate_left
  ·rw[DE h2,DR h12,Fy,Fx] at q;refine⟨_,_,rfl,rfl,false,?_,aN (q _ (ae.refl _))⟩;show V.bl (decide ((xs.length:Int)<=12))=_;rw[DR (by omega)]
  rw[DE h2,DE h12,Fy,Fy] at q;refine⟨_,_,rfl,rfl,true,eY (by omega),aO ?_⟩;refine⟨_,rfl,l,true,rfl,⟨_,hl⟩,ig (f:=λd=>.bool (li 2 0 1000 d)) hl hds (by omega) (λi d x H2 hd s2 hx2 R kk S=>?_) (λys H2 s2 hys D hD=>?_)⟩
  ·exact aN (B:=S H2) ⟨_,rfl,x,d,rfl,hx2,λH3 s3=>kk _ _ ⟨s3,.bl _⟩⟩
  have hys:aw K H2 ((ds.map (li 2 0 1000)).map F5) ys:=by rw[Gk];exact hys
  have e:=cr hys;subst e;refine⟨D,_,rfl,bj.of ac,_,rfl,?_⟩;have s3:ae H (upd H2 D (.lst ((ds.map (li 2 0 1000)).map V.bl))):=s2.trans (ae.new hD);generalize upd H2 D (.lst ((ds.map (li 2 0 1000)).map V.bl))=H3 at s3 ⊢;clear hys s2 hD;cases hall:(ds.map (li 2 0 1000)).all id with
  |false=>
   rw[hall,Fx] at q;exact aN (aN (q _ s3))
  |true=>
  rw[hall,Fy] at q;refine aO ?_;obtain⟨ps,rfl,inn⟩:=Aq hall;rw[BX] at q;rw[Dh] at hlen h2 h12;have e0:ps[0]?=some ps[0]:=DB (by omega);obtain⟨v0,ev0,hv0⟩:=jX (aw.same s3 hds) e0;obtain⟨p0,rfl,hp0⟩:=eN hv0;have eh:rN ps=decide ((ps[0]).1=0):=by unfold rN;rw[show ps.getD 0 (0,0)=ps[0] by simp[Mt,e0]]
  have l3:=cq.same s3 hl;refine⟨_,rfl,Br (i:=0) l3 ev0 (pL hp0 ⟨_,_,rfl,rfl,_,rfl,?_⟩)⟩
  by_cases hz:(ps[0]).1=0
  rotate_left
  ·rw[eh,DR hz,Fx] at q;refine ib (λ_=>q _ s3) (λhc=>absurd ?_ hc);simp[hz]
  rw[eh,DE hz,Fy] at q;refine yb hz ?_;refine⟨_,rfl,_,rfl,1,rfl,l,xs,rfl,l3,λL hL=>?_⟩;rw[oh xs (by omega)];have sL:ae H3 (upd H3 L (.lst (xs.drop 1))):=ae.new hL;have hL1:cq K (upd H3 L (.lst (xs.drop 1))) L (xs.drop 1) true:=bj.of ac;generalize upd H3 L (.lst (xs.drop 1))=H4 at sL hL1 ⊢;have d4:=aw.same (s3.trans sL) hds;have d5:=aw.drop 1 d4;refine⟨l,L,true,true,rfl,⟨_,cq.same sL l3⟩,⟨_,hL1⟩,?_⟩;refine lR (fs:=((ps.zip (ps.drop 1)).map λz=>decide (z.1.1<z.2.1)&&decide (z.1.2<=z.2.2)).map F5) (cq.same sL l3) hL1 d4 d5 (by simp) (by simp) (by simp;omega) (λi d e f x y Z H5 hd he hf s5 hx5 hy5 hZ R kk S=>?_) (λzs H5 s5 hzs D2 hD2=>?_)
  ·rw[Dp] at hd;rw[Jc,Dp] at he;cases e1:ps[i]? with
   |none=>rw[e1] at hd;cases hd
   |some p=>
    cases e2:ps[1+i]? with
    |none=>rw[e2] at he;cases he
    |some r=>
     rw[e1] at hd;rw[e2] at he;cases hd;cases he;have hf:f=.bool (decide (p.1<r.1)&&decide (p.2<=r.2)):=by
      rw[Gk,Dp,(Ea (z:=(p,r))).mpr ⟨e1,by rw[Jc];exact e2⟩] at hf;cases hf;rfl
     subst hf;refine⟨Z,_,rfl,f7.of hZ,rfl,_,_,rfl,_,_,rfl,rfl,?_⟩;exact aN (B:=S H5) ⟨_,rfl,_,rfl,x,y,p,r,rfl,hx5,hy5,kk _ _ ⟨ae.refl _,.bl _⟩⟩
  ·have e:=cr hzs;subst e;exact⟨D2,_,rfl,bj.of ac,q _ (((s3.trans sL).trans s5).trans (ae.new hD2))⟩
theorem gx:az uB8 uB8 (ai cm):=dX
inductive gq (K:Dd)(vs:List V)(H:Hp)(Q:VK)(_:XK):Prop
 |mk (a C dx:Du) (x:V) (ps:List Pt) (_:vs=[.ref a,x]) (_:bf K "Curve" C) (_:H a=some (.ins C dx [])) (_:aQ K H (yP ps) x) (_:vS ps) (_:∀ H',Mv [a] H H'->bX K H' ps (.ref a)->(∀ T,cV H T->bX K (cut T H') ps (.ref a))->Q .non H')
theorem bI (T:c6 K mg w):ll P w K mg base (cC P w) 6 "Curve" "__init__" uB8 [] (gq K):=by
  refine T.x18.cal gx (bb:=λ_ _ _ _ _ H vs Q E hr h=>?_);obtain⟨a,C,dx,x,ps,rfl,hC,hH,hx,hp,q⟩:=h;refine⟨_,(cE.go (af (aM (aY (bd (aj aU (nK T) hr (aB (ar 1))))) (ag cH) aD)
   (ag (fv (K:=K) (x:="Curve") rfl T.x2 (.head _) (ar 0) (bE (pR (K:=K) rfl) (by rfl) T.x8 iQ (aB (ar 1))))))),?_⟩
  refine⟨_,rfl,x,ps,rfl,hx,hp,λH1 s1=>⟨_,rfl,aO ?_⟩⟩;have hx1:=aQ.same s1 hx;obtain⟨l,xs,rfl,hl,hds⟩:=b9 (b:=true) hx1;refine⟨_,rfl,l,xs,rfl,.inl hl,λL hL=>?_⟩;have sL:ae H1 (upd H1 L (.lst xs)):=ae.new hL;have ha:=sL _ _ (s1 _ _ hH);refine⟨_,rfl,a,C,dx,[],rfl,hC,ha,by decide,?_⟩;have na:L≠a:=λz=>by rw[z,s1 _ _ hH] at hL;cases hL
  have mv:Mv [a] (upd H1 L (.lst xs)) (upd (upd H1 L (.lst xs)) a (.ins C dx (cQ "points" (.ref L) []))):=λb o e nb=>by rw[ap (λz=>nb (by simp[z]))];exact e
  have tup:∀ p∈ps.map j6,lP p=true:=λp hp=>by obtain⟨r,_,rfl⟩:=EH.mp hp;rfl
  have keep:∀ {ds:List DZ}{ys:List V},(∀ p∈ds,∃ r:Pt,p=j6 r)->aw K (upd H1 L (.lst xs)) ds ys->aw K (upd (upd H1 L (.lst xs)) a (.ins C dx (cQ "points" (.ref L) []))) ds ys:=λ{ds ys} hd h=>by
   induction ds generalizing ys with
   |nil=>cases h;exact .nil
   |cons d ds ih=>
    cases h with
    |cons h1 h2=>
     refine .cons ?_ (ih (λp hp=>hd p (Do _ hp)) h2);obtain⟨r,rfl⟩:=hd d (DL ..);obtain⟨pa,rfl,hpa⟩:=eN h1;exact rK (mv _ _ hpa (λz=>by rw[DC.mp z,ha] at hpa;cases hpa))
  have kd:=keep (ds:=ps.map j6) (λp hp=>by obtain⟨r,_,rfl⟩:=EH.mp hp;exact⟨r,rfl⟩) (aw.same sL hds);have gL:upd (upd H1 L (.lst xs)) a (.ins C dx (cQ "points" (.ref L) [])) L=some (.lst xs):=by rw[ap na];exact ac
  refine q _ (λb o e nb=>mv b o (sL _ _ (s1 _ _ e)) nb) ⟨a,C,dx,L,rfl,hC,ac,.lst (.inl gL) kd⟩ λT lT=>?_
  have aT:a∉T:=lT.not hH λ_ z=>nomatch z
  have LT:L∉T:=λm=>by
   obtain⟨ys,e⟩:=lT L m;rw[s1 _ _ e] at hL;cases hL
  have lT':cV (upd (upd H1 L (.lst xs)) a (.ins C dx (cQ "points" (.ref L) []))) T:=λb m=>by
   obtain⟨ys,e⟩:=lT b m;exact⟨ys,mv _ _ (sL _ _ (s1 _ _ e)) (λz=>aT (DC.mp z▸m))⟩
  exact⟨a,C,dx,L,rfl,hC,by rw[hV aT];exact ac,.lst (.inl (by rw[hV LT];exact gL)) (aw.cutT lT' (xP ps) kd)⟩
theorem jt:az uB9 uB9 (ai c_):=dX
inductive jH (K:Dd)(vs:List V)(H:Hp)(Q:VK)(_:XK):Prop
 |mk (v:V) (ps:List Pt) (z:Pt) (_:vs=[v]) (_:bX K H ps v) (_:ps.getLast?=some z) (_:Q (.int z.1) H)
theorem jF (T:c6 K mg w):ll P w K mg base (cC P w) 1 "Curve" "last" uB9 [] (jH K):=by
  refine T.x19.cal jt (bb:=λ_ _ _ _ _ H vs Q E hr h=>?_);obtain⟨v,ps,z,rfl,⟨a,C,dx,l,rfl,hC,hH,hd⟩,hz,q⟩:=h;refine⟨_,(cE.go (ag (au (aZ K (aZ K (bZ (K:=K) (x:="Curve") rfl T.x2 (.head _) (ar 0)) (u4 uJ ah)) ah)))),?_⟩;obtain⟨l',xs,e,hl,hds⟩:=b9 (b:=true) hd;cases e;obtain⟨u,eu,hu⟩:=pV hds hz;obtain⟨pa,rfl,hpa⟩:=eN hu;exact⟨_,rfl,a,C,dx,_,_,rfl,hC,hH,rfl,_,rfl,.inl ⟨l,xs,_,_,rfl,rfl,hl,km eu,pL hpa q⟩⟩
theorem jO:az uB9 uB9 (ai dk):=dX
inductive jQ (K:Dd)(vs:List V)(H:Hp)(Q:VK)(_:XK):Prop
 |mk (v:V) (ps:List Pt) (y z:Pt) (_:vs=[v]) (_:bX K H ps v) (_:ps[0]?=some y) (_:ps.getLast?=some z) (_:∀ u H',ae H H'->aQ K H' (.tuple [.int y.2,.int z.2]) u->Q u H')
theorem jD (T:c6 K mg w):ll P w K mg base (cC P w) 1 "Curve" "ends" uB9 [] (jQ K):=by
  refine T.x1a.cal jO (bb:=λ_ _ _ _ _ H vs Q E hr h=>?_);obtain⟨v,ps,y,z,rfl,⟨a,C,dx,l,rfl,hC,hH,hd⟩,hy,hz,q⟩:=h;refine⟨_,(cE.go (ag (au (cL (aL (aZ K (aZ K (bZ (K:=K) (x:="Curve") rfl T.x2 (.head _) (ar 0)) ah) ah) (aZ K (aZ K (bZ (K:=K) (x:="Curve") rfl T.x2 (.head _) (ar 0)) (u4 uJ ah)) ah)))))),?_⟩;obtain⟨l',xs,e,hl,hds⟩:=b9 (b:=true) hd;cases e;obtain⟨u0,eu0,hu0⟩:=jX hds hy;obtain⟨pb,rfl,hpb⟩:=eN hu0;obtain⟨u,eu,hu⟩:=pV hds hz;obtain⟨pa,rfl,hpa⟩:=eN hu;refine⟨_,rfl,a,C,dx,_,_,rfl,hC,hH,rfl,Br (i:=0) hl eu0 (rk hpb ?_)⟩;refine⟨_,rfl,a,C,dx,_,_,rfl,hC,hH,rfl,_,rfl,.inl ⟨l,xs,_,_,rfl,rfl,hl,km eu,rk hpa ⟨pY,λp hp=>?_⟩⟩⟩;exact q _ _ (ae.new hp) (aQ.tupN hp (.cons (.int _) (.cons (.int _) .nil)))
theorem dD:az uA9 uA9 (ai bF):=dX
inductive dC (K:Dd)(vs:List V)(H:Hp)(Q:VK)(_:XK):Prop
 |mk (a C dx:Du) (x y:V) (ps qs:List Pt) (p z w:Pt) (_:vs=[.ref a,x,y]) (_:bf K "JoinedCurve" C) (_:H a=some (.ins C dx [])) (_:bX K H ps x) (_:bX K H qs y) (_:vS ps) (_:vS qs) (_:ps[0]?=some p) (_:ps.getLast?=some z) (_:qs.getLast?=some w) (_:z.2<=w.1) (_:∀ H',Mv [a] H H'->(∀ T,cV H T->CZ K (cut T H') ps qs (.ref a))->Q .non H')
theorem dE (T:c6 K mg w):ll P w K mg base (cC P w) 8 "JoinedCurve" "__init__" uA9 [] (dC K):=by
  refine T.x1b.cal dD (bb:=λ_ _ _ _ _ H vs Q E hr h=>?_);obtain⟨a,C,dx,x,y,ps,qs,p,z,w,rfl,hC,hH,hx,hy,hp,hq,e0,hz,hw,le,q⟩:=h;refine⟨_,(cE.go (af (aM (WW.pt (cG (aY (bd (am (rz (K:=K) (x:="Curve") rfl T.x2 T.x7) (by rfl) T.x0 ax (aL (ar 1) (bJ (K:=K) (x:="Curve") rfl rfl (gj T.x2)))))) (cy (aY (bd (am (rz (K:=K) (x:="Curve") rfl T.x2 T.x7) (by rfl) T.x0 ax (aL (ar 2) (bJ (K:=K) (x:="Curve") rfl rfl (gj T.x2))))))))) (ag cH) aD)
   (af (aM (aH rE (aZ K (oI (K:=K) rfl aU (jD T) (hr.mono (by decide)) (ar 1)) ah) (oI (K:=K) rfl aU (jF T) (hr.mono (by decide)) (ar 2)) (aS _)) (ag cH) aD)
   (af (fv (K:=K) (x:="JoinedCurve") rfl T.xa (.head _) (ar 0) (eR (K:=K) rfl aU (bI T) (hr.mono (by decide)) rfl (aB (bZ (K:=K) (x:="Curve") rfl T.x2 (.head _) (ar 1)))))
   (ag (fv (K:=K) (x:="JoinedCurve") rfl T.xa (.tail _ (.head _)) (ar 0) (eR (K:=K) rfl aU (bI T) (hr.mono (by decide)) rfl (aB (bZ (K:=K) (x:="Curve") rfl T.x2 (.head _) (ar 2)))))))))),?_⟩
  obtain⟨b,Cb,dxb,lb,rfl,hCb,hHb,hdb⟩:=id hx;obtain⟨c,Cc,dxc,lc,rfl,hCc,hHc,hdc⟩:=id hy;refine⟨_,rfl,λD hD=>?_⟩;cases bu hD hCb;refine⟨_,_,rfl,hCb,.inl ⟨b,dxb,_,rfl,hHb,_,rfl,aO ?_⟩⟩;refine⟨_,rfl,λD hD=>?_⟩;cases bu hD hCc;refine⟨_,_,rfl,hCc,.inl ⟨c,dxc,_,rfl,hHc,_,rfl,aO ?_⟩⟩;refine⟨_,rfl,b,Cb,dxb,_,rfl,hCb,hHb,rfl,.ref b,ps,p,z,rfl,hx,e0,hz,λu H1 s1 hu=>?_⟩;obtain⟨E',es,rfl,hE,hes⟩:=b9 (b:=false) (ds:=[.int p.2,.int z.2]) hu;have ees:=pJ (ns:=[p.2,z.2]) hes;subst ees;refine Br (i:=1) hE rfl ⟨_,rfl,c,Cc,dxc,_,rfl,hCc,s1 _ _ hHc,rfl,.ref c,qs,w,rfl,bX.same s1 hy,hw,_,_,rfl,rfl,false,?_,aO ?_⟩
  ·show V.bl (decide (w.1<z.2))=_;rw[DR (by omega)]
  have hx1:=bX.same s1 hx;have hy1:=bX.same s1 hy;refine⟨_,rfl,b,Cb,dxb,_,_,rfl,hCb,s1 _ _ hHb,rfl,λC1 v1 x1 hC1 hv1 hx1' hn1=>?_⟩;have t1:ae H1 (upd (upd H1 x1 (.own v1)) v1 (.ins C1 x1 [])):=(ae.new hx1').trans (ae.new (by rw[ap hn1.symm];exact hv1));have g1:upd (upd H1 x1 (.own v1)) v1 (.ins C1 x1 []) v1=some (.ins C1 x1 []):=ac;generalize upd (upd H1 x1 (.own v1)) v1 (.ins C1 x1 [])=H2 at t1 g1 ⊢;refine⟨v1,C1,x1,_,ps,rfl,hC1,g1,aQ.same (s1.trans t1) hdb,hp,λH3 mv3 cv3 cT3=>⟨rfl,?_⟩⟩;have s3:ae H1 H3:=λb' o e=>mv3 _ _ (t1 _ _ e) (λm=>by rw[DC.mp m,hv1] at e;cases e)
  have sH3:=s1.trans s3;have a3:=sH3 _ _ hH;have F1:∀ T,cV H T->bX K (cut T H3) ps (.ref v1):=λT lT=>cT3 T λb' m=>by obtain⟨ys,e⟩:=lT b' m;exact⟨ys,t1 _ _ (s1 _ _ e)⟩
  refine⟨_,rfl,a,C,dx,[],rfl,hC,a3,by decide,?_⟩;have nf0:∀ l:Du,([]:List (Str×V))≠[(("points":Str),V.ref l)]:=λl z=>nomatch z
  have F2:∀ T,cV H T->bX K (cut T (upd H3 a (.ins C dx [("first",.ref v1)]))) ps (.ref v1):=λT lT=>by
   have aT:a∉T:=lT.not hH λ_ z=>nomatch z
   rw[rA aT];exact bX.put (by rw[hV aT];exact a3) nf0 (F1 T lT)
  have hy4:bX K (upd H3 a (.ins C dx [("first",.ref v1)])) qs (.ref c):=bX.put a3 nf0 (bX.same s3 hy1);have m4:Mv [a] H (upd H3 a (.ins C dx [("first",.ref v1)])):=λb' o e nb=>by rw[ap (λz=>nb (by simp[z]))];exact sH3 _ _ e
  have a4:upd H3 a (.ins C dx [("first",.ref v1)]) a=some (.ins C dx [("first",.ref v1)]):=ac;rw[show cQ "first" (V.ref v1) []=[(("first":Str),V.ref v1)] from rfl];generalize upd H3 a (.ins C dx [("first",.ref v1)])=H4 at F2 hy4 m4 a4 ⊢;obtain⟨c',Cc',dxc',lc',ec,hCc',hHc',hdc'⟩:=id hy4;cases ec;refine⟨_,rfl,c,Cc',dxc',_,_,rfl,hCc',hHc',rfl,λC2 v2 x2 hC2 hv2 hx2' hn2=>?_⟩;have t2:ae H4 (upd (upd H4 x2 (.own v2)) v2 (.ins C2 x2 [])):=(ae.new hx2').trans (ae.new (by rw[ap hn2.symm];exact hv2));have g2:upd (upd H4 x2 (.own v2)) v2 (.ins C2 x2 []) v2=some (.ins C2 x2 []):=ac;generalize upd (upd H4 x2 (.own v2)) v2 (.ins C2 x2 [])=H5 at t2 g2 ⊢;refine⟨v2,C2,x2,_,qs,rfl,hC2,g2,aQ.same t2 hdc',hq,λH6 mv6 cv6 cT6=>⟨rfl,?_⟩⟩;have s6:ae H4 H6:=λb' o e=>mv6 _ _ (t2 _ _ e) (λm=>by rw[DC.mp m,hv2] at e;cases e)
  have a6:=s6 _ _ a4;refine⟨_,rfl,a,C,dx,[("first",.ref v1)],rfl,hC,a6,by show 1<1000;decide,?_⟩;have nf1:∀ l:Du,[(("first":Str),V.ref v1)]≠[(("points":Str),V.ref l)]:=λl z=>by
   injection z with z _
   injection z with z _
   exact absurd z (by decide)
  refine q _ (λb' o e nb=>by rw[ap (λz=>nb (by simp[z]))];exact s6 _ _ (m4 _ _ e nb)) λT lT=>?_
  have aT:a∉T:=lT.not hH λ_ z=>nomatch z
  have lT4:cV H5 T:=λb' m=>by obtain⟨ys,e⟩:=lT b' m;exact⟨ys,t2 _ _ (m4 _ _ e (λz=>aT (DC.mp z▸m)))⟩
  rw[rA aT];have ca:cut T H6 a=some (.ins C dx [("first",.ref v1)]):=by rw[hV aT];exact a6
  refine⟨a,C,dx,v1,v2,rfl,hC,ac,bX.put ca nf1 (bX.same (ae.cut s6) (F2 T lT)),bX.put ca nf1 (cT6 T lT4)⟩
theorem pH:az gV gV (ai g_):=dX
inductive pQ (K:Dd)(vs:List V)(H:Hp)(Q:VK)(_:XK):Prop
 |mk (x:V) (d:DZ) (_:vs=[x]) (_:aQ K H d x) (_:Q (.bl (mY 2 7 d)) H)
theorem pT (T:c6 K mg w):dA P w K mg base (cC P w) 3 "is_knots" gV [] (pQ K):=by
  refine T.x1c.cal pH (bb:=λ_ _ _ _ _ H vs Q E hr h=>?_);obtain⟨x,d,rfl,hx,q⟩:=h;refine⟨_,(cE.go (ag (au (aj aU (ci T) hr (aa (ar 0) (aa (bK rfl T.xg) (aa (bK rfl T.xk) aV))))))),?_⟩;exact⟨_,rfl,x,d,2,7,rfl,hx,q⟩
theorem qK:az uA4 uA4 (ai i_):=dX
inductive qE (K:Dd)(vs:List V)(H:Hp)(Q:VK)(_:XK):Prop
 |mk (x:V) (ns:List Int) (n:Int) (_:vs=[x,.int n]) (_:aQ K H (.tuple (ns.map Eo)) x) (_:ns.length=3) (_:∀ H',ae H H'->Q (.bl (ns.all λk=>decide (0<=k)&&decide (k<=n-1))) H')
theorem kn (T:c6 K mg w):dA P w K mg base (cC P w) 4 "is_knot" uA4 [] (qE K):=by
  refine T.x1d.cal qK (bb:=λ_ _ _ _ _ H vs Q E hr h=>?_);obtain⟨x,ns,n,rfl,hx,hl,q⟩:=h;refine⟨_,(cE.go (ag (au (aj aU (ck T) hr (aa (ar 0) (aa ah (aa ah (aa (aA kX (ar 1) ah) aV)))))))),?_⟩;exact⟨_,rfl,_,rfl,_,_,rfl,rfl,x,ns,3,0,n-1,rfl,hx,by omega,by omega,q⟩
theorem jq:az gV gV (ai ia):=dX
inductive n5 (K:Dd)(vs:List V)(H:Hp)(Q:VK)(_:XK):Prop
 |mk (x:V) (ns:List Int) (_:vs=[x]) (_:aQ K H (.tuple (ns.map Eo)) x) (_:ns.length=3) (_:∀ H',ae H H'->Q (.bl (ns.all λk=>decide (0<=k)&&decide (k<=1000))) H')
theorem oH (T:c6 K mg w):dA P w K mg base (cC P w) 4 "is_worth" gV [] (n5 K):=by
  refine T.xs.cal jq (bb:=λ_ _ _ _ _ H vs Q E hr h=>?_);obtain⟨x,ns,rfl,hx,hl,q⟩:=h;refine⟨_,(cE.go (ag (au (aj aU (ck T) hr (aa (ar 0) (aa ah (aa ah (aa (bK rfl T.xj) aV)))))))),?_⟩;exact⟨_,rfl,x,ns,3,0,1000,rfl,hx,by omega,by omega,q⟩
inductive lH (K:Dd)(vs:List V)(H:Hp)(Q:VK)(_:XK):Prop
 |mk (x:V) (d:DZ) (_:vs=[x]) (_:tY K H d x) (_:∀ H',ae H H'->Q (.bl (li 3 0 1000 d)) H')
theorem lq (T:c6 K mg w):dA P w K mg base (cC P w) 4 "is_worth" gV [] (lH K):=by
  refine T.xs.cal jq (bb:=λ_ _ _ _ _ H vs Q E hr h=>?_);obtain⟨x,d,rfl,hx,q⟩:=h;refine⟨_,(cE.go (ag (au (aj aU (cP T) hr (aa (ar 0) (aa ah (aa ah (aa (bK rfl T.xj) aV)))))))),?_⟩;exact⟨_,rfl,x,d,3,0,1000,rfl,hx,by decide,q⟩
theorem pB:az uA4 uA4 (ai gS):=dX
inductive oB (K:Dd)(vs:List V)(H:Hp)(Q:VK)(_:XK):Prop
 |mk (d:Du) (n:Nat) (f:Kn->R3) (_:vs=[.ref d,.int n]) (_:Gr K H n f d) (_:xD n f) (_:n<=7) (_:∀ H',ae H H'->Q (.bl true) H')
theorem oV (T:c6 K mg w):dA P w K mg base (cC P w) 5 "is_table" uA4 [] (oB K):=by
  refine T.x1e.cal pB (bb:=λ_ _ _ _ _ H vs Q E hr h=>?_);obtain⟨d,n,f,rfl,hg,hw,h7,q⟩:=h;obtain⟨ts,pm,vs,hd,hvs⟩:=hg;have hlen:=mC.len hvs;have kl:(gK ts vs).length=n^3:=by rw[kI hlen,pm.length_eq,cn]
  have n3:n^3<=7^3:=Hr h7 3;refine⟨_,(cE.go (af (aM (WW.pt (cG (aY (bd (am (kY (K:=K) rfl) (by rfl) T.x0 ax (aL (ar 0) (cu (v:=.ty "dict") rfl T.xm qY rfl))))) (cy (aH gO (am tD (by rfl) T.x3 bU (aB (ar 0))) (aA vQ (ar 1) ah) (aS _))))) (ag (au bQ)) aD)
   (ag (au (am (gF (K:=K) rfl rfl) (by rfl) T.x6 dP (aB (ve (aP ["place","worth"] ["knots"] [1] 2 (si (ar 0)) (λnd=>(m_ (K:=K) (n:=2) rfl rfl (a_ (aq 0 nd) (a_ (aq 1 nd) di)))) aI (iA (aj aU (kn T) hr (aL (ar 0) (ar 2))) (gk (aj aU (oH T) hr (aB (ar 1))))))))))))),?_⟩
  refine⟨_,rfl,_,_,_,true,rfl,.dT hd,(show bw "dict" "dict"=some true by decide +kernel),_,rfl,aO ?_⟩;refine⟨_,rfl,d,_,rfl,.inl hd,_,rfl,_,_,rfl,rfl,⟨by decide,by decide,by omega⟩,_,_,rfl,rfl,false,?_,aO ?_⟩
  ·show V.bl (!decide (((gK ts vs).length:Int)=(n:Int)^(3:Int).toNat))=_;rw[kl,DE (by show((n^3:Nat):Int)=(n:Int)^3;simp)];rfl
  refine⟨_,rfl,d,_,rfl,hd,λo=>qJ (d:=d) (bs:=Dz (gK ts vs).length true) ac (by simp) (by omega) (λi k x ka T b H1 hk hb s1 hka hT R kk S=>?_) (λH1 s1 D hD=>?_)⟩
  ·obtain⟨t,e1,rfl,e2⟩:=xU hk;have hb:b=true:=by
    rw[HG] at hb
    split at hb
    ·exact(Dm hb).symm
    ·cases hb
   subst hb;have ht:t∈aG n:=pm.mem_iff.mp (DF e1);have hm:=bM.mp ht;have wt:=hw t ht;have hx:aQ K H1 (wD (f t)) x:=by
    obtain⟨dd,ed,hx⟩:=hvs.get e2;rw[Dp,e1] at ed;cases ed;have hT':aQ K (upd H d (.frz o (.dT (gK ts vs)))) (wD (f t)) x:=by
     obtain⟨a,xs,rfl,ha,hxs⟩:=b9 (b:=false) (ds:=(f t).ds) hx;have hx':aQ K H (.tuple (f t).ds) (.ref a):=hx;cases hx' with
     |tup h1 h2=>exact .tup (by rw[ap (λz=>by rw[z,hd] at h1;cases h1)];exact h1) (by cases jc h2;exact .cons (.int _) (.cons (.int _) (.cons (.int _) .nil)))
    exact aQ.same s1 hT'
   have e3:([(t.1:Int),(t.2.1:Int),(t.2.2:Int)].all λk=>decide (0<=k)&&decide (k<=(n:Int)-1))=true:=by
    simp only[GS,Mc,Hx,Dw,EN];omega
   have e4:([(f t).a,(f t).b,(f t).c].all λk=>decide (0<=k)&&decide (k<=1000))=true:=by
    obtain⟨a0,a1,b0,b1,c0,c1⟩:=wt;simp only[GS,Mc,Hx,Dw,EN];omega
   refine⟨T,_,rfl,f7.of hT,rfl,_,_,rfl,_,_,rfl,rfl,aN (B:=S H1) ?_⟩;refine⟨_,rfl,_,rfl,.ref ka,[(t.1:Int),(t.2.1:Int),(t.2.2:Int)],n,rfl,ug hka,rfl,λH2 s2=>⟨true,by rw[e3],aN ?_⟩⟩;exact⟨_,rfl,x,[(f t).a,(f t).b,(f t).c],rfl,aQ.same s2 hx,rfl,λH3 s3=>by rw[e4];exact kk _ _ ⟨s2.trans s3,rfl⟩⟩
  ·have nd:D≠d:=λz=>by rw[z,s1 _ _ ac] at hD;cases hD
   refine⟨d,o,gK ts vs,hd,by rw[ap (Fj nd)];exact s1 _ _ ac,D,_,rfl,bj.of (by rw[ap nd];exact ac),?_⟩;rw[show(Dz (gK ts vs).length true).all id=true by simp];refine q _ λb u e=>?_
   by_cases hb:b=d
   ·subst hb;rw[hd] at e;cases e;exact ac
   ·rw[ap hb];have e':=s1 b u (by rw[ap hb];exact e);rw[ap (λz=>by rw[z,hD] at e';cases e')];exact e'
theorem fh:az ["many","numbers"] ["many"] (ai df):=dX
inductive jv (K:Dd)(vs:List V)(H:Hp)(Q:VK)(_:XK):Prop
 |mk (n:Nat) (_:vs=[.int n]) (_:n<=7) (_:∀ (D:Du) (ys:List V) (H':Hp),ae H H'->H' D=some (.lst ys)->aw K H' ((aG n).map vX) ys->Q (.ref D) H')
theorem fc (T:c6 K mg w):dA P w K mg base (cC P w) 1 "places_below" ["many"] [] (jv K):=by
  refine T.x1f.cal fh (bb:=λ_ _ _ _ _ H vs Q E hr h=>?_);obtain⟨n,rfl,h7,q⟩:=h;refine⟨_,(cE.go (af (aE 1 fh.nd (bE (m7 rfl) (by rfl) T.x8 iQ (aa (xL rfl T.x4 (aB (ar 0))) aV)))
   (ag (au (sy rfl (bG (K:=K) rfl (ar 1)) (jW (by decide +kernel) (by rfl)) (mL (ts:=["a","b","c"]) (cs:=uC3) (js:=[1]) (k:=3) (by rfl) rfl rfl) (λ_ _ _ _ _=>(aq 0 (show KO (α:=Str) uB7 by decide +kernel))) (λ_ _ _ _ _=>aI) (λ_ _ _ _ _=>(og rfl rfl rfl (bG (K:=K) rfl (ar 3)) (aq 1 (show KO (α:=Str) uB7 by decide +kernel)) aI (og rfl rfl rfl (bG (K:=K) rfl (ar 3)) (aq 2 (show KO (α:=Str) uB7 by decide +kernel)) aI (ur rfl rfl (cL (aa (ar 0) (aa (ar 1) (aa (ar 2) aV))))))))))))),?_⟩
  refine⟨_,rfl,n,rfl,by omega,λp hp=>⟨p,n,rfl,ac,by omega,λl hl=>?_⟩⟩;have s0:ae H (upd (upd H p (.rng 0 n)) l (.lst ((pW n).map V.int))):=(ae.new hp).trans (ae.new hl);have hl0:cq K (upd (upd H p (.rng 0 n)) l (.lst ((pW n).map V.int))) l ((pW n).map V.int) true:=bj.of ac;generalize upd (upd H p (.rng 0 n)) l (.lst ((pW n).map V.int))=H0 at s0 hl0 ⊢;refine⟨_,rfl,l,true,rfl,⟨_,hl0⟩,sN (xs:=(pW n).map V.int) (λi ys H'=>ae H0 H'/\aw K H' ((lA n i).map vX) ys) ⟨ae.refl _,.nil⟩ (λi ys H' _ p=>cq.same p.1 hl0) (λi x ys H1 hx p R kk S=>?_) (λys H1 p=>?_)⟩
  ·obtain⟨hi,rfl⟩:=m6 hx;obtain⟨s1,d1⟩:=p;refine aN (B:=S H1) ⟨_,rfl,l,true,rfl,⟨_,cq.same s1 hl0⟩,pI (xs:=(pW n).map V.int) (λj σ ys' H'=>(∃ o1 o2,σ=[some (.int i),o1,o2,some (.ref l)])/\ae H0 H'/\aw K H' ((lA n i++lj n i j).map vX) ys') ⟨⟨none,none,rfl⟩,s1,by simpa [lj] using d1⟩ (λj σ ys' H' _ p=>cq.same p.2.1 hl0) (λj x σ ys' H2 hx p R2 kk2 S2=>?_) (λσ ys' H2 p=>?_)⟩
   ·obtain⟨hj,rfl⟩:=m6 hx;obtain⟨⟨o1,o2,rfl⟩,s2,d2⟩:=p;refine aN (B:=S2 [some (.int i),some (.int j),o2,some (.ref l)] H2) ⟨_,rfl,l,true,rfl,⟨_,cq.same s2 hl0⟩,pI (xs:=(pW n).map V.int) (λk σ ys'' H'=>(∃ o2,σ=[some (.int i),some (.int j),o2,some (.ref l)])/\ae H0 H'/\aw K H' ((lA n i++lj n i j++mx i j k).map vX) ys'') ⟨⟨o2,rfl⟩,s2,by simpa [mx] using d2⟩ (λj σ ys' H' _ p=>cq.same p.2.1 hl0) (λk x σ ys'' H3 hx p R3 kk3 S3=>?_) (λσ ys'' H3 p=>?_)⟩
    ·obtain⟨hk,rfl⟩:=m6 hx;obtain⟨⟨o3,rfl⟩,s3,d3⟩:=p;have hlen:=d3.length;rw[Dh] at hlen;refine aN (B:=S3 [some (.int i),some (.int j),some (.int k),some (.ref l)] H3) ⟨bP (by rw[<- hlen];exact Dt (tJ h7 hi hj (Gm hk)) (by decide)),_,rfl,_,rfl,_,rfl,Aa,λp hp=>kk3 _ _ _ ⟨⟨_,rfl⟩,s3.trans (ae.new hp),?_⟩⟩;rw[oZ,<- F',FP];exact(aw.same (ae.new hp) d3).snoc (ug (t:=(i,j,k)) ac)
    ·obtain⟨⟨o3,rfl⟩,s3,d3⟩:=p;rw[Dh,ir] at d3;exact kk2 _ _ _ ⟨⟨_,_,rfl⟩,s3,by rw[k_,<- F'];exact d3⟩
   ·obtain⟨⟨o1,o2,rfl⟩,s2,d2⟩:=p;rw[Dh,ir] at d2;exact kk _ _ _ ⟨s2,by rw[ku];exact d2⟩
  ·obtain⟨s1,d1⟩:=p;rw[Dh,ir,wP] at d1;have hlen:=d1.length;rw[Dh,cn] at hlen;refine⟨?_,λD hD=>q D ys _ ((s0.trans s1).trans (ae.new hD)) ac (aw.same (ae.new hD) d1)⟩;have:n^3<=7^3:=Hr h7 3;omega
theorem gW:az uB0 uB0 (ai cw):=dX
inductive gQ (K:Dd)(vs:List V)(H:Hp)(Q:VK)(_:XK):Prop
 |mk (a C dx d:Du) (n:Nat) (f:Kn->R3) (_:vs=[.ref a,.int n,.ref d]) (_:bf K "Grid" C) (_:H a=some (.ins C dx [])) (_:Gr K H n f d) (_:xD n f) (_:2<=n) (_:n<=7) (_:∀ (H':Hp) (L:Du),Mv [a] H H'->H' a=some (.ins C dx [("knots",.int n),("table",.ref L)])->Gr K H' n f L->H L=none->Q .non H')
theorem dc (T:c6 K mg w):ll P w K mg base (cC P w) 6 "Grid" "__init__" uB0 [] (gQ K):=by
  refine T.x1g.cal gW (bb:=λ_ _ _ _ _ H vs Q E hr h=>?_);obtain⟨a,C,dx,d,n,f,rfl,hC,ha,hg,hw,h2,h7,q⟩:=h;refine⟨_,(cE.go (af (aM (aY (bd (aj aU (pT T) hr (aB (ar 1))))) (ag cH) aD)
   (af (aM (aY (bd (aj aU (oV T) hr (aL (ar 2) (ar 1))))) (ag cH) aD)
   (af (fv (K:=K) (x:="Grid") rfl T.x5 (.head _) (ar 0) (ar 1))
   (ag (fv (K:=K) (x:="Grid") rfl T.x5 (.tail _ (.head _)) (ar 0) (bE qR (by rfl) T.xm qY (aB (ar 2))))))))),?_⟩
  have e1:mY 2 7 (.int (n:Int))=true:=by
   show(decide ((2:Int)<=n)&&decide ((n:Int)<=7))=true;rw[DE (show(2:Int)<=n by omega),DE (show(n:Int)<=7 by omega)];rfl
  refine⟨_,rfl,.int n,.int n,rfl,.int _,true,by rw[e1],aO ?_⟩;refine⟨_,rfl,_,rfl,d,n,f,rfl,hg,hw,h7,λH1 s1=>⟨_,rfl,aO ?_⟩⟩;have ha1:=s1 _ _ ha;have hg1:=hg.same s1;refine⟨_,rfl,_,rfl,a,C,dx,[],rfl,hC,ha1,by decide,?_⟩;obtain⟨ts,pm,vs,hd,hvs⟩:=id hg1;have hlen:=mC.len hvs;have na:d≠a:=λz=>by rw[z,ha1] at hd;cases hd
  have mv1:Mv [a] H1 (upd H1 a (.ins C dx (cQ "knots" (.int n) []))):=λb o e nb=>by rw[ap (λz=>nb (by simp[z]))];exact e
  have ne:gK ts vs≠[]:=λz=>by
   have:=FS Le z;rw[kI hlen,pm.length_eq,cn] at this;have:0<n^3:=Nat.pow_pos (by omega);rw[IJ] at *;omega
  refine⟨_,rfl,d,_,rfl,.inl (mv1 _ _ hd (by simp[na])),ne,wH h7 pm hlen,λL hL=>?_⟩;refine⟨_,rfl,a,C,dx,_,rfl,hC,by rw[ap (λz=>by rw[<- z,ac] at hL;cases hL)];exact ac,by show 1<1000;decide,?_⟩;have La:L≠a:=λz=>by rw[z,ac] at hL;cases hL
  have mv2:Mv [a] H1 (upd (upd (upd H1 a (.ins C dx (cQ "knots" (.int n) []))) L (.dT (gK ts vs))) a (.ins C dx (cQ "table" (.ref L) (cQ "knots" (.int n) [])))):=λb o e nb=>by
   have nb:b≠a:=λz=>nb (by simp[z])
   rw[ap nb,ap (λz=>by rw[<- z,ap nb,e] at hL;cases hL),ap nb];exact e
  have wkeep:∀ {ts:List Kn}{ws:List V}{H':Hp},Mv [a] H1 H'->aw K H1 (ts.map λt=>wD (f t)) ws->aw K H' (ts.map λt=>wD (f t)) ws:=λ{ts ws H'} m h=>by
   induction ts generalizing ws with
   |nil=>cases h;exact .nil
   |cons t ts ih=>
    cases h with
    |cons h1 h2=>
     refine .cons ?_ (ih h2);have h1':aQ K H1 (.tuple (f t).ds) _:=h1;cases h1' with
     |tup k1 k2=>
      cases jc k2;exact .tup (m _ _ k1 (λz=>by rw[DC.mp z,ha1] at k1;cases k1)) (.cons (.int _) (.cons (.int _) (.cons (.int _) .nil)))
  refine q _ L (λb o e nb=>mv2 b o (s1 _ _ e) nb) ac ⟨ts,pm,vs,?_,wkeep mv2 hvs⟩ ?_
  ·rw[ap La];exact ac
  ·cases z:H L with
   |none=>rfl
   |some o=>
    rw[ap La,s1 _ _ z] at hL;cases hL
theorem kE:az uC0 uC0 (ai dQ):=dX
inductive kG (K:Dd)(vs:List V)(H:Hp)(Q:VK)(_:XK):Prop
 |mk (v x:V) (n:Nat) (f:Kn->R3) (t:Kn) (_:vs=[v,x]) (_:jz K H n f v) (_:aQ K H (vX t) x) (_:t∈aG n) (_:∀ (w:V) (H':Hp),ae H H'->aQ K H' (wD (f t)) w->Q w H')
theorem kZ (T:c6 K mg w):ll P w K mg base (cC P w) 5 "Grid" "knot" uC0 [] (kG K):=by
  refine T.x1h.cal kE (bb:=λ_ _ _ _ _ H vs Q E hr h=>?_);obtain⟨v,x,n,f,t,rfl,hv,hx,ht,q⟩:=h;obtain⟨a,C,dx,d,rfl,hC,ha,hg⟩:=id hv;refine⟨_,(cE.go (af (aM (aY (bd (aj aU (kn T) hr (aL (ar 1) (bZ (K:=K) (x:="Grid") rfl T.x5 (.head _) (ar 0)))))) (ag cH) aD)
   (ag (au (uD hr.u1 (bZ (K:=K) (x:="Grid") rfl T.x5 (.tail _ (.head _)) (ar 0)) (ar 1) (λ_ _=>rfl)))))),?_⟩
  have hm:=bM.mp ht;have e:([(t.1:Int),(t.2.1:Int),(t.2.2:Int)].all λk=>decide (0<=k)&&decide (k<=(n:Int)-1))=true:=by
   simp only[GS,Mc,Hx,Dw,EN];omega
  refine⟨_,rfl,_,rfl,a,C,dx,_,_,rfl,hC,ha,rfl,x,[(t.1:Int),(t.2.1:Int),(t.2.2:Int)],n,rfl,hx,rfl,λH1 s1=>⟨true,by rw[e],aO ?_⟩⟩;obtain⟨b,rfl,hb⟩:=rO (aQ.same s1 hx);obtain⟨w,g1,g2⟩:=yG (hg.same s1) ht hb;exact⟨_,rfl,a,C,dx,_,_,rfl,hC,s1 _ _ ha,rfl,_,rfl,d,w,rfl,g1,q _ _ s1 g2⟩
theorem iN:az gV gV (ai cI):=dX
def zm (K:Dd)(H:Hp)(v:V):Prop:=(∃ d,aQ K H d v)\/∃ a C dx fs,v=.ref a/\bf K "Curve" C/\H a=some (.ins C dx fs)
inductive gz (K:Dd)(vs:List V)(H:Hp)(Q:VK)(E:XK):Prop
 |mk (v:V) (_:vs=[v]) (_:((∃ n f,jz K H n f v/\Q .non H)\/(zm K H v/\Rz K 5 H E)))
theorem gB (T:c6 K mg w):dA P w K mg base (cC P w) 1 "refuse_no_grid" gV [] (gz K):=by
  refine T.x1i.calX iN (bb:=λ_ _ _ _ _ H vs Q E hr h=>?_);obtain⟨v,rfl,h⟩:=h;refine⟨_,(cE.go (ag (aM (aY (bd (am (qf (K:=K) (x:="Grid") (y:="Curve") rfl T.x5 T.xb T.x2 T.x7 T.x14) (by rfl) T.x0 ax (aL (ar 0) (bJ (K:=K) (x:="Grid") rfl rfl (gj T.x5)))))) (ag (bW (K:=K) rfl bx rfl rfl rfl (cX T.x1 (i:=5) rfl) (aB ao))) aD))),?_⟩;rcases h with ⟨n,f,he,q⟩|⟨⟨d,hd⟩|⟨a,C,dx,fs,rfl,hC,ha⟩,qz⟩
  ·obtain⟨a,C,dx,d,rfl,hC,ha,_⟩:=he;refine⟨_,rfl,λD hD=>?_⟩;cases bu hD hC;exact⟨_,_,rfl,hC,.inl ⟨a,dx,_,rfl,ha,_,rfl,aO q⟩⟩
  ·exact⟨_,rfl,λD hD=>⟨_,_,rfl,hD,.inr (.inl ⟨_,hd.ty,uY,_,rfl,aN ⟨mi,qz.now (ae.refl _) rfl⟩⟩)⟩⟩
  ·exact⟨_,rfl,λD hD=>⟨_,_,rfl,hD,.inr (.inr ⟨a,C,dx,fs,rfl,hC,ha,_,rfl,aN ⟨mi,qz.now (ae.refl _) rfl⟩⟩)⟩⟩
theorem iV:az gV gV (ai cJ):=dX
def tS (K:Dd)(H:Hp)(v:V):Prop:=(∃ d,aQ K H d v/\∀ i,d≠.str i)\/∃ a C dx fs,v=.ref a/\(bf K "Grid" C\/bf K "Curve" C)/\H a=some (.ins C dx fs)
inductive gy (K:Dd)(vs:List V)(H:Hp)(Q:VK)(E:XK):Prop
 |mk (v:V) (_:vs=[v]) (_:((∃ s:Str,v=.str s/\Q .non H)\/(tS K H v/\Rz K 10 H E)))
theorem cW (T:c6 K mg w):dA P w K mg base (cC P w) 1 "refuse_no_text" gV [] (gy K):=by
  refine T.x1j.calX iV (bb:=λ_ _ _ _ _ H vs Q E hr h=>?_);obtain⟨v,rfl,h⟩:=h;refine⟨_,(cE.go (ag (aM (aY (bd (am (br.or (xV (K:=K) (x:="Curve") rfl T.x2 T.x7 T.xx) (br.or (xV (K:=K) (x:="Grid") rfl T.x5 T.xb T.xy) (kY (K:=K) rfl))) (by rfl) T.x0 ax (aL (ar 0) (cu (v:=.ty "str") rfl T.xo uL rfl))))) (ag (bW (K:=K) rfl bx rfl rfl rfl (cX T.x1 (i:=10) rfl) (aB ao))) aD))),?_⟩;rcases h with ⟨i,rfl,q⟩|⟨⟨d,hd,ns⟩|⟨a,C,dx,fs,rfl,hC,ha⟩,qz⟩
  ·exact⟨_,rfl,.inr (.inr ⟨_,_,_,true,rfl,.str i,(show bw "str" "str"=some true by decide +kernel),_,rfl,aO q⟩)⟩
  ·exact⟨_,rfl,.inr (.inr ⟨_,_,_,false,rfl,hd.ty,wJ ns,_,rfl,aN ⟨mi,qz.now (ae.refl _) rfl⟩⟩)⟩
  ·rcases hC with hC|hC
   ·exact⟨_,rfl,.inr (.inl ⟨a,C,dx,fs,rfl,hC,ha,_,rfl,aN ⟨mi,qz.now (ae.refl _) rfl⟩⟩)⟩
   ·exact⟨_,rfl,.inl ⟨a,C,dx,fs,rfl,hC,ha,_,rfl,aN ⟨mi,qz.now (ae.refl _) rfl⟩⟩⟩
theorem jI:az uC3 uC3 (ai dh):=dX
inductive jy (K:Dd)(vs:List V)(H:Hp)(Q:VK)(_:XK):Prop
 |mk (x:V) (ns:List Int) (_:vs=[x]) (_:aQ K H (.tuple (ns.map Eo)) x) (_:ns.length<=3) (_:(∀ n∈ns,0<=n/\n<10^4)) (_:∀ H',ae H H'->Q (.str (vW ns)) H')
theorem cR (T:c6 K mg w):dA P w K mg base (cC P w) 1 "numbers_text" uC3 [] (jy K):=by
  refine T.x1k.cal jI (bb:=λ_ _ _ _ _ H vs Q E hr h=>?_);obtain⟨x,ns,rfl,hx,hl,hn,q⟩:=h;refine⟨_,(cE.go (ag (au (dw EB GN GO (jU (K:=K) rfl) ao (aB (aP ["number"] [] [] 1 (bG (K:=K) rfl (ar 0)) (λnd=>(aq 0 nd)) aI (bE mZ (by rfl) T.xo uL (aB (ar 0))))))))),?_⟩;obtain⟨a,xs,rfl,ha,hxs⟩:=b9 (b:=false) (ds:=ns.map Eo) hx;refine⟨rfl,_,rfl,a,false,rfl,⟨_,ha⟩,bL (b:=false) (ds:=ns.map Eo) (es:=(ns.map λn=>E4 (toString n)).map Gx) ha hxs (by simp) (by rw[Dh];omega) (λj dj ej u H2 hdj hej s2 hu R kk S=>?_) (λzs H2 s2 hzs D hD=>?_)⟩
  ·rw[Dp] at hdj hej;rw[Dp] at hej;obtain⟨n,en,rfl⟩:=DA.mp hdj;rw[en] at hej;cases hej;cases hu;have hb:=hn n (DF en);exact aN (B:=S H2) ⟨_,rfl,n,rfl,vq hb,kk _ _ ⟨ae.refl _,.str _⟩⟩
  ·have e:=jV hzs;subst e;refine⟨_,D,_,rfl,rfl,bj.of ac,Bm (B:=10) (λt ht=>?_) (by decide) (by rw[Dh];omega),q _ (s2.trans (ae.new hD))⟩;obtain⟨n,hm,rfl⟩:=EH.mp ht;exact j_ (hn n hm)
theorem mK:az uC1 uC1 (ai fB):=dX
inductive nG (K:Dd)(vs:List V)(H:Hp)(Q:VK)(_:XK):Prop
 |mk (w:Str) (_:vs=[.str w]) (_:w.length<=Ds) (_:∀ H',ae H H'->Q (.bl (cY w)) H')
theorem iK (T:c6 K mg w):dA P w K mg base (cC P w) 1 "is_number" uC1 [] (nG K):=by
  refine T.x1l.cal mK (bb:=λ_ _ _ _ _ H vs Q E hr h=>?_);obtain⟨w,rfl,hz,q⟩:=h;refine⟨_,(cE.go (af (aM (WW.pt (cG (aY (iY iI iI ah (am iU (by rfl) T.x3 bU (aB (ar 0))) (bK rfl T.xv))) (cy (aY (bd (am (gF (K:=K) rfl rfl) (by rfl) T.x6 dP (aB (aP ["sign"] [] [] 1 (wB (ar 0)) (λnd=>(aq 0 nd)) aI (dv sX (ar 0) (uS rfl T.xu) rfl))))))))) (ag (au bQ)) aD)
   (ag (au (zK (dv mU (ar 0) ao (aS _)) (gk (dv jd (tU t0 (ar 0) ah (λ_ _=>rfl)) ao (aS _)))))))),?_⟩
  by_cases h1:1<=w.length
  rotate_left
  ·have e:cY w=false:=by unfold cY;rw[DR h1];rfl
   rw[e] at q;exact⟨_,rfl,w,rfl,hz,_,_,rfl,rfl,false,pK (by omega),aO ⟨_,rfl,aN (q _ (ae.refl _))⟩⟩
  by_cases h2:w.length<=4
  rotate_left
  ·have e:cY w=false:=by unfold cY;rw[DR h2,Jh];rfl
   rw[e] at q;exact⟨_,rfl,w,rfl,hz,_,_,rfl,rfl,true,eY (by omega),aN ⟨_,_,rfl,rfl,false,pK (by omega),aN (q _ (ae.refl _))⟩⟩
  refine⟨_,rfl,w,rfl,hz,_,_,rfl,rfl,true,eY (by omega),aN ⟨_,_,rfl,rfl,true,eY (by omega),aO ?_⟩⟩;refine⟨_,rfl,w,rfl,vp (f:=λc=>.bl (ox c)) (by omega) (λc H2 hc s2 Y S hY=>?_) (λH2 s2 D hD=>?_)⟩
  ·exact aN (B:=S H2) ⟨_,rfl,_,_,rfl,rfl,hY _ (ae.refl _)⟩
  have em:w.cps.toList.map (λc=>V.bl (ox c))=(w.cps.toList.map ox).map V.bl:=by rw[Gk];rfl
  rw[em];refine⟨D,_,rfl,bj.of ac,_,rfl,?_⟩;generalize e0:upd H2 D _=H3;have s3:=s2.trans (dG hD e0);clear e0;have ea:(w.cps.toList.map ox).all id=w.cps.toList.all ox:=by rw[Kv];rfl
  rw[ea];have en:cY w=(w.cps.toList.all ox&&(decide (w="0")||!decide (w.cps[0]?=some 48))):=by
   unfold cY;rw[DE h1,DE h2,Fy,Fy]
  rw[en] at q;cases ef:w.cps.toList.all ox with
  |false=>rw[ef] at q;exact aN (q _ s3)
  |true=>
   rw[ef,Fy] at q;refine aO ⟨_,rfl,w,"0",rfl,rfl,?_⟩;refine⟨_,rfl,ib (λhc=>?_) (λhc=>?_)⟩
   ·rw[hc,Bool.true_or] at q;exact q _ s3
   ·rw[Ju.mpr hc,Bool.false_or] at q;obtain⟨c,ec⟩:∃ c,w.cps[0]?=some c:=⟨_,Array.getElem?_eq_getElem (show 0<w.cps.size from h1)⟩
    refine⟨_,rfl,w,0,c,rfl,rfl,hz,?_,_,_,rfl,rfl,?_⟩
    ·exact eX (by rw[FW];exact ec)
    ·have e:decide ((⟨#[c]⟩:Str)="0")=decide (w.cps[0]?=some 48):=by
      rw[ec];refine decide_eq_decide.mpr ⟨λz=>?_,λz=>?_⟩
      ·have z':(⟨#[c]⟩:Str)=⟨#[48]⟩:=z;injection z' with z'
       have:=FS (·[0]?) z';exact this
      ·cases z;rfl
     rw[e];exact q _ s3
theorem b_:az ["text","words"] uB4 (ai da):=dX
inductive jA (K:Dd)(vs:List V)(H:Hp)(Q:VK)(_:XK):Prop
 |mk (t:Str) (ns:List Int) (_:vs=[.str t]) (_:t.length<=900) (_:cS t=some ns) (_:∀ (v:V) (H':Hp),ae H H'->aQ K H' (.tuple (ns.map Eo)) v->Q v H')
theorem jJ (T:c6 K mg w):dA P w K mg base (cC P w) 2 "numbers_read" uB4 [] (jA K):=by
  refine T.xt.cal b_ (bb:=λ_ _ _ _ _ H vs Q E hr h=>?_);obtain⟨t,ns,rfl,hz,hn,q⟩:=h;refine⟨_,(cE.go (af (aE 1 b_.nd (dw EB Fo Gz iT (ar 0) (aB ao)))
   (af (aM (aY (bd (am (gF (K:=K) rfl rfl) (by rfl) T.x6 dP (aB (aP uC1 [] [] 1 (bG (K:=K) rfl (ar 1)) (λnd=>(aq 0 nd)) aI (aj aU (iK T) hr (aB (ar 0)))))))) (ag cH) aD)
   (ag (au (bE (mS (K:=K) rfl) (by rfl) T.x9 fu (aB (aP uC1 [] [] 1 (bG (K:=K) rfl (ar 1)) (λnd=>(aq 0 nd)) aI (bE lY (by rfl) T.xc qM (aB (ar 0))))))))))),?_⟩
  have hz':t.length+2<=Ds:=Dt (show t.length+2<=902 by omega) (by decide);refine⟨_,rfl,rfl,t," ",rfl,rfl,rfl,hz',λL hL=>?_⟩;generalize e0:upd H L _=H1;have s1:=dG hL e0;have g1:H1 L=some (.lst ((j9 t).map V.str)):=cT e0;clear e0;have lw:(j9 t).length<=902:=Dt (eB t " ") (by omega);refine⟨_,rfl,L,true,rfl,⟨_,bj.of g1⟩,bL (b:=true) (ds:=(j9 t).map Gx) (es:=((j9 t).map cY).map F5) (bj.of g1) (ge _) (by simp) (by rw[Dh];omega) (λj dj ej u H2 hdj hej s2 hu R kk S=>?_) (λzs H2 s2 hzs D hD=>?_)⟩
  ·rw[Dp] at hdj hej;rw[Dp] at hej;obtain⟨x,en,rfl⟩:=DA.mp hdj;rw[en] at hej;cases hej;cases hu;have hl:=c5 x (DF en);exact aN (B:=S H2) ⟨_,rfl,x,rfl,Dt (show x.length<=900 by omega) (by decide),λH3 s3=>kk _ _ ⟨s3,.bl _⟩⟩
  have e:=cr hzs;subst e;generalize e0:upd H2 D _=H3;have s3:=s2.trans (dG hD e0);have g3:=cT e0;clear e0;refine⟨D,_,rfl,bj.of g3,_,rfl,?_⟩;have ea:((j9 t).map cY).all id=(j9 t).all cY:=by rw[Kv];rfl
  rw[ea];unfold cS at hn
  by_cases ha:(j9 t).all cY=true
  rotate_left
  ·rw[DS ha] at hn;cases hn
  rw[Ee ha] at hn;rw[ha];refine aO ?_;replace g1:=s3 _ _ g1;have hm:=il hn;refine⟨_,rfl,L,true,rfl,⟨_,bj.of g1⟩,bL (b:=true) (ds:=(j9 t).map Gx) (es:=ns.map Eo) (bj.of g1) (ge _) (by rw[Dh,Dh];exact hm.1) (by rw[Dh];omega) (λj dj ej u H4 hdj hej s4 hu R kk S=>?_) (λzs H4 s4 hzs D2 hD2=>?_)⟩
  ·rw[Dp] at hdj hej;obtain⟨x,en,rfl⟩:=DA.mp hdj;obtain⟨n,em,rfl⟩:=DA.mp hej;cases hu;have hl:=c5 x (DF en);exact aN (B:=S H4) ⟨_,rfl,x,n,rfl,hm.2 j x n en em,Dt (oX (DU.mp ha x (DF en))) (by decide),kk _ _ ⟨ae.refl _,.int _⟩⟩
  ·refine⟨D2,_,rfl,.inl ⟨bj.of ac,λy hy=>?_⟩⟩;exact q _ _ (((s1.trans s3).trans s4).trans ((ae.new hD2).trans (ae.new hy))) (.tup ac (aw.same ((ae.new hD2).trans (ae.new hy)) hzs))
inductive ik (K:Dd)(vs:List V)(H:Hp)(Q:VK)(E:XK):Prop
 |mk (t:Str) (_:vs=[.str t]) (_:t.length<=900) (_:((((j9 t).all cY=false)/\Rz K 10 H E)\/∃ ns,cS t=some ns/\∀ (v:V) (H':Hp),ae H H'->aQ K H' (.tuple (ns.map Eo)) v->Q v H'))
theorem iE (T:c6 K mg w):dA P w K mg base (cC P w) 2 "numbers_read" uB4 [] (ik K):=by
  refine T.xt.calX b_ (bb:=λ_ _ _ _ _ H vs Q E hr h=>?_);obtain⟨t,rfl,hz,h⟩:=h;refine⟨_,(cE.go (af (aE 1 b_.nd (dw EB Fo Gz iT (ar 0) (aB ao)))
   (af (aM (aY (bd (am (gF (K:=K) rfl rfl) (by rfl) T.x6 dP (aB (aP uC1 [] [] 1 (bG (K:=K) rfl (ar 1)) (λnd=>(aq 0 nd)) aI (aj aU (iK T) hr (aB (ar 0)))))))) (ag (bW (K:=K) rfl bx rfl rfl rfl (cX T.x1 (i:=10) rfl) (aB ao))) aD)
   (ag (au (bE (mS (K:=K) rfl) (by rfl) T.x9 fu (aB (aP uC1 [] [] 1 (bG (K:=K) rfl (ar 1)) (λnd=>(aq 0 nd)) aI (bE lY (by rfl) T.xc qM (aB (ar 0))))))))))),?_⟩
  have hz':t.length+2<=Ds:=Dt (show t.length+2<=902 by omega) (by decide);refine⟨_,rfl,rfl,t," ",rfl,rfl,rfl,hz',λL hL=>?_⟩;generalize e0:upd H L _=H1;have s1:=dG hL e0;have g1:H1 L=some (.lst ((j9 t).map V.str)):=cT e0;clear e0;have lw:(j9 t).length<=902:=Dt (eB t " ") (by omega);refine⟨_,rfl,L,true,rfl,⟨_,bj.of g1⟩,bL (b:=true) (ds:=(j9 t).map Gx) (es:=((j9 t).map cY).map F5) (bj.of g1) (ge _) (by simp) (by rw[Dh];omega) (λj dj ej u H2 hdj hej s2 hu R kk S=>?_) (λzs H2 s2 hzs D hD=>?_)⟩
  ·rw[Dp] at hdj hej;rw[Dp] at hej;obtain⟨x,en,rfl⟩:=DA.mp hdj;rw[en] at hej;cases hej;cases hu;have hl:=c5 x (DF en);exact aN (B:=S H2) ⟨_,rfl,x,rfl,Dt (show x.length<=900 by omega) (by decide),λH3 s3=>kk _ _ ⟨s3,.bl _⟩⟩
  have e:=cr hzs;subst e;generalize e0:upd H2 D _=H3;have s3:=s2.trans (dG hD e0);have g3:=cT e0;clear e0;refine⟨D,_,rfl,bj.of g3,_,rfl,?_⟩;have ea:((j9 t).map cY).all id=(j9 t).all cY:=by rw[Kv];rfl
  rw[ea];rcases h with ⟨hf,qz⟩|⟨ns,hn,q⟩
  ·rw[hf];exact aN ⟨mi,qz.now (s1.trans s3) rfl⟩
  unfold cS at hn
  by_cases ha:(j9 t).all cY=true
  rotate_left
  ·rw[DS ha] at hn;cases hn
  rw[Ee ha] at hn;rw[ha];refine aO ?_;replace g1:=s3 _ _ g1;have hm:=il hn;refine⟨_,rfl,L,true,rfl,⟨_,bj.of g1⟩,bL (b:=true) (ds:=(j9 t).map Gx) (es:=ns.map Eo) (bj.of g1) (ge _) (by rw[Dh,Dh];exact hm.1) (by rw[Dh];omega) (λj dj ej u H4 hdj hej s4 hu R kk S=>?_) (λzs H4 s4 hzs D2 hD2=>?_)⟩
  ·rw[Dp] at hdj hej;obtain⟨x,en,rfl⟩:=DA.mp hdj;obtain⟨n,em,rfl⟩:=DA.mp hej;cases hu;have hl:=c5 x (DF en);exact aN (B:=S H4) ⟨_,rfl,x,n,rfl,hm.2 j x n en em,Dt (oX (DU.mp ha x (DF en))) (by decide),kk _ _ ⟨ae.refl _,.int _⟩⟩
  ·refine⟨D2,_,rfl,.inl ⟨bj.of ac,λy hy=>?_⟩⟩;exact q _ _ (((s1.trans s3).trans s4).trans ((ae.new hD2).trans (ae.new hy))) (.tup ac (aw.same ((ae.new hD2).trans (ae.new hy)) hzs))
theorem mE:az ["knots"] ["knots"] (ai fA):=dX
def nX (n:Nat):Str:="knots "++E4 (toString (n:Int))
inductive nj (K:Dd)(vs:List V)(H:Hp)(Q:VK)(_:XK):Prop
 |mk (n:Nat) (_:vs=[.int n]) (_:n<=7) (_:Q (.str (nX n)) H)
theorem iR (T:c6 K mg w):dA P w K mg base (cC P w) 1 "knots_row" ["knots"] [] (nj K):=by
  refine T.x1m.cal mE (bb:=λ_ _ _ _ _ H vs Q E hr h=>?_);obtain⟨n,rfl,h7,q⟩:=h;refine⟨_,(cE.go (ag (au (my ao (rb (ar 0)))))),?_⟩;have hb:0<=(n:Int)/\(n:Int)<10^4:=by omega
  have hl:=j_ hb;exact⟨_,rfl,by decide,_,rfl,.inl ⟨n,rfl,vq hb,_,rfl,Dt (show(G4 "knots ")+(E4 (toString (n:Int))).length<=6+10 from Gw (by decide) hl) (by decide),q⟩⟩
theorem gI:az ["row","knots"] ["row"] (ai eP):=dX
inductive jP (K:Dd)(vs:List V)(H:Hp)(Q:VK)(E:XK):Prop
 |mk (row:Str) (_:vs=[.str row]) (_:(∀ n:Nat,2<=n->n<=7->row=nX n->Q (.int n) H)) (_:((∀ n:Nat,2<=n->n<=7->row≠nX n)->Rz K 10 H E))
theorem jN (T:c6 K mg w):dA P w K mg base (cC P w) 2 "knots_read" ["row"] [] (jP K):=by
  refine T.x1n.calX gI (bb:=λ_ _ _ _ _ H vs Q E hr h=>?_);obtain⟨row,rfl,q,qz⟩:=h;refine⟨_,(cE.go (af (xI (eM FQ rfl (qG rfl T.x4 (aL (bK rfl T.xg) (aA ce (bK rfl T.xk) ah))) (aq 1 gI.nd) (ag (aM (aH mU (ar 0) (aj aU (iR T) hr (aB (ar 1))) (aS _)) (ag (au (ar 1))) aD))))
   (ag (bW (K:=K) rfl bx rfl rfl rfl (cX T.x1 (i:=10) rfl) (aB ao))))),?_⟩
  refine⟨_,_,rfl,rfl,2,8,rfl,by decide,fY (lo:=2) (n:=6) (λk σ H'=>(∃ o,σ=[some (.str row),o])/\H'=H/\∀ m:Nat,2<=m->m<2+k->row≠nX m) ⟨⟨_,rfl⟩,rfl,λm h1 h2=>by omega⟩ ?_ ?_⟩
  ·rintro k σ H1 hk ⟨⟨o,rfl⟩,rfl,hm⟩;refine⟨_,rfl,_,rfl,2+k,rfl,by omega,row,nX (2+k),rfl,rfl,_,rfl,ib (λhc=>?_) (λhc=>?_)⟩
   ·exact⟨_,rfl,q (2+k) (by omega) (by omega) (Er hc)⟩
   ·refine⟨⟨_,rfl⟩,rfl,λm h1 h2=>?_⟩
    by_cases z:m=2+k
    ·subst z;exact λe=>hc (DE e)
    ·exact hm m h1 (by omega)
  ·rintro σ H1 ⟨⟨o,rfl⟩,rfl,hm⟩;exact⟨mi,(qz λn h2 h7=>hm n h2 (by omega)).now (ae.refl _) rfl⟩
theorem nE:az ["place"] ["place"] (ai fQ):=dX
def tH (t:Kn):Str:=vW [(t.1:Int),(t.2.1:Int),(t.2.2:Int)]++": "
theorem qZ {t:Kn}(ht:t∈aG 7):(tH t).length<=62:=by
 have hm:=bM.mp ht;have hl:=iy (ns:=[(t.1:Int),(t.2.1:Int),(t.2.2:Int)]) (by show 3<=3;omega) λn hn=>by
  simp only[Dx,Ef,Gu] at hn;omega
 unfold tH;rw[FI];have:G4 ": "=2:=by decide
 omega
inductive nk (K:Dd)(vs:List V)(H:Hp)(Q:VK)(_:XK):Prop
 |mk (x:V) (t:Kn) (_:vs=[x]) (_:aQ K H (vX t) x) (_:t∈aG 7) (_:∀ H',ae H H'->Q (.str (tH t)) H')
theorem iM (T:c6 K mg w):dA P w K mg base (cC P w) 2 "row_start" ["place"] [] (nk K):=by
  refine T.x1o.cal nE (bb:=λ_ _ _ _ _ H vs Q E hr h=>?_);obtain⟨x,t,rfl,hx,ht,q⟩:=h;refine⟨_,(cE.go (ag (au (my (rb (aj aU (cR T) hr (aB (ar 0)))) ao)))),?_⟩;have hm:=bM.mp ht;have hn:∀ n∈[(t.1:Int),(t.2.1:Int),(t.2.2:Int)],0<=n/\n<10^4:=λn hn=>by
   simp only[Dx,Ef,Gu] at hn;omega
  have hl:=iy (ns:=[(t.1:Int),(t.2.1:Int),(t.2.2:Int)]) (by show 3<=3;omega) hn;generalize hN:vW [(t.1:Int),(t.2.1:Int),(t.2.2:Int)]=N at hl;have h1:N.length<=Ds:=Dt hl (by decide);refine⟨_,rfl,x,[(t.1:Int),(t.2.1:Int),(t.2.2:Int)],rfl,hx,by show 3<=3;omega,hn,λH1 s1=>.inr ⟨_,rfl,by rw[hN];exact h1,_,rfl,by rw[hN];exact h1,_,rfl,by rw[hN];exact Dt (show N.length+G4 ": "<=60+2 from Gw hl (by decide)) (by decide),q _ s1⟩⟩
theorem dO:az ["row","place","start","worth"] ["row","place"] (ai eS):=dX
def fw (row:Str)(t:Kn):Str:=Txt.slice row (some ((tH t).length:Int)) none
def nW (row:Str)(t:Kn):Option R3:=if Jr row (tH t)=true then match cS (fw row t) with
 |some [a,b,c]=>if li 3 0 1000 (.tuple [.int a,.int b,.int c])=true then some ⟨a,b,c⟩ else none
 |_=>none
 else none
inductive jw (K:Dd)(vs:List V)(H:Hp)(Q:VK)(E:XK):Prop
 |mk (row:Str) (x:V) (t:Kn) (_:vs=[.str row,x]) (_:aQ K H (vX t) x) (_:t∈aG 7) (_:row.length<=900) (_:((j9 (fw row t)).all cY=true->∃ ns,cS (fw row t)=some ns)) (_:(nW row t=none->Rz K 10 H E)) (_:∀ r:R3,nW row t=some r->∀ (v:V) (H':Hp),ae H H'->aQ K H' (wD r) v->Q v H')
theorem jE (T:c6 K mg w):dA P w K mg base (cC P w) 5 "worth_read" ["row","place"] [] (jw K):=by
  refine T.x1p.calX dO (bb:=λ_ _ _ _ _ H vs Q E hr h=>?_);obtain⟨row,x,t,rfl,hx,ht,hz,hns,qz,q⟩:=h;refine⟨_,(cE.go (af (aE 2 dO.nd (aj aU (iM T) hr (aB (ar 1))))
   (af (aM (aY (bd (dw EB PySem.F.slot_str_startswith PySem.F.type_str_startswith sH (ar 0) (aB (ar 2))))) (ag (bW (K:=K) rfl bx rfl rfl rfl (cX T.x1 (i:=10) rfl) (aB ao))) aD)
   (af (aE 3 dO.nd (b8 bx rfl (iE T) (hr.mono (by decide)) rfl (aB (fZ yJ (ar 0) (iD (am iU (by rfl) T.x3 bU (aB (ar 2)))) iS))))
   (af (aM (aY (bd (aj aU (lq T) hr (aB (ar 3))))) (ag (bW (K:=K) rfl bx rfl rfl rfl (cX T.x1 (i:=10) rfl) (aB ao))) aD)
   (ag (au (ar 3)))))))),?_⟩
  have hz':row.length<=Ds:=Dt hz (by decide);refine⟨_,rfl,x,t,rfl,hx,ht,λH1 s1=>?_⟩;refine⟨_,rfl,rfl,_,rfl,row,tH t,rfl,rfl,_,rfl,?_⟩;cases hs:Jr row (tH t) with
  |false=>exact aN ⟨mi,(qz (by unfold nW;rw[DS (by rw[hs];exact DM)])).now s1 rfl⟩
  |true=>
   have hsl:(fw row t).length<=900:=Dt (Txt.slice_le row _ _) hz;have hst:(tH t).length<=Ds:=by
    have:(tH t).length<=row.length:=by
     unfold Jr at hs;simp only[Dw,EN] at hs;omega
    omega
   refine aO ⟨_,rfl,_,rfl,_,rfl,hst,_,rfl,row,rfl,hz',fw row t,rfl,hsl,?_⟩
   by_cases ha:(j9 (fw row t)).all cY=true
   ·obtain⟨ns,hn⟩:=hns ha;refine .inr ⟨ns,hn,λv H2 s2 hv=>?_⟩;refine⟨_,rfl,v,_,rfl,.inl hv,λH3 s3=>⟨_,rfl,?_⟩⟩;cases hw:li 3 0 1000 (.tuple (ns.map Eo)) with
    |false=>
     refine aN ⟨mi,(qz ?_).now ((s1.trans s2).trans s3) rfl⟩;unfold nW;rw[Ee hs,hn]
     match ns,hw with
     |[a,b,c],hw=>exact DS (by rw[show li 3 0 1000 (.tuple [.int a,.int b,.int c])=false from hw];exact DM)
     |[],_=>rfl
     |[_],_=>rfl
     |[_,_],_=>rfl
     |_::_::_::_::_,_=>rfl
    |true=>
     obtain⟨r,er,_⟩:=At hw;have en:ns=[r.a,r.b,r.c]:=by
      have e2:(ns.map Eo)=([r.a,r.b,r.c]:List Int).map Eo:=by injection er
      exact pf e2
     subst en;refine aO ⟨_,rfl,q r ?_ v H3 ((s1.trans s2).trans s3) (aQ.same s3 hv)⟩;unfold nW;rw[Ee hs,hn];exact Ee hw
   ·have ha:(j9 (fw row t)).all cY=false:=Ju.mpr ha;refine .inl ⟨ha,(qz ?_).out s1⟩;unfold nW cS;rw[Ee hs,ha];rfl
theorem iJ:az ["grid","rows"] ["grid"] (ai fI):=dX
def CP (n:Nat)(f:Kn->R3):Str:=KP "\n" (nX n::(aG n).map λt=>tH t++vW [(f t).a,(f t).b,(f t).c])
inductive kP (K:Dd)(vs:List V)(H:Hp)(Q:VK)(E:XK):Prop
 |mk (v:V) (_:vs=[v]) (_:((∃ n f,jz K H n f v/\xD n f/\2<=n/\n<=7/\∀ H',ae H H'->Q (.str (CP n f)) H')\/(zm K H v/\Rz K 5 H E)))
theorem kf (T:c6 K mg w):dA P w K mg base (cC P w) 6 "grid_text" ["grid"] [] (kP K):=by
  refine T.x1q.calX iJ (bb:=λ_ _ _ _ _ H vs Q E hr h=>?_);obtain⟨v,rfl,h⟩:=h;refine⟨_,(cE.go (af (iF (b8 bx rfl (gB T) (hr.mono (by decide)) rfl (aB (ar 0))))
   (af (bV 1 ["place"] ["grid"] [0] 1 iJ.nd (bG (K:=K) rfl (aj aU (fc T) hr (aB (bZ (K:=K) (x:="Grid") rfl T.x5 (.head _) (ar 0))))) (λnd=>(aq 0 nd)) aI (aA eU (aj aU (iM T) hr (aB (ar 0))) (aj aU (cR T) hr (aB (wT (K:=K) rfl aU (kZ T) (hr.mono (by decide)) (ar 1) (aB (ar 0)))))))
   (ag (au (dw EB GN GO (jU (K:=K) rfl) ao (aB (aA fM (aX (aB (aj aU (iR T) hr (aB (bZ (K:=K) (x:="Grid") rfl T.x5 (.head _) (ar 0)))))) (ar 1))))))))),?_⟩
  rcases h with ⟨n,f,hv,hw,h2,h7,q⟩|⟨nv,qz⟩
  rotate_left
  ·exact⟨_,rfl,v,rfl,.inr ⟨nv,qz.out (ae.refl _)⟩⟩
  obtain⟨a,C,dx,d,rfl,hC,ha,hg⟩:=id hv;refine⟨_,rfl,.ref a,rfl,.inl ⟨n,f,hv,?_⟩⟩;refine⟨_,rfl,a,C,dx,_,_,rfl,hC,ha,rfl,n,rfl,h7,λD ys H1 s1 hD hys=>?_⟩;have few:(aG n).length<=343:=by
   rw[cn];exact Hr h7 3
  refine⟨D,true,rfl,⟨_,bj.of hD⟩,bL (b:=true) (ds:=(aG n).map vX) (es:=((aG n).map λt=>tH t++vW [(f t).a,(f t).b,(f t).c]).map Gx) (bj.of hD) hys (by simp) (by rw[Dh];omega) (λj dj ej u H2 hdj hej s2 hu R kk S=>?_) (λzs H2 s2 hzs Z hZ=>?_)⟩
  ·rw[Dp] at hdj hej;rw[Dp] at hej;obtain⟨t,et,rfl⟩:=DA.mp hdj;rw[et] at hej;cases hej;have htm:=DF et;have k7:t∈aG 7:=by
    have:=bM.mp htm;exact bM.mpr (by omega)
   have wt:=hw t htm;have hn:∀ n∈[(f t).a,(f t).b,(f t).c],0<=n/\n<10^4:=λn hn=>by
    obtain⟨w1,w2,w3,w4,w5,w6⟩:=wt;simp only[Dx,Ef,Gu] at hn;omega
   refine aN (B:=S H2) ⟨_,rfl,u,t,rfl,hu,k7,λH3 s3=>?_⟩;have s13:=(s1.trans s2).trans s3;refine⟨_,rfl,a,C,dx,_,rfl,hC,s13 _ _ ha,rfl,_,rfl,.ref a,u,n,f,t,rfl,hv.same s13,aQ.same s3 hu,htm,λw H4 s4 hw4=>?_⟩;refine⟨w,[(f t).a,(f t).b,(f t).c],rfl,hw4,by show 3<=3;omega,hn,λH5 s5=>⟨_,_,rfl,rfl,?_,kk _ _ ⟨(s3.trans s4).trans s5,.str _⟩⟩⟩;have l1:=qZ k7;have l2:=iy (ns:=[(f t).a,(f t).b,(f t).c]) (by show 3<=3;omega) hn;exact Dt (Gw l1 l2) (by decide)
  have e:=jV hzs;subst e;generalize e0:upd H2 Z _=H3;have s3:=s2.trans (dG hZ e0);have g3:=cT e0;clear e0;have s13:=s1.trans s3;refine⟨rfl,_,rfl,a,C,dx,_,_,rfl,hC,s13 _ _ ha,rfl,n,rfl,h7,mi,λY hY=>?_⟩;generalize e0:upd H3 Y _=H4;have s4:=dG hY e0;have g4:=cT e0;clear e0;refine⟨_,rfl,Y,Z,_,_,rfl,rfl,g4,s4 _ _ g3,?_,λW hW=>?_⟩
  ·rw[Dh,Dh];exact Dt (show 1+(aG n).length<=344 by omega) (by decide)
  generalize e0:upd H4 W _=H5;have s5:=dG hW e0;have g5:H5 W=some (.lst ((nX n::(aG n).map λt=>tH t++vW [(f t).a,(f t).b,(f t).c]).map V.str)):=cT e0;refine⟨_,W,_,rfl,rfl,bj.of g5,Bm (B:=130) (λx hx=>?_) (by decide) ?_,q _ ((s13.trans s4).trans s5)⟩
  ·rcases Dx.mp hx with rfl|hx
   ·have hl:=j_ (n:=(n:Int)) (by omega);unfold nX;rw[FI];have:G4 "knots "=6:=by decide
    omega
   ·obtain⟨t,ht,rfl⟩:=EH.mp hx;have k7:t∈aG 7:=by
     have:=bM.mp ht;exact bM.mpr (by omega)
    have wt:=hw t ht;have l1:=qZ k7;have l2:=iy (ns:=[(f t).a,(f t).b,(f t).c]) (by show 3<=3;omega) λn hn=>by
     obtain⟨w1,w2,w3,w4,w5,w6⟩:=wt;simp only[Dx,Ef,Gu] at hn;omega
    rw[FI];omega
  ·rw[Et,Dh];omega
theorem cz:az ["text","first","rows","knots","places"] uB4 (ai fV):=dX
theorem yy {row:Str}{t:Kn}{r:R3}(h:nW row t=some r):r.Wt:=by
 unfold nW at h
 split at h
 ·split at h
  ·split at h
   ·next hw=>
    cases h;obtain⟨r,er,b1,b2,b3⟩:=At hw;cases er;exact⟨b1.1,b1.2,b2.1,b2.2,b3.1,b3.2⟩
   ·cases h
  ·cases h
 ·cases h
theorem oJ {α β:Type}[BEq α][LawfulBEq α]:∀ {ks:List α}{rs:List β}{i:Nat}{t:α}{r:β},ks.Pairwise (·≠·)->ks[i]?=some t->rs[i]?=some r->(ks.zip rs).lookup t=some r
 |[],_,_,_,_,_,h,_=>by simp at h
 |_::_,[],_,_,_,_,_,h=>by simp at h
 |k::ks,r'::rs,0,t,r,_,h1,h2=>by
  simp at h1 h2;subst h1 h2;simp[GM]
 |k::ks,r'::rs,i+1,t,r,nd,h1,h2=>by
  cases nd with
  |cons nd1 nd2=>
  have h1:ks[i]?=some t:=by simpa using h1
  have ne:t≠k:=(nd1 t (DF h1)).symm;have:(t==k)=false:=ET.mpr ne;simp only[List.zip_cons_cons,GM,this];exact oJ nd2 h1 (by simpa using h2)
def wg (n:Nat)(rows:List Str):Prop:=∀ (i:Nat) (row:Str) (t:Kn),rows[i]?=some row->(aG n)[i]?=some t->(j9 (fw row t)).all cY=true->∃ ns,cS (fw row t)=some ns
inductive la (K:Dd)(vs:List V)(H:Hp)(Q:VK)(E:XK):Prop
 |mk (v:V) (_:vs=[v]) (_:((tS K H v/\Rz K 10 H E)\/∃ (text first:Str) (rows:List Str),v=.str text/\text.length<=900/\Fq text "\n"=first::rows/\((∀ n:Nat,2<=n->n<=7->first≠nX n)->Rz K 10 H E)/\∀ n:Nat,2<=n->n<=7->first=nX n->(rows.length≠n^3->Rz K 10 H E)/\(rows.length=n^3->wg n rows/\(∀ (i:Nat) (row:Str) (t:Kn),rows[i]?=some row->(aG n)[i]?=some t->nW row t=none->Rz K 10 H E)/\∀ f:Kn->R3,(∀ (i:Nat) (row:Str) (t:Kn),rows[i]?=some row->(aG n)[i]?=some t->nW row t=some (f t))->xD n f->∀ (g C dx L:Du) (H':Hp),ae H H'->bf K "Grid" C->H' g=some (.ins C dx [("knots",.int n),("table",.ref L)])->Gr K H' n f L->Q (.ref g) H')))
theorem ke (T:c6 K mg w):dA P w K mg base (cC P w) 8 "grid_read" uB4 [] (la K):=by
  refine T.x1r.calX cz (bb:=λ_ _ _ _ _ H vs Q E hr h=>?_);obtain⟨v,rfl,h⟩:=h;refine⟨_,(cE.go (af (iF (b8 bx rfl (cW T) (hr.mono (by decide)) rfl (aB (ar 0))))
   (af (nJ (dw EB Fo Gz iT (ar 0) (aB ao)) (vB (K:=K) rfl rfl (a_ (aq 1 cz.nd) (a_ (aq 2 cz.nd) di))))
   (af (aE 3 cz.nd (b8 bx rfl (jN T) (hr.mono (by decide)) rfl (aB (ar 1))))
   (af (aE 4 cz.nd (aj aU (fc T) hr (aB (ar 3))))
   (af (aM (aH gO (am (dM (K:=K) rfl) (by rfl) T.x3 bU (aB (ar 2))) (am (dM (K:=K) rfl) (by rfl) T.x3 bU (aB (ar 4))) (aS _)) (ag (bW (K:=K) rfl bx rfl rfl rfl (cX T.x1 (i:=10) rfl) (aB ao))) aD)
   (ag (au (eR (K:=K) rfl aU (dc T) (hr.mono (by decide)) rfl (aL (ar 3) (qv rfl rfl rfl uB rfl hr.u1 (qO (K:=K) rfl rfl T.xf (aL (ar 4) (ar 2))) (jW (by decide +kernel) (by rfl)) (mL (ts:=["place","row"]) (cs:=[]) (js:=[]) (k:=2) (by rfl) rfl rfl) (λ_ _ _ _ _=>(m_ (K:=K) (n:=2) rfl rfl (a_ (aq 0 (show KO (α:=Str) ["place","row"] by decide +kernel)) (a_ (aq 1 (show KO (α:=Str) ["place","row"] by decide +kernel)) di)))) (λ_ _ _ _ _=>aI) (λ_ _ _ _ _=>(ar 0)) (λ_ _ _ _ _=>(vK (jE T) (hr.mono (by decide)) rfl (aL (ar 1) (ar 0))))))))))))))),?_⟩
  rcases h with ⟨nt,qz⟩|⟨text,first,rows,rfl,hz,hsp,qk,h⟩
  ·exact⟨_,rfl,v,rfl,.inr ⟨nt,qz.out (ae.refl _)⟩⟩
  refine⟨_,rfl,.str text,rfl,.inl ⟨text,rfl,?_⟩⟩;refine⟨_,rfl,rfl,text,"\n",rfl,rfl,rfl,Dt (show text.length+2<=902 by omega) (by decide),λL0 hL0=>?_⟩;rw[hsp];generalize e0:upd H L0 _=H1;have s1:=dG hL0 e0;have g1:=cT e0;clear e0;have lr:rows.length<=902:=by
   have:=eB text "\n";rw[hsp,Et] at this;omega
  refine⟨L0,.str first,rows.map V.str,rfl,bj.of g1,by rw[Dh];omega,λR0 hR0=>⟨_,_,rfl,_,_,rfl,rfl,?_⟩⟩;generalize e0:upd H1 R0 _=H2;have s2:=s1.trans (dG hR0 e0);have g2:=cT e0;clear e0 g1;refine⟨_,rfl,first,rfl,λn n2 n7 hf=>?_,λhf=>(qk hf).out s2⟩;obtain⟨hlen,hgo⟩:=h n n2 n7 hf;refine⟨_,rfl,n,rfl,n7,λP ps H3 s3 hP hps=>?_⟩;have lp:=hps.length;rw[Dh,cn] at lp;have g3:=s3 _ _ g2;refine⟨_,rfl,R0,_,rfl,.inl (bj.of g3),_,rfl,P,_,rfl,.inl (bj.of hP),_,_,rfl,rfl,?_⟩;have el:((rows.map V.str).length:Int)=rows.length:=by rw[Dh]
  rw[el]
  by_cases hr:rows.length=n^3
  rotate_left
  ·refine⟨true,?_,aN ⟨mi,(hlen hr).now (s2.trans s3) rfl⟩⟩;show V.bl (!decide ((rows.length:Int)=(ps.length:Int)))=_;rw[DR (by omega)];rfl
  refine⟨false,by show V.bl (!decide ((rows.length:Int)=(ps.length:Int)))=_;rw[DE (by omega)];rfl,aO ?_⟩;obtain⟨ok,qz,q⟩:=hgo hr;have few:(aG n).length<=343:=by
   rw[cn];exact Hr n7 3
  let f:Kn->R3:=λt=>(((aG n).zip rows).lookup t).elim ⟨0,0,0⟩ λrow=>(nW row t).getD ⟨0,0,0⟩
  have hf:∀ (i:Nat) (row:Str) (t:Kn),rows[i]?=some row->(aG n)[i]?=some t->f t=(nW row t).getD ⟨0,0,0⟩:=λi row t h1 h2=>by
   show(((aG n).zip rows).lookup t).elim _ _=_;rw[oJ (kM n7) h2 h1];rfl
  clear_value f
  refine⟨_,rfl,_,rfl,_,rfl,P,R0,true,true,rfl,⟨_,bj.of hP⟩,⟨_,bj.of g3⟩,λD hD=>?_⟩;refine tG (xs:=ps) (ys:=rows.map V.str) (λi H'=>ae H3 H'/\mC K H' ((aG n).take i) f D/\∀ (j:Nat) (row:Str) (t:Kn),j<i->rows[j]?=some row->(aG n)[j]?=some t->nW row t=some (f t)) ⟨ae.new hD,⟨[],ac,.nil⟩,λj _ _ z=>absurd z (Nat.not_lt_zero _)⟩ (by rw[Dh];omega) (λi H' p=>⟨bj.of (p.1 _ _ hP),bj.of (p.1 _ _ g3)⟩) (λi x y T H4 ex ey p hT R kk S=>?_) (λH4 p=>?_)
  ·obtain⟨s4,⟨ws,e4,hws⟩,al⟩:=p;obtain⟨dd,ed,hd⟩:=hps.get ex;rw[Dp] at ed ey;obtain⟨t,et,rfl⟩:=DA.mp ed;obtain⟨row,er,rfl⟩:=DA.mp ey;have htm:=DF et;have fresh:t∉(aG n).take i:=λz=>by
    obtain⟨j,hj,ej⟩:=ER z;rw[Ei] at hj;rw[JB] at ej;obtain⟨hi,ei⟩:=DH.mp et;exact Hd.mp (kM n7) j i (by omega) hi (by omega) (ej.trans ei.symm)
   generalize e0:upd H4 T _=H5;have s5:=dG hT e0;have g5:=cT e0;clear e0;have hx5:=aQ.same (s4.trans s5) hd;obtain⟨ka,rfl,hka⟩:=rO hx5;have hrl:row.length<=900:=by
    have m:row∈Fq text "\n":=by rw[hsp];exact Do _ (DF er)
    exact Dt (c5 row m) hz
   have s25:=(s2.trans s3).trans (s4.trans s5);refine⟨T,_,rfl,f7.of g5,rfl,_,_,rfl,_,_,rfl,rfl,aN (B:=S H5) ⟨_,rfl,_,rfl,_,rfl,row,.ref ka,t,rfl,hx5,Ak n7 htm,hrl,ok i row t er et,λhw=>(qz i row t er et hw).out s25,λr hr v H6 s6 hv=>?_⟩⟩;have ef:f t=r:=by rw[hf i row t er et,hr];rfl
   have s46:=s5.trans s6;refine⟨_,bH t,ka,s46 _ _ e4,rfl,by rw[uA];exact s6 _ _ hka,by rw[kI (mC.len hws),Ei];exact bP (by omega),kk _ ⟨uu (s4.trans s46) hD,?_,λj row' t' hj h1 h2=>?_⟩⟩
   ·rw[c7 et];exact mC.more (s46 _ _ e4) (aw.same s46 hws) fresh (by rw[ef];exact hv)
   ·by_cases z:j=i
    ·subst z;rw[er] at h1;rw[et] at h2;cases h1;cases h2;rw[ef];exact hr
    ·exact al j row' t' (by omega) h1 h2
  ·obtain⟨s4,g4,al⟩:=p;have lk:ps.length=(aG n).length:=by rw[cn];omega
   rw[lk,EM (Dn _)] at g4;have all_:∀ (i:Nat) (row:Str) (t:Kn),rows[i]?=some row->(aG n)[i]?=some t->nW row t=some (f t):=λi row t h1 h2=>al i row t (by rw[lk];exact(DH.mp h2).1) h1 h2
   have wt:xD n f:=λt ht=>by
    obtain⟨i,hi,ei⟩:=ER ht;have e1:(aG n)[i]?=some t:=by rw[DB hi,ei]
    have hi':i<rows.length:=by rw[hr,<- cn];exact hi
    exact yy (all_ i rows[i] t (DB hi') e1)
   refine λC g dx hC hg hdx hne=>?_
   generalize e0:upd (upd H4 dx _) g _=H5;have s5:=yA hg hdx hne e0;have gv:=cT e0;refine⟨g,C,dx,D,n,f,rfl,hC,gv,⟨_,.refl _,g4.same s5⟩,wt,n2,n7,λH6 L mv6 hg6 gL hL=>⟨rfl,?_⟩⟩;have s6:ae H4 H6:=λb o e=>mv6 _ _ (s5 _ _ e) (λz=>by rw[DC.mp z,hg] at e;cases e)
   exact q f all_ wt g C dx L H6 (((s2.trans s3).trans s4).trans s6) hC hg6 gL
theorem lv:az ["curve"] ["curve"] (ai eT):=dX
def AE (K:Dd)(H:Hp)(v:V):Prop:=(∃ d,aQ K H d v)\/∃ a C dx fs,v=.ref a/\(bf K "Grid" C\/bf K "JoinedCurve" C)/\H a=some (.ins C dx fs)
def CV (ps:List Pt):Str:=KP ", " (ps.map λp=>vW [p.1,p.2])
inductive jx (K:Dd)(vs:List V)(H:Hp)(Q:VK)(E:XK):Prop
 |mk (v:V) (_:vs=[v]) (_:((∃ ps,bX K H ps v/\vS ps/\∀ H',ae H H'->Q (.str (CV ps)) H')\/(AE K H v/\Rz K 2 H E)))
theorem jB (T:c6 K mg w):dA P w K mg base (cC P w) 2 "curve_text" ["curve"] [] (jx K):=by
  refine T.x1s.calX lv (bb:=λ_ _ _ _ _ H vs Q E hr h=>?_);obtain⟨v,rfl,h⟩:=h;refine⟨_,(cE.go (af (aM (aY (bd (am (br.or (qf (K:=K) (x:="Curve") (y:="Grid") rfl T.x2 T.x7 T.x5 T.xb T.x12) (qf (K:=K) (x:="Curve") (y:="JoinedCurve") rfl T.x2 T.x7 T.xa T.xw T.x13)) (by rfl) T.x0 ax (aL (ar 0) (bJ (K:=K) (x:="Curve") rfl rfl (gj T.x2)))))) (ag (bW (K:=K) rfl bx rfl rfl rfl (cX T.x1 (i:=2) rfl) (aB ao))) aD)
   (ag (au (dw EB GN GO (jU (K:=K) rfl) ao (aB (aP ["point"] [] [] 1 (bG (K:=K) rfl (bZ (K:=K) (x:="Curve") rfl T.x2 (.head _) (ar 0))) (λnd=>(aq 0 nd)) aI (aj aU (cR T) hr (aB (ar 0)))))))))),?_⟩
  rcases h with ⟨ps,hv,hp,q⟩|⟨⟨d,hd⟩|⟨a,C,dx,fs,rfl,hC|hC,ha⟩,qz⟩
  ·obtain⟨a,C,dx,l,rfl,hC,ha,hl⟩:=id hv;refine⟨_,rfl,λD hD=>?_⟩;cases bu hD hC;refine .inl ⟨_,_,rfl,hC,.inl ⟨a,dx,_,rfl,ha,_,rfl,aO ?_⟩⟩;obtain⟨l',xs,el,hl',hxs⟩:=b9 (b:=true) hl;cases el;have few:=hp.few;refine⟨rfl,_,rfl,a,C,dx,_,_,rfl,hC,ha,rfl,l,true,rfl,⟨_,hl'⟩,bL (b:=true) (es:=(ps.map λp=>vW [p.1,p.2]).map Gx) hl' hxs (by simp) (by rw[Dh];omega) (λj dj ej u H2 hdj hej s2 hu R kk S=>?_) (λzs H2 s2 hzs Z hZ=>?_)⟩
   ·rw[Dp] at hdj hej;rw[Dp] at hej;obtain⟨p,ep,rfl⟩:=DA.mp hdj;rw[ep] at hej;cases hej;have ip:=hp.inn p (DF ep);have:=ip.a1;have:=ip.a2;have:=ip.b1;have:=ip.b2;refine aN (B:=S H2) ⟨_,rfl,u,[p.1,p.2],rfl,hu,by show 2<=3;omega,λn hn=>?_,λH3 s3=>kk _ _ ⟨s3,.str _⟩⟩;simp only[Dx,Ef,Gu] at hn;omega
   ·have e:=jV hzs;subst e;refine⟨_,Z,_,rfl,rfl,bj.of ac,Bm (B:=60) (λt ht=>?_) (by decide) (by rw[Dh];omega),q _ (s2.trans (ae.new hZ))⟩;obtain⟨p,hm,rfl⟩:=EH.mp ht;have ip:=hp.inn p hm;have:=ip.a1;have:=ip.a2;have:=ip.b1;have:=ip.b2;refine iy (by show 2<=3;omega) λn hn=>?_
    simp only[Dx,Ef,Gu] at hn;omega
  ·exact⟨_,rfl,λD hD=>.inl ⟨_,_,rfl,hD,.inr (.inl ⟨_,hd.ty,uY,_,rfl,aN ⟨mi,qz.now (ae.refl _) rfl⟩⟩)⟩⟩
  ·exact⟨_,rfl,λD hD=>.inl ⟨_,_,rfl,hD,.inr (.inr ⟨a,C,dx,fs,rfl,hC,ha,_,rfl,aN ⟨mi,qz.now (ae.refl _) rfl⟩⟩)⟩⟩
  ·exact⟨_,rfl,λD hD=>.inr ⟨_,_,rfl,hD,.inr (.inr ⟨a,C,dx,fs,rfl,hC,ha,_,rfl,aN ⟨mi,qz.now (ae.refl _) rfl⟩⟩)⟩⟩
theorem gM:az ["text","points"] uB4 (ai eZ):=dX
inductive jK (K:Dd)(vs:List V)(H:Hp)(Q:VK)(E:XK):Prop
 |mk (v:V) (_:vs=[v]) (_:((tS K H v/\Rz K 10 H E)\/∃ (text:Str) (nss:List (List Int)),v=.str text/\text.length<=900/\(Fq text ", ").mapM cS=some nss/\ud (.list (nss.map λns=>.tuple (ns.map Eo)))=false/\Rz K 10 H E))
theorem jL (T:c6 K mg w):dA P w K mg base (cC P w) 8 "curve_read" uB4 [] (jK K):=by
  refine T.x1t.calX gM (bb:=λ_ _ _ _ _ H vs Q E hr h=>?_);obtain⟨v,rfl,h⟩:=h;refine⟨_,(cE.go (af (iF (b8 bx rfl (cW T) (hr.mono (by decide)) rfl (aB (ar 0))))
   (af (bV 1 ["point"] [] [] 1 gM.nd (bG (K:=K) rfl (dw EB Fo Gz iT (ar 0) (aB ao))) (λnd=>(aq 0 nd)) aI (aj aU (jJ T) hr (aB (ar 0))))
   (af (aM (aY (bd (aj aU (kK T) hr (aB (ar 1))))) (ag (bW (K:=K) rfl bx rfl rfl rfl (cX T.x1 (i:=10) rfl) (aB ao))) aD)
   (ag (au (eR (K:=K) rfl aU (bI T) (hr.mono (by decide)) rfl (aB (ar 1))))))))),?_⟩
  rcases h with ⟨nt,qz⟩|⟨text,nss,rfl,hz,hm,hp,qz⟩
  ·exact⟨_,rfl,v,rfl,.inr ⟨nt,qz.out (ae.refl _)⟩⟩
  refine⟨_,rfl,.str text,rfl,.inl ⟨text,rfl,?_⟩⟩;refine⟨_,rfl,rfl,text,", ",rfl,rfl,rfl,Dt (show text.length+2<=902 by omega) (by decide),λL hL=>?_⟩;generalize e0:upd H L _=H1;have s1:=dG hL e0;have g1:H1 L=some (.lst ((Fq text ", ").map V.str)):=cT e0;clear e0;have lw:=eB text ", ";have hg:=il hm;refine⟨L,true,rfl,⟨_,bj.of g1⟩,bL (b:=true) (ds:=(Fq text ", ").map Gx) (es:=nss.map λns=>.tuple (ns.map Eo)) (bj.of g1) (ge _) (by rw[Dh,Dh];exact hg.1) (by rw[Dh];omega) (λj dj ej u H2 hdj hej s2 hu R kk S=>?_) (λzs H2 s2 hzs D hD=>?_)⟩
  ·rw[Dp] at hdj hej;obtain⟨x,en,rfl⟩:=DA.mp hdj;obtain⟨ns,em,rfl⟩:=DA.mp hej;cases hu;have hl:=c5 x (DF en);exact aN (B:=S H2) ⟨_,rfl,x,ns,rfl,by omega,hg.2 j x ns en em,λv H3 s3 hv=>kk _ _ ⟨s3,hv⟩⟩
  ·generalize e0:upd H2 D _=H3;have s3:=s2.trans (dG hD e0);have g3:aQ K H3 (.list (nss.map λns=>.tuple (ns.map Eo))) (.ref D):=.lst (.inl (cT e0)) (aw.same (dG hD e0) hzs);refine⟨_,rfl,.ref D,_,rfl,g3,λH4 s4=>⟨_,rfl,?_⟩⟩;rw[hp];exact aN ⟨mi,qz.now ((s1.trans s3).trans s4) rfl⟩
theorem nc:az uA5 uA5 (ai fF):=dX
inductive nC (K:Dd)(vs:List V)(H:Hp)(Q:VK)(_:XK):Prop
 |mk (a:Du) (ns:List Int) (_:vs=[.ref a]) (_:bj K H a (ns.map V.int)) (_:ns.length<=63) (_:∀ t r H',ae H H'->H t=none->H r=none->bv H' t r->Q (.ref t) H')
theorem m9 (T:c6 K mg w):dA P w K mg base (cC P w) 1 "_law_town" uA5 [] (nC K):=by
  refine T.x1u.cal nc (bb:=λ_ _ _ _ _ H vs Q E hr h=>?_);obtain⟨a,ns,rfl,hS,hl,q⟩:=h;refine⟨_,(cE.go (ag (au (aX (aL (dY (aH (wU (K:=K) rfl hr.units) (ar 0) (aX aV) (aS _)) (bE (pR (K:=K) rfl) (by rfl) T.x8 iQ (aB (ar 0))) (aX (aB ah))) ah))))),?_⟩;refine⟨_,rfl,by decide,λp hp=>⟨a,p,ns,rfl,rfl,(ae.new hp).seq hS,ac,_,rfl,?_⟩⟩;have s1:ae H (upd H p (.lst [])):=ae.new hp
  by_cases hn:ns=[]
  ·rw[DE hn];refine aO ⟨by decide,λr hr=>⟨pY,λt ht=>?_⟩⟩;have s2:=s1.trans (ae.new (o:=.lst [.int 0]) hr);exact q t r _ (s2.trans (ae.new ht)) (s2.free ht) (s1.free hr) ⟨[0],0,ac,by rw[ap (aK ac ht)];exact ac,by decide,by decide⟩
  ·rw[DR hn];refine aN ⟨_,rfl,a,ns.map V.int,rfl,.inl (s1.seq hS),λr hr=>⟨pY,λt ht=>?_⟩⟩;have s2:=s1.trans (ae.new (o:=.lst (ns.map V.int)) hr);exact q t r _ (s2.trans (ae.new ht)) (s2.free ht) (s1.free hr) ⟨ns,0,ac,by rw[ap (aK ac ht)];exact ac,hn,hl⟩
theorem bY:az ["_law_town_here","_law_many","_law_row","_law_at","_law_cell","_law_mixed"] uB1 (ai fC):=dX
inductive nA (_:Dd)(vs:List V)(H:Hp)(Q:VK)(_:XK):Prop
 |mk (t r:Du) (many:Int) (_:vs=[.ref t,.int many]) (_:bv H t r) (_:0<many) (_:Sm 8000 many) (_:∀ (d:Int) (H':Hp),0<=d->d<many->bv H' t r->Mv [t,r] H H'->Q (.int d) H')
theorem bc (T:c6 K mg w):dA P w K mg base (cC P w) 1 "_law_draw" uB1 [] (nA K):=by
  refine T.x1v.cal bY (bb:=λ_ _ _ _ _ H vs Q E hr h=>?_);obtain⟨t,r,many,rfl,tw,hm,sm,q⟩:=h;have htr:=tw.ne;obtain⟨cells,k,ht,hw,hne,hlen⟩:=tw;refine⟨_,(cE.go (af (aE 2 bY.nd (aZ K (ar 0) ah))
   (af (nJ (aA ce (aZ K (ar 0) ah) ah) (q_ (ar 0) ah oF))
   (af (aE 3 bY.nd (aA h_ (aZ K (ar 0) ah) (am (dM (K:=K) rfl) (by rfl) T.x3 bU (aB (ar 2)))))
   (af (aE 4 bY.nd (aZ K (ar 2) (ar 3)))
   (af (aM (aH Aw (ar 4) ah (aS _)) (af (nJ (aA eI (ar 4) (ar 1)) (q_ (ar 2) (ar 3) oF))
   (ag (au (aA h_ (ar 4) (ar 1))))) aD)
   (af (aE 5 bY.nd (aA h_ (aA ce (ar 4) (aA cM ah (aZ K (ar 0) ah))) ah))
   (af (aE 5 bY.nd (aA h_ (aA vQ (ar 5) ah) ah))
   (ag (au (aA h_ (aA eI (aA h_ (aA ce (aA cM (aA eI (ar 5) ah) ah) (ar 5)) ah) ah) (ar 1)))))))))))),?_⟩
  have nz:0<cells.length:=Lf.mpr hne;have hw1:∀ o,upd H t o r=some (.lst (cells.map V.int)):=λo=>by rw[ap htr.symm];exact hw
  refine⟨_,rfl,yR ht ?_⟩;refine⟨_,rfl,qy ht ⟨_,_,rfl,rfl,_,rfl,t,_,1,1,rfl,rfl,ht,rfl,?_⟩⟩;refine⟨_,rfl,qy (x:=.ref r) (y:=.int (k+1)) ac ⟨_,rfl,r,cells.map V.int,rfl,.inl (bj.of (hw1 _)),_,_,rfl,rfl,?_,?_⟩⟩
  ·show(0:Int)<((cells.map V.int).length:Int);rw[Dh];omega
  have e0:((cells.map V.int).length:Int)=(cells.length:Int):=by rw[Dh]
  obtain⟨j,hj⟩:∃ j:Nat,(k+1)%((cells.map V.int).length:Int)=(j:Int):=⟨_,(Int.toNat_of_nonneg (GK _ (by omega))).symm⟩
  have hjl:j<cells.length:=by
   have:=FY (k+1) (show 0<((cells.map V.int).length:Int) by omega);omega
  simp only[hj];refine⟨_,rfl,_,rfl,.inl ⟨r,_,_,.int cells[j],rfl,rfl,bj.of (hw1 _),eX (by simp[hjl]),?_⟩⟩;generalize cells[j]=c;refine⟨_,rfl,_,_,rfl,rfl,_,rfl,?_⟩;refine ib (λhc=>?_) (λhc=>?_)
  ·refine⟨_,rfl,_,rfl,_,_,rfl,rfl,⟨by omega,sm⟩,_,rfl,_,rfl,r,_,_,j,rfl,rfl,hw1 _,?_,?_⟩
   ·rw[Dh];unfold tI;rw[Ee (show(0:Int)<=(j:Int) by omega),Ee (show(j:Int)<(cells.length:Int) by omega)];rfl
   refine⟨_,rfl,_,rfl,_,_,rfl,rfl,hm,?_⟩;refine q _ _ (GK _ (by omega)) (FY _ hm) ⟨cells.set j (c.fdiv many),k+1,?_,?_,?_,?_⟩ ?_
   ·rw[ap htr];exact ac
   ·rw[ac,List.map_set]
   ·intro z;have:=FS Le z;rw[Kz] at this;exact absurd this (by rw[IJ];omega)
   ·rw[Kz];exact hlen
   ·exact(Mv.upd (by simp)).trans (Mv.upd (by simp))
  ·refine⟨_,rfl,_,rfl,qy (x:=.ref r) (y:=.int (k+1)) ac ⟨_,_,rfl,rfl,.inr (by unfold Sm;decide),_,_,rfl,rfl,_,_,rfl,rfl,(by show(0:Int)<4294967291;decide),?_⟩⟩;dsimp only;have b1:=GK (c+104729*(k+1)) (show(4294967291:Int)≠0 by decide);have b2:=FY (c+104729*(k+1)) (show(0:Int)<4294967291 by decide);generalize (c+104729*(k+1))%4294967291=m1 at b1 b2 ⊢;refine⟨_,rfl,_,_,rfl,rfl,⟨by decide,by decide,by omega⟩,_,_,rfl,rfl,(by show(0:Int)<4294967279;decide),?_⟩;dsimp only;have b3:=GK (m1^(5:Int).toNat) (show(4294967279:Int)≠0 by decide);have b4:=FY (m1^(5:Int).toNat) (show(0:Int)<4294967279 by decide);generalize m1^(5:Int).toNat%4294967279=m2 at b3 b4 ⊢;have b5:Sm 64 (m2.fdiv 64):=by
    rw[IY _ (by decide)];unfold Sm;omega
   refine⟨_,rfl,_,_,rfl,rfl,⟨by decide,by unfold Sm;decide⟩,_,_,rfl,rfl,.inr b5,_,rfl,_,_,rfl,rfl,_,_,rfl,rfl,(by show(0:Int)<4294967231;decide),_,_,rfl,rfl,⟨by decide,by unfold Sm;decide⟩,_,rfl,_,_,rfl,rfl,hm,?_⟩;exact q _ _ (GK _ (by omega)) (FY _ hm) ⟨cells,k+1,ac,hw1 _,hne,hlen⟩ (Mv.upd (by simp))
theorem mH:az uA6 uA6 (ai fJ):=dX
inductive mP (K:Dd)(vs:List V)(H:Hp)(Q:VK)(_:XK):Prop
 |mk (t r p:Du) (xs:List V) (_:vs=[.ref t,.ref p]) (_:bv H t r) (_:H p=some (.lst xs)) (_:p≠t) (_:p≠r) (_:xs≠[]) (_:xs.length<=1000) (_:∀ (i:Nat) (v:V) (H':Hp),xs[i]?=some v->bv H' t r->Mv [t,r] H H'->Q v H')
theorem iH (T:c6 K mg w):dA P w K mg base (cC P w) 2 "_law_pick" uA6 [] (mP K):=by
  refine T.x1w.cal mH (bb:=λ_ _ _ _ _ H vs Q E hr h=>?_);obtain⟨t,r,p,xs,rfl,tw,hp,n1,n2,hne,hl,q⟩:=h;refine⟨_,(cE.go (ag (au (aZ K (ar 1) (aj aU (bc T) hr (aL (ar 0) (am (dM (K:=K) rfl) (by rfl) T.x3 bU (aB (ar 1))))))))),?_⟩;have nz:0<xs.length:=Lf.mpr hne;refine⟨_,rfl,_,rfl,_,rfl,p,xs,rfl,.inl (bj.of hp),t,r,_,rfl,tw,by omega,?_,λd H' h0 h1 tw' mv=>?_⟩
  ·refine Sm.mono (k:=64) ?_ (by decide);unfold Sm;omega
  obtain⟨j,rfl⟩:=HE h0;have hj:j<xs.length:=by omega
  exact .inl ⟨p,xs,_,xs[j],rfl,rfl,bj.of (mv p _ hp (by simp[n1,n2])),eX (by simp[hj]),q j _ _ (by simp[hj]) tw' mv⟩
theorem bB:az ["_law_caught","_law_kinds","_law_words"] ["_law_caught"] (ai de):=dX
inductive jM (K:Dd)(vs:List V)(H:Hp)(Q:VK)(_:XK):Prop
 |mk (v:V) (i:Nat) (x:Str) (_:vs=[v]) (_:Bb K H i v) (_:fS[i]?=some x) (_:∀ H',ae H H'->Q (.str x) H')
theorem pp {i:Nat}(h:i<11):([V.bl (i==0),V.bl (i==1),V.bl (i==2)]++[V.bl (i==3),V.bl (i==4),V.bl (i==5)]++[V.bl (i==6),V.bl (i==7),V.bl (i==8)]++[V.bl (i==9),V.bl (i==10)]).countP (λz=>L2.eqV z (V.bl true))=1:=by
 match i,h with
 |0,_=>rfl
 |1,_=>rfl
 |2,_=>rfl
 |3,_=>rfl
 |4,_=>rfl
 |5,_=>rfl
 |6,_=>rfl
 |7,_=>rfl
 |8,_=>rfl
 |9,_=>rfl
 |10,_=>rfl
theorem oG {i:Nat} (h:i < 11):(∃ a,([V.bl (i == 0),V.bl (i == 1),V.bl (i == 2)] ++ [V.bl (i == 3),V.bl (i == 4),V.bl (i == 5)] ++ [V.bl (i == 6),V.bl (i == 7),V.bl (i == 8)] ++ [V.bl (i == 9),V.bl (i == 10)])[i]?=some a/\L2.eqV a (V.bl true)=true) /\
  ∀ m a,m<i->([V.bl (i==0),V.bl (i==1),V.bl (i==2)]++[V.bl (i==3),V.bl (i==4),V.bl (i==5)]++[V.bl (i==6),V.bl (i==7),V.bl (i==8)]++[V.bl (i==9),V.bl (i==10)])[m]?=some a->L2.eqV a (V.bl true)=false:=by
 have at':∀ m a,([V.bl (i==0),V.bl (i==1),V.bl (i==2)]++[V.bl (i==3),V.bl (i==4),V.bl (i==5)]++[V.bl (i==6),V.bl (i==7),V.bl (i==8)]++[V.bl (i==9),V.bl (i==10)])[m]?=some a->a=V.bl (i==m):=λm a e=>by
  match m,e with
  |0,e=>exact(Dm e).symm
  |1,e=>exact(Dm e).symm
  |2,e=>exact(Dm e).symm
  |3,e=>exact(Dm e).symm
  |4,e=>exact(Dm e).symm
  |5,e=>exact(Dm e).symm
  |6,e=>exact(Dm e).symm
  |7,e=>exact(Dm e).symm
  |8,e=>exact(Dm e).symm
  |9,e=>exact(Dm e).symm
  |10,e=>exact(Dm e).symm
  |m+11,e=>simp at e
 refine⟨⟨V.bl (i==i),?_,by simp[eqV]⟩,λm a hm e=>?_⟩
 ·match i,h with
  |0,_=>rfl
  |1,_=>rfl
  |2,_=>rfl
  |3,_=>rfl
  |4,_=>rfl
  |5,_=>rfl
  |6,_=>rfl
  |7,_=>rfl
  |8,_=>rfl
  |9,_=>rfl
  |10,_=>rfl
 ·rw[at' m a e,show(i==m)=false by simp;omega];rfl
theorem jG (T:c6 K mg w):dA P w K mg base (cC P w) 1 "_law_refusal" ["_law_caught"] [] (jM K):=by
  refine T.x1x.cal bB (bb:=λ_ _ _ _ _ H vs Q E hr h=>?_);obtain⟨v,i,x,rfl,⟨e,C,rfl,hk,hH⟩,hx,q⟩:=h;refine⟨_,(cE.go (af (aE 1 bB.nd (aX (aa (am (eD (K:=K) rfl) (by rfl) T.x0 ax (aL (ar 0) (bJ (K:=K) rfl rfl (bA T.x1 (i:=0) rfl)))) (aa (am (eD (K:=K) rfl) (by rfl) T.x0 ax (aL (ar 0) (bJ (K:=K) rfl rfl (bA T.x1 (i:=1) rfl)))) (aa (am (eD (K:=K) rfl) (by rfl) T.x0 ax (aL (ar 0) (bJ (K:=K) rfl rfl (bA T.x1 (i:=2) rfl)))) aV)))))
   (af (aE 1 bB.nd (aA fM (ar 1) (aX (aa (am (eD (K:=K) rfl) (by rfl) T.x0 ax (aL (ar 0) (bJ (K:=K) rfl rfl (bA T.x1 (i:=3) rfl)))) (aa (am (eD (K:=K) rfl) (by rfl) T.x0 ax (aL (ar 0) (bJ (K:=K) rfl rfl (bA T.x1 (i:=4) rfl)))) (aa (am (eD (K:=K) rfl) (by rfl) T.x0 ax (aL (ar 0) (bJ (K:=K) rfl rfl (bA T.x1 (i:=5) rfl)))) aV))))))
   (af (aE 1 bB.nd (aA fM (ar 1) (aX (aa (am (eD (K:=K) rfl) (by rfl) T.x0 ax (aL (ar 0) (bJ (K:=K) rfl rfl (bA T.x1 (i:=6) rfl)))) (aa (am (eD (K:=K) rfl) (by rfl) T.x0 ax (aL (ar 0) (bJ (K:=K) rfl rfl (bA T.x1 (i:=7) rfl)))) (aa (am (eD (K:=K) rfl) (by rfl) T.x0 ax (aL (ar 0) (bJ (K:=K) rfl rfl (bA T.x1 (i:=8) rfl)))) aV))))))
   (af (aE 1 bB.nd (aA fM (ar 1) (aX (aL (am (eD (K:=K) rfl) (by rfl) T.x0 ax (aL (ar 0) (bJ (K:=K) rfl rfl (bA T.x1 (i:=9) rfl)))) (am (eD (K:=K) rfl) (by rfl) T.x0 ax (aL (ar 0) (bJ (K:=K) rfl rfl (bA T.x1 (i:=10) rfl))))))))
   (af (aM (WW.pt (cG (aH gO (dw JT JV PySem.F.type_list_count tR (ar 1) (aB bQ)) ah (aS _)) (cG (aY (bd (am (eD (K:=K) rfl) (by rfl) T.x0 ax (aL (ar 0) (bJ (K:=K) rfl rfl (w_ T.x1)))))) (cy (aY (bd (am (eD (K:=K) rfl) (by rfl) T.x0 ax (aL (ar 0) (cu (v:=.ty "ValueError") rfl T.xz lM rfl))))))))) (ag (au ao)) aD)
   (af (aE 2 bB.nd (aX (aa ao (aa ao (aa ao (aa ao (aa ao (aa ao (aa ao (aa ao (aa ao (aa ao (aa ao aV)))))))))))))
   (ag (au (aZ K (ar 2) (dw JT JW PySem.F.type_list_index vD (ar 1) (aB bQ)))))))))))),?_⟩
  have R:=T.x1;obtain⟨_,_,_,_,_,tab⟩:=c9 R;have ex:=(tab i C hk).1;have hi:i<11:=(DH.mp hx).1;clear tab;refine⟨_,rfl,λD0 k0=>⟨e,C,_,_,_,rfl,hH,ex,.inl ⟨_,rfl,rfl⟩,cx R hk (j:=0) ⟨_,rfl,k0⟩,?_⟩⟩;refine⟨_,rfl,λD1 k1=>⟨e,C,_,_,_,rfl,hH,ex,.inl ⟨_,rfl,rfl⟩,cx R hk (j:=1) ⟨_,rfl,k1⟩,?_⟩⟩;refine⟨_,rfl,λD2 k2=>⟨e,C,_,_,_,rfl,hH,ex,.inl ⟨_,rfl,rfl⟩,cx R hk (j:=2) ⟨_,rfl,k2⟩,?_⟩⟩;refine⟨Aa,λl0 h0=>?_⟩;have z0:ae H (upd H l0 (.lst [V.bl (i==0),V.bl (i==1),V.bl (i==2)])):=ae.new h0;have g0:(upd H l0 (.lst [V.bl (i==0),V.bl (i==1),V.bl (i==2)])) l0=some (.lst [V.bl (i==0),V.bl (i==1),V.bl (i==2)]):=ac;have hH:=z0 _ _ hH;generalize upd H l0 (.lst [V.bl (i==0),V.bl (i==1),V.bl (i==2)])=G0 at z0 g0 hH ⊢;refine⟨_,rfl,?_⟩;refine⟨_,rfl,λD3 k3=>⟨e,C,_,_,_,rfl,hH,ex,.inl ⟨_,rfl,rfl⟩,cx R hk (j:=3) ⟨_,rfl,k3⟩,?_⟩⟩;refine⟨_,rfl,λD4 k4=>⟨e,C,_,_,_,rfl,hH,ex,.inl ⟨_,rfl,rfl⟩,cx R hk (j:=4) ⟨_,rfl,k4⟩,?_⟩⟩;refine⟨_,rfl,λD5 k5=>⟨e,C,_,_,_,rfl,hH,ex,.inl ⟨_,rfl,rfl⟩,cx R hk (j:=5) ⟨_,rfl,k5⟩,?_⟩⟩;refine⟨Aa,λm1 hm1=>?_⟩;have y1:ae G0 (upd G0 m1 (.lst [V.bl (i==3),V.bl (i==4),V.bl (i==5)])):=ae.new hm1;have f1:(upd G0 m1 (.lst [V.bl (i==3),V.bl (i==4),V.bl (i==5)])) m1=some (.lst [V.bl (i==3),V.bl (i==4),V.bl (i==5)]):=ac;have g0:=y1 _ _ g0;have hH:=y1 _ _ hH;generalize upd G0 m1 (.lst [V.bl (i==3),V.bl (i==4),V.bl (i==5)])=F1 at y1 f1 g0 hH ⊢;refine⟨l0,m1,_,_,rfl,rfl,g0,f1,by show 6<=Ds;decide,λl1 h1=>?_⟩;have x1:ae F1 (upd F1 l1 (.lst ([V.bl (i==0),V.bl (i==1),V.bl (i==2)]++[V.bl (i==3),V.bl (i==4),V.bl (i==5)]))):=ae.new h1;have g1:(upd F1 l1 (.lst ([V.bl (i==0),V.bl (i==1),V.bl (i==2)]++[V.bl (i==3),V.bl (i==4),V.bl (i==5)]))) l1=some (.lst ([V.bl (i==0),V.bl (i==1),V.bl (i==2)]++[V.bl (i==3),V.bl (i==4),V.bl (i==5)])):=ac;have hH:=x1 _ _ hH;have z1:=z0.trans (y1.trans x1);generalize upd F1 l1 (.lst ([V.bl (i==0),V.bl (i==1),V.bl (i==2)]++[V.bl (i==3),V.bl (i==4),V.bl (i==5)]))=G1 at x1 g1 hH z1 ⊢;refine⟨_,rfl,?_⟩;refine⟨_,rfl,λD6 k6=>⟨e,C,_,_,_,rfl,hH,ex,.inl ⟨_,rfl,rfl⟩,cx R hk (j:=6) ⟨_,rfl,k6⟩,?_⟩⟩;refine⟨_,rfl,λD7 k7=>⟨e,C,_,_,_,rfl,hH,ex,.inl ⟨_,rfl,rfl⟩,cx R hk (j:=7) ⟨_,rfl,k7⟩,?_⟩⟩;refine⟨_,rfl,λD8 k8=>⟨e,C,_,_,_,rfl,hH,ex,.inl ⟨_,rfl,rfl⟩,cx R hk (j:=8) ⟨_,rfl,k8⟩,?_⟩⟩;refine⟨Aa,λm2 hm2=>?_⟩;have y2:ae G1 (upd G1 m2 (.lst [V.bl (i==6),V.bl (i==7),V.bl (i==8)])):=ae.new hm2;have f2:(upd G1 m2 (.lst [V.bl (i==6),V.bl (i==7),V.bl (i==8)])) m2=some (.lst [V.bl (i==6),V.bl (i==7),V.bl (i==8)]):=ac;have g1:=y2 _ _ g1;have hH:=y2 _ _ hH;generalize upd G1 m2 (.lst [V.bl (i==6),V.bl (i==7),V.bl (i==8)])=F2 at y2 f2 g1 hH ⊢;refine⟨l1,m2,_,_,rfl,rfl,g1,f2,by show 9<=Ds;decide,λl2 h2=>?_⟩;have x2:ae F2 (upd F2 l2 (.lst (([V.bl (i==0),V.bl (i==1),V.bl (i==2)]++[V.bl (i==3),V.bl (i==4),V.bl (i==5)])++[V.bl (i==6),V.bl (i==7),V.bl (i==8)]))):=ae.new h2
  have g2:(upd F2 l2 (.lst (([V.bl (i==0),V.bl (i==1),V.bl (i==2)]++[V.bl (i==3),V.bl (i==4),V.bl (i==5)])++[V.bl (i==6),V.bl (i==7),V.bl (i==8)]))) l2=some (.lst (([V.bl (i==0),V.bl (i==1),V.bl (i==2)]++[V.bl (i==3),V.bl (i==4),V.bl (i==5)])++[V.bl (i==6),V.bl (i==7),V.bl (i==8)])):=ac;have hH:=x2 _ _ hH;have z2:=z1.trans (y2.trans x2);generalize upd F2 l2 (.lst (([V.bl (i==0),V.bl (i==1),V.bl (i==2)]++[V.bl (i==3),V.bl (i==4),V.bl (i==5)])++[V.bl (i==6),V.bl (i==7),V.bl (i==8)]))=G2 at x2 g2 hH z2 ⊢;refine⟨_,rfl,?_⟩;refine⟨_,rfl,λD9 k9=>⟨e,C,_,_,_,rfl,hH,ex,.inl ⟨_,rfl,rfl⟩,cx R hk (j:=9) ⟨_,rfl,k9⟩,?_⟩⟩;refine⟨_,rfl,λD10 k10=>⟨e,C,_,_,_,rfl,hH,ex,.inl ⟨_,rfl,rfl⟩,cx R hk (j:=10) ⟨_,rfl,k10⟩,?_⟩⟩;refine⟨pY,λm3 hm3=>?_⟩;have y3:ae G2 (upd G2 m3 (.lst [V.bl (i==9),V.bl (i==10)])):=ae.new hm3;have f3:(upd G2 m3 (.lst [V.bl (i==9),V.bl (i==10)])) m3=some (.lst [V.bl (i==9),V.bl (i==10)]):=ac;have g2:=y3 _ _ g2;have hH:=y3 _ _ hH;generalize upd G2 m3 (.lst [V.bl (i==9),V.bl (i==10)])=F3 at y3 f3 g2 hH ⊢;refine⟨l2,m3,_,_,rfl,rfl,g2,f3,by show 11<=Ds;decide,λl3 h3=>?_⟩;have x3:ae F3 (upd F3 l3 (.lst ((([V.bl (i==0),V.bl (i==1),V.bl (i==2)]++[V.bl (i==3),V.bl (i==4),V.bl (i==5)])++[V.bl (i==6),V.bl (i==7),V.bl (i==8)])++[V.bl (i==9),V.bl (i==10)]))):=ae.new h3;have g3:(upd F3 l3 (.lst ((([V.bl (i==0),V.bl (i==1),V.bl (i==2)]++[V.bl (i==3),V.bl (i==4),V.bl (i==5)])++[V.bl (i==6),V.bl (i==7),V.bl (i==8)])++[V.bl (i==9),V.bl (i==10)]))) l3=some (.lst ((([V.bl (i==0),V.bl (i==1),V.bl (i==2)]++[V.bl (i==3),V.bl (i==4),V.bl (i==5)])++[V.bl (i==6),V.bl (i==7),V.bl (i==8)])++[V.bl (i==9),V.bl (i==10)])):=ac;have hH:=x3 _ _ hH;have z3:=z2.trans (y3.trans x3);generalize upd F3 l3 (.lst ((([V.bl (i==0),V.bl (i==1),V.bl (i==2)]++[V.bl (i==3),V.bl (i==4),V.bl (i==5)])++[V.bl (i==6),V.bl (i==7),V.bl (i==8)])++[V.bl (i==9),V.bl (i==10)]))=G3 at x3 g3 hH z3 ⊢;have fl:((([V.bl (i==0),V.bl (i==1),V.bl (i==2)]++[V.bl (i==3),V.bl (i==4),V.bl (i==5)])++[V.bl (i==6),V.bl (i==7),V.bl (i==8)])++[V.bl (i==9),V.bl (i==10)]).all fg=true:=rfl;refine⟨_,rfl,.inl ⟨rfl,_,bj.of g3⟩,l3,_,_,rfl,rfl,g3,rfl,fl,_,_,rfl,rfl,_,rfl,?_⟩;rw[pp hi];refine aO ?_;refine⟨_,rfl,λDT kT=>⟨e,C,_,_,_,rfl,hH,ex,.inl ⟨_,rfl,rfl⟩,ua R hk kT,_,rfl,aO ?_⟩⟩;refine⟨_,rfl,e,C,_,_,_,rfl,hH,ex,.inr ⟨_,rfl,rfl⟩,uw R hk,_,rfl,aO ?_⟩;refine⟨by show 11<=Ds;decide,λwl hw=>?_⟩;obtain⟨hit,hno⟩:=oG hi;have zw:ae G3 (upd G3 wl (.lst (fS.map V.str))):=ae.new hw;have g3:=zw _ _ g3;refine⟨_,rfl,_,rfl,.inl ⟨rfl,_,bj.of g3⟩,l3,_,_,i,rfl,rfl,g3,rfl,fl,by show 11<=1000;decide,hit,hno,?_⟩;refine .inl ⟨wl,_,_,_,rfl,rfl,bj.of ac,eX (v:=V.str x) ?_,q _ (z3.trans zw)⟩;show(fS.map V.str)[i]?=some (.str x);rw[Dp,hx];rfl
theorem dI:az ["_law_one","_law_two","_law_a","_law_b"] uB6 (ai ic):=dX
inductive nY (K:Dd)(vs:List V)(H:Hp)(Q:VK)(_:XK):Prop
 |mk (t b:Int) (_:vs=[.int t,.int b]) (_:b≠0) (_:Sm 8000 b) (_:Sh K H t b Q)
theorem pN (T:c6 K mg w):dA P w K mg base (cC P w) 1 "_law_low" uB6 [] (nY K):=by
  refine T.x1y.cal dI (bb:=λ_ _ _ _ _ H vs Q E hr h=>?_);obtain⟨t,b,rfl,hb,sb,q⟩:=h;refine⟨_,(cE.go (af (aM (aH yd (ar 1) ah (aS _)) (ag (nU (i:=0) (j:=1) rfl dI.nd rfl rfl (by decide) rfl rfl (aL (aA kX ah (ar 0)) (aA kX ah (ar 1))) rfl)) aD)
   (af (nU (i:=2) (j:=3) rfl dI.nd rfl rfl (by decide) rfl rfl (aL (am (sw rfl) (by rfl) T.x11 zl (aL (ar 0) (aA kX ah (ar 0)))) (ar 1)) rfl)
   (af (rT FQ (aH rE (ar 3) ah (aS _)) (ag (nU (i:=2) (j:=3) rfl dI.nd rfl rfl (by decide) rfl rfl (aL (ar 3) (aA h_ (ar 2) (ar 3))) rfl)))
   (ag (au (cL (aL (aA eI (ar 0) (ar 2)) (aA eI (ar 1) (ar 2)))))))))),?_⟩
  have core:∃ t' b':Int,(b<0->t'=0-t/\b'=0-b)/\(¬ b<0->t'=t/\b'=b)/\0<b'/\Sm 8000 b'/\∀ n d,vH t' b' n d->vH t b n d:=by
   by_cases hc:b<0
   ·refine⟨0-t,0-b,λ_=>⟨rfl,rfl⟩,λz=>absurd hc z,by omega,by rw[Mb];exact sb.neg,λn d z=>⟨z.1,z.2.1,?_⟩⟩;have:=z.2.2;rw[Mb,Mb,Ms,Int.neg_mul] at this;omega
   ·exact⟨t,b,λz=>absurd z hc,λ_=>⟨rfl,rfl⟩,by omega,sb,λ_ _ z=>z⟩
  obtain⟨t',b',c1,c2,hb',sb',lw⟩:=core;refine⟨_,rfl,_,_,rfl,rfl,_,rfl,?_⟩
  suffices cD:A2 _ _ _ [some (.int t'),some (.int b'),none,none] H by
   refine ib (λhc=>?_) (λhc=>?_)
   ·obtain⟨rfl,rfl⟩:=c1 (Er hc);exact⟨_,rfl,_,_,rfl,rfl,_,rfl,_,_,rfl,rfl,_,_,rfl,cD⟩
   ·obtain⟨rfl,rfl⟩:=c2 (λz=>hc (DE z));exact cD
  refine⟨_,rfl,_,rfl,_,_,rfl,rfl,_,_,rfl,_,rfl,_,_,rfl,?_⟩;refine⟨λm σ H'=>∃ x y:Int,σ=[some (.int t'),some (.int b'),some (.int x),some (.int y)]/\H'=H/\0<=x/\0<=y/\Go x y=Go t' b'/\m=y.toNat,⟨_,_,_,rfl,rfl,?_,?_,?_,rfl⟩,?_⟩
  ·split<;>omega
  ·omega
  ·rw[<- wk t' b',show(if b'<0 then -b' else b')=b' from DS (by omega)]
   congr 1
   by_cases h1:t'<0
   ·rw[Ee h1,Ee (show 0-t'>t' by omega)];omega
   ·rw[DS h1]
    split<;>omega
  ·rintro m σ H' ⟨x,y,rfl,rfl,hx,hy,hg,rfl⟩;refine⟨_,rfl,_,_,rfl,rfl,_,rfl,?_⟩;refine ib (λhc=>?_) (λhc=>?_)
   ·have hc:=Er hc;refine⟨_,λ_ _ z=>z,?_⟩;refine⟨_,rfl,_,rfl,_,rfl,_,_,rfl,rfl,hc,_,_,rfl,?_⟩;have h1:=GK x (show y≠0 by omega);have h2:=FY x hc;exact⟨(x%y).toNat,by omega,y,x%y,rfl,rfl,hy,h1,by rw[tN hx hc];exact hg,rfl⟩
   ·have hc:¬ (0<y):=λz=>hc (DE z)
    have hy0:y=0:=by omega
    subst hy0;have e:x=(Go t' b':Int):=by
     rw[<- hg,Int.gcd_zero_right];omega
    subst e;have gb:Sm 8000 (Go t' b':Int):=sb'.le (yV (by omega));have gn:(Go t' b':Int)≠0:=by
     have:=Iy t' (show b'≠0 by omega);omega
    refine⟨_,rfl,_,rfl,_,_,rfl,rfl,⟨gn,gb⟩,_,rfl,_,rfl,_,_,rfl,rfl,⟨gn,gb⟩,pY,λp hp=>?_⟩;exact q _ _ _ _ (ae.new hp) (rK ac) (lw _ _ (zd (by omega) rfl (by rw[DS (by omega)])))
theorem gH:az ["_law_town_here","_law_cap","_law_below"] uA0 (ai eK):=dX
inductive lQ (K:Dd)(vs:List V)(H:Hp)(Q:VK)(_:XK):Prop
 |mk (t r:Du) (cap:Int) (_:vs=[.ref t,.int cap]) (_:bv H t r) (_:0<cap) (_:cap<=1000) (_:∀ (v:V) (q:Rat) (H':Hp),aQ K H' (rD q) v->0<=q->q<=(cap:Rat)->Bq 17 q->bv H' t r->Mv [t,r] H H'->Q v H')
theorem cK (T:c6 K mg w):dA P w K mg base (cC P w) 3 "_law_share" uA0 [] (lQ K):=by
  refine T.x1z.cal gH (bb:=λ_ _ _ _ _ H vs Q E hr h=>?_);obtain⟨t,r,cap,rfl,tw,c0,c1,q⟩:=h;refine⟨_,(cE.go (af (aE 2 gH.nd (aj aU (iH T) hr (aL (ar 0) (aX (aa ah (aa ah (aa ah (aa ah (aa ah (aa ah aV))))))))))
   (ag (au (aj aU (iH T) hr (aL (ar 0) (aA fM (aA uz (aX (aB (aj aU (pN T) hr (aL (aj aU (bc T) hr (aL (ar 0) (aA ce (aA cM (ar 1) (ar 2)) ah))) (ar 2))))) ah) (aX (aL (cL (aL ah ah)) (cL (aL (ar 1) ah))))))))))),?_⟩
  have s64:∀ {n:Int},0<n->n<100000->Sm 8000 n:=λh1 h2=>Sm.mono (k:=20) (by unfold Sm;omega) (by decide)
  refine⟨_,rfl,(by show 6<=Ds;decide),λp hp=>?_⟩;have sp:=ae.new (o:=.lst [.int 1,.int 1,.int 2,.int 3,.int 7,.int 60]) hp;have np:=tw.not hp;refine⟨t,r,p,_,rfl,tw.same sp,ac,λz=>np (by simp[z]),λz=>np (by simp[z]),by simp,by show 6<=1000;decide,λj v G hv tw1 mv1=>?_⟩;obtain⟨b,rfl,b0,b1⟩:∃ b:Int,v=.int b/\0<b/\b<=60:=by
   match j,hv with
   |0,hv=>exact⟨1,(Dm hv).symm,by decide,by decide⟩
   |1,hv=>exact⟨1,(Dm hv).symm,by decide,by decide⟩
   |2,hv=>exact⟨2,(Dm hv).symm,by decide,by decide⟩
   |3,hv=>exact⟨3,(Dm hv).symm,by decide,by decide⟩
   |4,hv=>exact⟨7,(Dm hv).symm,by decide,by decide⟩
   |5,hv=>exact⟨60,(Dm hv).symm,by decide,by decide⟩
  have cb:cap*b<=60000:=Int.le_trans (Int.mul_le_mul_of_nonneg_right c1 (by omega)) (by omega);have cb0:0<=cap*b:=F4 (by omega) (by omega);have mv1:=(Mv.of sp).trans mv1;clear hv sp np hp;refine⟨_,rfl,_,rfl,_,rfl,_,rfl,_,_,rfl,rfl,.inr ((AO (by omega) c1).mono (by decide)),_,_,rfl,rfl,?_⟩;refine⟨t,r,_,rfl,tw1,by omega,s64 (by omega) (by omega),λd H2 d0 d1 tw2 mv2=>?_⟩;have bq:Bq 17 ((d:Rat)/(b:Rat)):=xS (by omega) (by unfold Sm;omega) (by unfold Sm;omega);have bp:(0:Rat)<(b:Rat):=Rat.intCast_pos.mpr b0;have hd0:(0:Rat)<=(d:Rat):=LA.mpr d0;have hd1:(d:Rat)<=(cap:Rat)*(b:Rat):=by rw[<- Rat.intCast_mul];exact Rat.intCast_le_intCast.mpr (by omega)
  have nb:=yK (n:=b) (by omega);have eq:(d:Rat)=(d:Rat)/(b:Rat)*(b:Rat):=by grind
  have q0:0<=(d:Rat)/(b:Rat):=Rat.not_lt.mp λz=>by
   have:=IT z bp;grind
  have q1:(d:Rat)/(b:Rat)<=(cap:Rat):=Rat.not_lt.mp λz=>by
   have:=IT z bp;grind
  refine⟨_,rfl,_,_,rfl,by omega,s64 (by omega) (by omega),B6.sh (by omega) λv3 H3 s3 hv3=>?_⟩;refine⟨mi,λp1 hp1=>?_⟩;have s4:=ae.new (o:=.lst [v3]) hp1;refine xR (n:=4) rfl (by decide) ac λp2 hp2=>?_
  have s5:=ae.new (o:=.lst (Dz 4 v3)) hp2;refine⟨pY,λp3 hp3=>?_⟩;have s6:=ae.new (o:=.tup [.int 0,.int 1]) hp3;refine⟨_,rfl,pY,λp4 hp4=>?_⟩;have s7:=ae.new (o:=.tup [.int cap,.int 1]) hp4;refine⟨pY,λp5 hp5=>?_⟩;have s8:=ae.new (o:=.lst [.ref p3,.ref p4]) hp5;have s67:=s6.trans (s7.trans s8);refine⟨p2,p5,_,_,rfl,rfl,s67 _ _ ac,ac,(by show 4+2<=Ds;decide),λp6 hp6=>?_⟩;have s9:=ae.new (o:=.lst (Dz 4 v3++[.ref p3,.ref p4])) hp6;have g3:=s9 _ _ (s8 _ _ (s7 _ _ (ac (H:=upd (upd H3 p1 (.lst [v3])) p2 (.lst (Dz 4 v3))) (a:=p3) (o:=.tup [.int 0,.int 1]))));have g4:=s9 _ _ (s8 _ _ (ac (H:=upd (upd (upd H3 p1 (.lst [v3])) p2 (.lst (Dz 4 v3))) p3 (.tup [.int 0,.int 1])) (a:=p4) (o:=.tup [.int cap,.int 1])));have sA:ae H3 _:=((s4.trans s5).trans s67).trans s9;have hv:=aQ.same sA hv3;have twA:=(tw2.same s3).same sA;have n6:p6∉[t,r]:=((tw2.same s3).same ((s4.trans s5).trans s67)).not hp6;have mvA:=(mv1.trans mv2).trans (Mv.of (s3.trans sA));have gA:upd (upd (upd (upd (upd (upd H3 p1 (.lst [v3])) p2 (.lst (Dz 4 v3))) p3 (.tup [.int 0,.int 1])) p4 (.tup [.int cap,.int 1])) p5 (.lst [.ref p3,.ref p4])) p6 (.lst (Dz 4 v3++[.ref p3,.ref p4])) p6=some (.lst (Dz 4 v3++[.ref p3,.ref p4])):=ac;generalize upd (upd (upd (upd (upd (upd H3 p1 (.lst [v3])) p2 (.lst (Dz 4 v3))) p3 (.tup [.int 0,.int 1])) p4 (.tup [.int cap,.int 1])) p5 (.lst [.ref p3,.ref p4])) p6 (.lst (Dz 4 v3++[.ref p3,.ref p4]))=GA at g3 g4 sA hv twA mvA gA ⊢;refine⟨t,r,p6,_,rfl,twA,gA,λz=>n6 (by simp[z]),λz=>n6 (by simp[z]),by simp,by show 6<=1000;decide,λj v H7 hj tw7 mv7=>?_⟩;have one:∀ {n:Int}{a:Du},GA a=some (.tup [.int n,.int 1])->aQ K GA (rD (n:Rat)) (.ref a):=λ{n a} h=>by rw[y_];exact rK h
  obtain⟨z,hz,z0,z1,bz⟩:∃ z:Rat,aQ K GA (rD z) v/\0<=z/\z<=(cap:Rat)/\Bq 17 z:=by
   have cp:(0:Rat)<=(cap:Rat):=LA.mpr (by omega)
   match j,hj with
   |0,hj=>cases hj;exact⟨_,hv,q0,q1,bq⟩
   |1,hj=>cases hj;exact⟨_,hv,q0,q1,bq⟩
   |2,hj=>cases hj;exact⟨_,hv,q0,q1,bq⟩
   |3,hj=>cases hj;exact⟨_,hv,q0,q1,bq⟩
   |4,hj=>cases hj;exact⟨_,one g3,Rat.le_refl,cp,(tO (n:=0) (k:=17) (by unfold Sm;decide) (by decide))⟩
   |5,hj=>cases hj;exact⟨_,one g4,cp,Rat.le_refl,(tO (AO (by omega) c1) (by decide)).mono (by decide)⟩
  exact q v z H7 (aQ.mv mv7 twA.lists rfl hz) z0 z1 bz tw7 (mvA.trans mv7)
theorem lK:az uA0 uA0 (ai eJ):=dX
inductive lC (K:Dd)(vs:List V)(H:Hp)(Q:VK)(_:XK):Prop
 |mk (t r:Du) (cap:Int) (_:vs=[.ref t,.int cap]) (_:bv H t r) (_:0<cap) (_:cap<=1000) (_:∀ (v:V) (c:Q3) (H':Hp),aQ K H' c.col v->c.Wi cap->c.Bd 17->bv H' t r->Mv [t,r] H H'->Q v H')
theorem ls (T:c6 K mg w):dA P w K mg base (cC P w) 4 "_law_three" uA0 [] (lC K):=by
  refine T.x20.cal lK (bb:=λ_ _ _ _ _ H vs Q E hr h=>?_);obtain⟨t,r,cap,rfl,tw,c0,c1,q⟩:=h;refine⟨_,(cE.go (af (aM (aH eW (aj aU (bc T) hr (aL (ar 0) ah)) ah (aS _)) (ag (au (aA wN (cL (aB (aj aU (cK T) hr (aL (ar 0) (ar 1))))) ah))) aD)
   (ag (au (cL (aa (aj aU (cK T) hr (aL (ar 0) (ar 1))) (aa (aj aU (cK T) hr (aL (ar 0) (ar 1))) (aa (aj aU (cK T) hr (aL (ar 0) (ar 1))) aV)))))))),?_⟩
  refine⟨_,rfl,t,r,6,rfl,tw,by decide,by unfold Sm;decide,λd H1 d0 d1 tw1 mv1=>⟨_,_,rfl,rfl,_,rfl,?_⟩⟩;refine ib (λ_=>?_) (λ_=>?_)
  ·refine⟨_,rfl,_,rfl,t,r,cap,rfl,tw1,c0,c1,λv z H2 hv z0 z1 bz tw2 mv2=>⟨mi,λp hp=>?_⟩⟩;have s3:=ae.new (o:=.tup [v]) hp;refine⟨p,_,rfl,rfl,ac,λp2 hp2=>?_⟩;have s4:=ae.new (o:=.tup [v,v,v]) hp2;have hv:=aQ.same (s3.trans s4) hv;exact q _ ⟨z,z,z⟩ _ (.tup ac (.cons hv (.cons hv (.cons hv .nil)))) ⟨z0,z1,z0,z1,z0,z1⟩ ⟨bz,bz,bz⟩ (tw2.same (s3.trans s4)) ((mv1.trans mv2).trans (Mv.of (s3.trans s4)))
  ·refine⟨_,rfl,_,rfl,t,r,cap,rfl,tw1,c0,c1,λv1 z1 H2 hv1 a0 a1 ba tw2 mv2=>?_⟩;refine⟨_,rfl,_,rfl,t,r,cap,rfl,tw2,c0,c1,λv2 z2 H3 hv2 b0 b1 bb qX mv3=>?_⟩;refine⟨_,rfl,_,rfl,t,r,cap,rfl,qX,c0,c1,λv3 z3 H4 hv3 k0 k1 bk tw4 mv4=>⟨Aa,λp hp=>?_⟩⟩;have s:=ae.new (o:=.tup [v1,v2,v3]) hp;exact q _ ⟨z1,z2,z3⟩ _ (aQ.tupN hp (.cons (aQ.mv (mv3.trans mv4) tw2.lists rfl hv1) (.cons (aQ.mv mv4 qX.lists rfl hv2) (.cons hv3 .nil)))) ⟨a0,a1,b0,b1,k0,k1⟩ ⟨ba,bb,bk⟩ (tw4.same s) ((((mv1.trans mv2).trans mv3).trans mv4).trans (Mv.of s))
theorem bn:az ["_law_town_here","_law_last","_law_cap","_law_climbs","_law_size","_law_places","_law_values"] uA2 (ai dS):=dX
inductive kU (K:Dd)(vs:List V)(H:Hp)(Q:VK)(_:XK):Prop
 |mk (t r:Du) (last cap:Int) (c:Bool) (_:vs=[.ref t,.int last,.int cap,.bl c]) (_:bv H t r) (_:1<=last) (_:last<=1000) (_:1<=cap) (_:cap<=1000) (_:∀ (D:Du) (ps:List Pt) (z:Pt) (xs:List V) (H':Hp),H' D=some (.lst xs)->aw K H' (ps.map j6) xs->vS ps->ps.getLast?=some z->z.1=last->z.2<=cap->D∉[t,r]->bv H' t r->Mv [t,r] H H'->Q (.ref D) H')
theorem kB (T:c6 K mg w):dA P w K mg base (cC P w) 2 "_law_points" uA2 [] (kU K):=by
  refine T.x21.cal bn (bb:=λ_ _ _ _ _ H vs Q E hr h=>?_);obtain⟨t,r,last,cap,c,rfl,tw,l1,l2,c1,c2,q⟩:=h;refine⟨_,(cE.go (af (aE 4 bn.nd (aA ce ah (aj aU (bc T) hr (aL (ar 0) ah))))
   (af (aE 5 bn.nd (jp (K:=K) rfl rfl (by rfl) T.xe (by rfl) T.xn (aB (aA fM (aX (aL ah (ar 1))) (aP uC2 ["_law_town_here","_law_last"] [0,1] 1 (bt rfl T.x4 (aB (ar 4))) (λnd=>(aq 0 nd)) aI (aj aU (bc T) hr (aL (ar 1) (aA ce (ar 2) ah))))))))
   (af (aE 6 bn.nd (am (tZ (K:=K) rfl) (by rfl) T.xe mn (aB (aP uC2 uA0 [0,2] 1 (bt rfl T.x4 (aB (am (dM (K:=K) rfl) (by rfl) T.x3 bU (aB (ar 5))))) (λnd=>(aq 0 nd)) aI (aj aU (bc T) hr (aL (ar 1) (aA ce (ar 2) ah)))))))
   (af (aM (bd (ar 3)) (af (aE 6 bn.nd (aP uC2 ["_law_cap","_law_values"] [2,6] 1 (bt rfl T.x4 (aB (am (dM (K:=K) rfl) (by rfl) T.x3 bU (aB (ar 5))))) (λnd=>(aq 0 nd)) aI (am (i' rfl) (by rfl) T.xd qw (aL (ar 1) (aA ce (aZ K (ar 2) (ar 0)) (ar 0))))))
   (af (aE 6 bn.nd (jp (K:=K) rfl rfl (by rfl) T.xe (by rfl) T.xn (aB (ar 6))))
   (af (aE 5 bn.nd (dY (aH rE (am (dM (K:=K) rfl) (by rfl) T.x3 bU (aB (ar 6))) ah (aS _)) (aA fM (fZ (zQ (K:=K) rfl) (ar 5) iS (iD (aA kX (am (dM (K:=K) rfl) (by rfl) T.x3 bU (aB (ar 6))) ah))) (aX (aB (ar 1)))) (aX (aL ah (ar 1)))))
   (ag (aE 6 bn.nd (dY (aH rE (am (dM (K:=K) rfl) (by rfl) T.x3 bU (aB (ar 6))) ah (aS _)) (ar 6) (aX (aL ah (ar 2))))))))) aD)
   (ag (au (aP uC2 ["_law_places","_law_values"] [5,6] 1 (bt rfl T.x4 (aB (am (dM (K:=K) rfl) (by rfl) T.x3 bU (aB (ar 5))))) (λnd=>(aq 0 nd)) aI (cL (aL (aZ K (ar 1) (ar 0)) (aZ K (ar 2) (ar 0)))))))))))),?_⟩
  have s64:∀ {n:Int},0<n->n<100000->Sm 8000 n:=λh1 h2=>Sm.mono (k:=20) (by unfold Sm;omega) (by decide)
  refine⟨_,rfl,t,r,5,rfl,tw,by decide,s64 (by decide) (by decide),λd H1 d0 d1 tw1 mv1=>⟨_,_,rfl,rfl,?_⟩⟩;refine⟨_,rfl,pY,λp hp=>?_⟩;generalize e0:upd H1 p _=H2;have sp:=dG hp e0;have gp:=cT e0;have np:=tw1.not hp;have tw2:=tw1.same sp;have mv2:=mv1.trans (Mv.of sp);refine⟨_,rfl,_,rfl,by omega,by omega,je (t:=t) (r:=r) (lo:=0) (m:=last) tw2 (by omega) (λi H3 hi qX mv3 R kk S=>?_) (λks H3 hk hP qX mv3 D hD=>?_)⟩
  ·exact aN (B:=S H3) ⟨_,rfl,_,rfl,_,_,rfl,rfl,t,r,_,rfl,qX,by omega,s64 (by omega) (by omega),λd3 H4 a3 b3 tw4 mv4=>kk _ _ ⟨d3,rfl,a3,by omega,tw4,mv4⟩⟩
  generalize e0:upd H3 D _=H4;have sD:=dG hD e0;have gD:=cT e0;have tw4:=qX.same sD;have mv4:=(mv2.trans mv3).trans (Mv.of sD);have gp4:=sD _ _ (mv3 _ _ gp np);have hk':ks.length<=6:=by omega
  refine⟨p,D,_,_,rfl,rfl,gp4,gD,by rw[Dh,EZ];simp;omega,λp5 hp5=>?_⟩;have s5:ae H4 (upd H4 p5 (.lst ([.int 0,.int last]++ks.map V.int))):=ae.new hp5;have g5:upd H4 p5 (.lst ([.int 0,.int last]++ks.map V.int)) p5=some (.lst (([0,last]++ks).map V.int)):=by rw[ac,FP];rfl
  have tw5:=tw4.same s5;have mv5:=mv4.trans (Mv.of s5);generalize upd H4 p5 (.lst ([.int 0,.int last]++ks.map V.int))=H5 at s5 g5 tw5 mv5 ⊢;refine⟨p5,[0,last]++ks,rfl,bj.of g5,by simp;omega,λL ns hL up mem len=>?_⟩;have pl:Pl last ns:=Aj l1 up ((mem 0).mpr (by simp)) ((mem last).mpr (by simp)) (λx hx=>by
   have:=(mem x).mp hx;simp only[Ek,Dx,Ef,Gu] at this;rcases this with (e|e)|e
   ·omega
   ·omega
   ·exact hP x e) (by simp at len;omega)
  have few8:ns.length<=8:=by simp at len;omega
  generalize e0:upd H5 L _=H6;have s6:=dG hL e0;have g6:=cT e0;have nL:=tw5.not hL;have tw6:=tw5.same s6;have mv6:=mv5.trans (Mv.of s6);have two:=pl.two;have len6:(ns.map V.int).length=ns.length:=Dh _;refine⟨_,rfl,L,_,rfl,.inl (bj.of g6),_,rfl,by omega,by omega,je (t:=t) (r:=r) (lo:=0) (m:=cap) tw6 (by omega) (λi H7 hi tw7 mv7 R kk S=>?_) (λvs H7 hv iv tw7 mv7 D7 hD7=>?_)⟩
  ·exact aN (B:=S H7) ⟨_,rfl,_,rfl,_,_,rfl,rfl,t,r,_,rfl,tw7,by omega,s64 (by omega) (by omega),λd3 H4 a3 b3 tw4 mv4=>kk _ _ ⟨d3,rfl,a3,by omega,tw4,mv4⟩⟩
  have hv:vs.length=ns.length:=by omega
  generalize e0:upd H7 D7 _=H8;have s8:=dG hD7 e0;have g8:=cT e0;have tw8:=tw7.same s8;have mv8:=(mv6.trans mv7).trans (Mv.of s8);have gL8:=s8 _ _ (mv7 _ _ g6 nL);refine⟨D7,vs,rfl,bj.of g8,by omega,λL9 ws hL9 up9 pe9=>?_⟩;have lw:ws.length=ns.length:=by rw[pe9.length_eq];exact hv
  have iw:∀ x∈ws,0<=x/\x<=cap:=λx hx=>iv x (pe9.mem_iff.mp hx)
  generalize e0:upd H8 L9 _=H9;have s9:=dG hL9 e0;have g9:=cT e0;have nL9:=tw8.not hL9;have tw9:=tw8.same s9;have mv9:=mv8.trans (Mv.of s9);have gL9:=s9 _ _ gL8;have out:∀ (ps:List Pt) (z:Pt) (G:Hp) (ys:List V) (D:Du),vS ps->ps.getLast?=some z->z.1=last->z.2<=cap->bv G t r->Mv [t,r] H G->aw K G (ps.map j6) ys->G D=none->Q (.ref D) (upd G D (.lst ys)):=
   λps z G ys D h1 h2 h3 h4 twG mvG hys hD=>q D ps z ys _ ac (aw.same (ae.new hD) hys) h1 h2 h3 h4 (twG.not hD) (twG.same (ae.new hD)) (mvG.trans (Mv.of (ae.new hD)))
  refine⟨_,rfl,_,rfl,?_⟩;refine ib (λhc=>?_) (λhc=>?_)
  ·let cl:List Int:=(Fm ns.length).map λk:Nat=>if ws.getD k 0+(k:Int)<cap then ws.getD k 0+(k:Int) else cap
   have icl:∀ x∈cl,0<=x/\x<=cap:=λx hx=>by
    obtain⟨k,hk,rfl⟩:=EH.mp hx;rw[Fi] at hk;have:ws.getD k 0=ws[k]:=by simp[Mt,show k<ws.length by omega]
    have:=iw ws[k] (FU _)
    split<;>omega
   have lcl:cl.length=ns.length:=by simp[cl]
   refine⟨_,rfl,L,_,rfl,.inl (bj.of gL9),_,rfl,by omega,by omega,bT (K:=K) (lo:=0) (ds:=cl.map Eo) (by rw[Dh,lcl];omega) (by omega) (λi d G hd sG R kk S=>?_) (λys G sG hys D hD=>?_)⟩
   ·rw[Dp] at hd;obtain⟨m,em,rfl⟩:=DA.mp hd;have hi:i<ns.length:=by have:=(DH.mp em).1;omega
    have em':m=if ws.getD i 0+(i:Int)<cap then ws.getD i 0+(i:Int) else cap:=by
     simp only[cl,Dp,List.getElem?_range hi,Option.map_some,Option.some.injEq] at em;exact em.symm
    have ew:(ws.map V.int)[i]?=some (.int (ws.getD i 0)):=by simp[Mt,show i<ws.length by omega]
    exact aN (B:=S G) ⟨_,rfl,_,rfl,_,rfl,zP (sG _ _ g9) (j:=i) ew (by omega) ⟨_,rfl,_,_,rfl,rfl,_,_,rfl,kk _ _ ⟨ae.refl _,by rw[em',Ku];exact .int _⟩⟩⟩
   cases rM hys;have s10:ae H9 (upd G D (.lst (cl.map V.int))):=sG.trans (ae.new hD);have g10:upd G D (.lst (cl.map V.int)) D=some (.lst (cl.map V.int)):=ac;clear hys;generalize upd G D (.lst (cl.map V.int))=G at s10 g10 ⊢;refine⟨_,rfl,D,cl,rfl,bj.of g10,by omega,λL2 us hL2 up2 mem2 len2=>?_⟩;have iu:∀ x∈us,0<=x/\x<=cap:=λx hx=>icl x ((mem2 x).mp hx)
   have s11:ae H9 (upd G L2 (.lst (us.map V.int))):=s10.trans (ae.new hL2);have g11:upd G L2 (.lst (us.map V.int)) L2=some (.lst (us.map V.int)):=ac;generalize upd G L2 (.lst (us.map V.int))=G at s11 g11 ⊢;have lu:(us.map V.int).length=us.length:=Dh _;have gL11:=s11 _ _ gL9;refine⟨_,rfl,L2,_,rfl,.inl (bj.of g11),_,_,rfl,rfl,_,rfl,?_⟩
   by_cases hu:1<us.length
   ·rw[DE (show((us.map V.int).length:Int)>1 by omega)];refine aN ?_;refine⟨_,rfl,_,rfl,L2,_,rfl,.inl (bj.of g11),_,_,rfl,rfl,_,rfl,L,_,rfl,bj.of gL11,λp1 hp1=>⟨_,rfl,mi,λp2 hp2=>?_⟩⟩;rw[lu,vf (ns.map V.int) us.length (by omega),<- List.map_take] at hp2 ⊢;have s12:ae G (upd (upd G p1 (.lst ((ns.take (us.length-1)).map V.int))) p2 (.lst [.int last])):=(ae.new hp1).trans (ae.new hp2);have ga:upd (upd G p1 (.lst ((ns.take (us.length-1)).map V.int))) p2 (.lst [.int last]) p1=some (.lst ((ns.take (us.length-1)).map V.int)):=ae.new hp2 _ _ ac;have gb:upd (upd G p1 (.lst ((ns.take (us.length-1)).map V.int))) p2 (.lst [.int last]) p2=some (.lst [.int last]):=ac;generalize upd (upd G p1 (.lst ((ns.take (us.length-1)).map V.int))) p2 (.lst [.int last])=G2 at s12 ga gb ⊢;refine⟨p1,p2,_,_,rfl,rfl,ga,gb,by rw[Dh,Ei,EZ];simp;omega,λp3 hp3=>?_⟩;rw[show(ns.take (us.length-1)).map V.int++[V.int last]=(ns.take (us.length-1)++[last]).map V.int by simp];obtain⟨pl2,len2'⟩:=zt pl hu (by omega);generalize ns.take (us.length-1)++[last]=ms at pl2 len2' ⊢;have s13:ae H9 (upd G2 p3 (.lst (ms.map V.int))):=(s11.trans s12).trans (ae.new hp3);have g13:upd G2 p3 (.lst (ms.map V.int)) p3=some (.lst (ms.map V.int)):=ac;have gu13:upd G2 p3 (.lst (ms.map V.int)) L2=some (.lst (us.map V.int)):=ae.new hp3 _ _ (s12 _ _ g11);generalize upd G2 p3 (.lst (ms.map V.int))=G3 at s13 g13 gu13 ⊢;have lm:(ms.map V.int).length=ms.length:=Dh _;refine⟨_,rfl,L2,_,rfl,.inl (bj.of gu13),_,_,rfl,rfl,_,rfl,?_⟩;rw[DE (show((us.map V.int).length:Int)>1 by omega)];refine aN ⟨_,rfl,?_⟩;obtain⟨hp1,z,hz,ez⟩:=qx pl2 l2 (up2.imp (λh=>Ks h)) (λx hx=>by have:=iu x hx;omega) (by omega);have lz:(ms.zip us).length=ms.length:=by rw[IK];omega
    refine⟨_,rfl,p3,_,rfl,.inl (bj.of g13),_,rfl,by omega,by omega,bT (K:=K) (lo:=0) (ds:=(ms.zip us).map j6) (by rw[Dh];omega) (by omega) (λi d G' hd sG R kk S=>?_) (λys G' sG hys D hD=>?_)⟩
    ·rw[Dp] at hd;obtain⟨pt,ept,rfl⟩:=DA.mp hd;obtain⟨ea,eb⟩:=Ea.mp ept;exact aN (B:=S G') ⟨_,rfl,_,rfl,zP (sG _ _ g13) (j:=i) (v:=.int pt.1) (by rw[Dp,ea];rfl) (by omega) ⟨_,rfl,_,rfl,zP (sG _ _ gu13) (j:=i) (v:=.int pt.2) (by rw[Dp,eb];rfl) (by omega) ⟨pY,λp hp=>kk _ _ ⟨ae.new hp,aQ.tupN hp (.cons (.int _) (.cons (.int _) .nil))⟩⟩⟩⟩
    ·exact out _ z G' ys D hp1 hz ez (iu z.2 (Ga (G6 hz)).2).2 ((tw9.same s13).same sG) ((mv9.trans (Mv.of s13)).trans (Mv.of sG)) hys hD
   ·rw[DR (show ¬ ((us.map V.int).length:Int)>1 by omega)];refine aO ⟨_,rfl,pY,λp1 hp1=>?_⟩;have s12:ae H9 (upd G p1 (.lst [.int 0,.int last])):=s11.trans (ae.new hp1);have g12:upd G p1 (.lst [.int 0,.int last]) p1=some (.lst ([0,last].map V.int)):=ac;have gu12:upd G p1 (.lst [.int 0,.int last]) L2=some (.lst (us.map V.int)):=ae.new hp1 _ _ g11;generalize upd G p1 (.lst [.int 0,.int last])=G2 at s12 g12 gu12 ⊢;refine⟨_,rfl,L2,_,rfl,.inl (bj.of gu12),_,_,rfl,rfl,_,rfl,?_⟩;rw[DR (show ¬ ((us.map V.int).length:Int)>1 by omega)];refine aO ⟨_,rfl,pY,λp2 hp2=>?_⟩;have s13:ae H9 (upd G2 p2 (.lst [.int 0,.int cap])):=s12.trans (ae.new hp2);have g13:upd G2 p2 (.lst [.int 0,.int cap]) p1=some (.lst ([0,last].map V.int)):=ae.new hp2 _ _ g12;have gu13:upd G2 p2 (.lst [.int 0,.int cap]) p2=some (.lst ([0,cap].map V.int)):=ac;generalize upd G2 p2 (.lst [.int 0,.int cap])=G3 at s13 g13 gu13 ⊢;have lm:([0,last].map V.int).length=2:=rfl;have lm2:[0,last].length=2:=rfl;have lm3:[0,cap].length=2:=rfl;obtain⟨hp1,z,hz,ez⟩:=qx (yF l1) l2 (show[0,cap].Pairwise (·<=·) by simp;omega) (λx hx=>by simp at hx;omega) rfl;have lz:([0,last].zip [0,cap]).length=[0,last].length:=by rw[IK];omega
    refine⟨_,rfl,p1,_,rfl,.inl (bj.of g13),_,rfl,by omega,by omega,bT (K:=K) (lo:=0) (ds:=([0,last].zip [0,cap]).map j6) (by rw[Dh];omega) (by omega) (λi d G' hd sG R kk S=>?_) (λys G' sG hys D hD=>?_)⟩
    ·rw[Dp] at hd;obtain⟨pt,ept,rfl⟩:=DA.mp hd;obtain⟨ea,eb⟩:=Ea.mp ept;exact aN (B:=S G') ⟨_,rfl,_,rfl,zP (sG _ _ g13) (j:=i) (v:=.int pt.1) (by rw[Dp,ea];rfl) (by omega) ⟨_,rfl,_,rfl,zP (sG _ _ gu13) (j:=i) (v:=.int pt.2) (by rw[Dp,eb];rfl) (by omega) ⟨pY,λp hp=>kk _ _ ⟨ae.new hp,aQ.tupN hp (.cons (.int _) (.cons (.int _) .nil))⟩⟩⟩⟩
    ·exact out _ z G' ys D hp1 hz ez (by have m:=(Ga (G6 hz)).2;simp at m;omega) ((tw9.same s13).same sG) ((mv9.trans (Mv.of s13)).trans (Mv.of sG)) hys hD
  ·obtain⟨hp1,z,hz,ez⟩:=qx pl l2 up9 (λx hx=>by have:=iw x hx;omega) lw;have lz:(ns.zip ws).length=ns.length:=by rw[IK];omega
   refine⟨_,rfl,L,_,rfl,.inl (bj.of gL9),_,rfl,by omega,by omega,bT (K:=K) (lo:=0) (ds:=(ns.zip ws).map j6) (by rw[Dh];omega) (by omega) (λi d G hd sG R kk S=>?_) (λys G sG hys D hD=>?_)⟩
   ·rw[Dp] at hd;obtain⟨pt,ept,rfl⟩:=DA.mp hd;obtain⟨ea,eb⟩:=Ea.mp ept;exact aN (B:=S G) ⟨_,rfl,_,rfl,zP (sG _ _ gL9) (j:=i) (v:=.int pt.1) (by rw[Dp,ea];rfl) (by omega) ⟨_,rfl,_,rfl,zP (sG _ _ g9) (j:=i) (v:=.int pt.2) (by rw[Dp,eb];rfl) (by omega) ⟨pY,λp hp=>kk _ _ ⟨ae.new hp,aQ.tupN hp (.cons (.int _) (.cons (.int _) .nil))⟩⟩⟩⟩
   ·exact out _ z G ys D hp1 hz ez (iw z.2 (Ga (G6 hz)).2).2 (tw9.same sG) (mv9.trans (Mv.of sG)) hys hD
theorem bg:az ["_law_town_here","_law_size","_law_table","_law_kind","_law_rows","_law_a","_law_b","_law_c","_law_worth"] uB2 (ai fj):=dX
inductive nF (K:Dd)(vs:List V)(H:Hp)(Q:VK)(_:XK):Prop
 |mk (t r:Du) (n:Nat) (_:vs=[.ref t,.int n]) (_:bv H t r) (_:2<=n) (_:n<=7) (_:∀ (d:Du) (f:Kn->R3) (H':Hp),mC K H' (aG n) f d->xD n f->bv H' t r->Mv [t,r] H H'->H d=none->Q (.ref d) H')
structure R4 where
 w:Int
 x:Int
 y:Int
 z:Int
def R4.ds (r:R4):List DZ:=[.int r.w,.int r.x,.int r.y,.int r.z]
structure R4.In (r:R4):Prop where
 w0:0<=r.w
 w1:r.w<200
 x0:0<=r.x
 x1:r.x<90
 y0:0<=r.y
 y1:r.y<90
 z0:0<=r.z
 z1:r.z<90
theorem uQ {K:Dd}{H:Hp}{r:R4}{v:V}(h:aQ K H (.list r.ds) v):∃ a,v=.ref a/\bj K H a [.int r.w,.int r.x,.int r.y,.int r.z]:=by
 obtain⟨a,xs,rfl,ha,hx⟩:=b9 (b:=true) (ds:=r.ds) h;have e:xs=[r.w,r.x,r.y,r.z].map V.int:=fE (ns:=[r.w,r.x,r.y,r.z]) hx;subst e;exact⟨a,rfl,ha⟩
structure R3.Up (r:R3):Prop where
 a:0<=r.a
 b:0<=r.b
 c:0<=r.c
theorem Be {ds:List DZ}(hl:ds.length=3)(h:∀ d∈ds,∃ i:Int,d=.int i/\0<=i):∃ r:R3,ds=r.ds/\r.Up:=by
 match ds,hl,h with
 |[x,y,z],_,h=>
  obtain⟨a,rfl,a1⟩:=h x (by simp);obtain⟨b,rfl,b1⟩:=h y (by simp);obtain⟨c,rfl,c1⟩:=h z (by simp);exact⟨⟨a,b,c⟩,rfl,a1,b1,c1⟩
structure e_ (K:Dd)(t r d R:Du)(rs:DZ)(H1:Hp)(ts:List Kn)(H':Hp):Prop where
 tw:bv H' t r
 mv:Mv [t,r,d] H1 H'
 rs:aQ K (cut [t,r] H') rs (.ref R)
 gr:∃ f,mC K H' ts f d/\∀ u∈ts,(f u).Wt
theorem e_.same {K:Dd}{t r d R:Du}{rs:DZ}{H1 H2 H3:Hp}{ts:List Kn}(h:e_ K t r d R rs H1 ts H2)(s:ae H2 H3):e_ K t r d R rs H1 ts H3:=
 ⟨h.tw.same s,h.mv.trans (Mv.of s),aQ.same (ae.cut s) h.rs,let ⟨f,a,b⟩:=h.gr;⟨f,a.same s,b⟩⟩
theorem e_.draw {K:Dd}{t r d R:Du}{rs:DZ}{H1 H2 H3:Hp}{ts:List Kn}(h:e_ K t r d R rs H1 ts H2)(tw:bv H3 t r)(m:Mv [t,r] H2 H3):e_ K t r d R rs H1 ts H3:=
 ⟨tw,h.mv.trans m.wide,aQ.same m.cut h.rs,let ⟨f,a,b⟩:=h.gr;⟨f,a.mv m h.tw.lists,b⟩⟩
theorem nN (T:c6 K mg w):dA P w K mg base (cC P w) 2 "_law_grid" uB2 [] (nF K):=by
  refine T.x22.cal bg (bb:=λ_ _ _ _ _ H vs Q E hr h=>?_);obtain⟨t,r,n,rfl,tw,h2,h7,q⟩:=h;refine⟨_,(cE.go (af (aE 2 bg.nd sO)
   (af (aE 3 bg.nd (aj aU (bc T) hr (aL (ar 0) ah)))
   (af (bV 4 uC2 ["_law_town_here"] [0] 1 bg.nd (bt rfl T.x4 (aB ah)) (λnd=>(aq 0 nd)) aI (aX (aa (aj aU (bc T) hr (aL (ar 1) ah)) (aa (aj aU (bc T) hr (aL (ar 1) ah)) (aa (aj aU (bc T) hr (aL (ar 1) ah)) (aa (aj aU (bc T) hr (aL (ar 1) ah)) aV))))))
   (af (eM FQ rfl (bt rfl T.x4 (aB (ar 1))) (aq 5 bg.nd) (ag (eM FQ rfl (bt rfl T.x4 (aB (ar 1))) (aq 6 bg.nd) (ag (eM FQ rfl (bt rfl T.x4 (aB (ar 1))) (aq 7 bg.nd) (af (aM (aH eW (ar 3) ah (aS _)) (ag (bV 8 uB5 ["_law_a","_law_b","_law_c"] [5,6,7] 4 bg.nd (bG (K:=K) rfl (ar 4)) (λnd=>(vi (K:=K) (n:=4) rfl rfl (a_ (aq 0 nd) (a_ (aq 1 nd) (a_ (aq 2 nd) (a_ (aq 3 nd) di)))))) aI (aA ce (aA ce (aA ce (ar 0) (aA cM (ar 1) (ar 4))) (aA cM (ar 2) (ar 5))) (aA cM (ar 3) (ar 6))))) (ag (aM (aH eW (ar 3) ah (aS _)) (ag (bV 8 uC2 ["_law_town_here"] [0] 1 bg.nd (bt rfl T.x4 (aB ah)) (λnd=>(aq 0 nd)) aI (aj aU (bc T) hr (aL (ar 1) ah)))) (ag (bV 8 uB5 ["_law_a","_law_size","_law_b","_law_c"] [5,1,6,7] 4 bg.nd (bG (K:=K) rfl (ar 4)) (λnd=>(vi (K:=K) (n:=4) rfl rfl (a_ (aq 0 nd) (a_ (aq 1 nd) (a_ (aq 2 nd) (a_ (aq 3 nd) di)))))) aI (am (i' rfl) (by rfl) T.xd qw (aL ah (aA ce (aA ce (aA ce (ar 0) (aA eI (aA cM (aA cM (ar 1) (ar 4)) (ar 4)) (ar 5))) (aA cM ah (ar 6))) (aA cM ah (ar 7))))))))))
   (af (aM (WW.pt (rl (aH eW (ar 5) (ar 6) (aS _)) (rl (aH eW (ar 6) (ar 7) (aS _)) (uO (aH eW (ar 3) ah (aS _)))))) (ag (aE 8 bg.nd (aA uz (aX (aB (aZ K (ar 8) ah))) ah))) aD)
   (ag (vy hr.u1 (ar 2) (cL (aa (ar 5) (aa (ar 6) (aa (ar 7) aV)))) (bE (mS (K:=K) rfl) (by rfl) T.x9 fu (aB (aP ["_law_one"] [] [] 1 (bG (K:=K) rfl (ar 8)) (λnd=>(aq 0 nd)) aI (am (i' rfl) (by rfl) T.xd qw (aL ah (ar 0)))))) rfl)))))))))
   (ag (au (ar 2)))))))),?_⟩
  have s64:∀ {n:Int},0<n->n<100000->Sm 8000 n:=λh1 h2=>Sm.mono (k:=20) (by unfold Sm;omega) (by decide)
  refine λd hd=>?_
  have sd:ae H (upd H d (.dT [])):=ae.new hd;have tw0:=tw.same sd;have gd0:upd H d (.dT []) d=some (.dT []):=ac;generalize hH0:upd H d (.dT [])=H0 at sd tw0 gd0 ⊢;refine⟨_,rfl,t,r,3,rfl,tw0,by decide,s64 (by decide) (by decide),λkd H1 k0 k3 tw1 mv1=>?_⟩;refine⟨3,rfl,by decide,by decide,jh (K:=K) (lo:=0) (n:=3) (Pd:=λd=>∃ r:R4,d=.list r.ds/\r.In) tw1 (by decide) (λi H2 hi tw2 mv2 R kk S=>?_) (λds ys H2 hl hP tw2 mv2 hys R hR=>?_)⟩
  ·refine aN (B:=S H2) ⟨_,rfl,t,r,200,rfl,tw2,by decide,s64 (by decide) (by decide),λx1 H3 a1 b1 qX mv3=>?_⟩;refine⟨_,rfl,t,r,90,rfl,qX,by decide,s64 (by decide) (by decide),λx2 H4 a2 b2 tw4 mv4=>?_⟩;refine⟨_,rfl,t,r,90,rfl,tw4,by decide,s64 (by decide) (by decide),λx3 H5 a3 b3 tw5 mv5=>?_⟩;refine⟨_,rfl,t,r,90,rfl,tw5,by decide,s64 (by decide) (by decide),λx4 H6 a4 b4 tw6 mv6=>⟨Da,λL hL=>?_⟩⟩;exact kk _ _ ⟨tw6.same (ae.new hL),(((mv3.trans mv4).trans mv5).trans mv6).trans (Mv.of (ae.new hL)),_,⟨⟨x1,x2,x3,x4⟩,rfl,a1,b1,a2,b2,a3,b3,a4,b4⟩,oO tw6 hL (.cons (.int _) (.cons (.int _) (.cons (.int _) (.cons (.int _) .nil))))⟩
  obtain⟨r1,r2,r3,rfl,i1,i2,i3⟩:∃ r1 r2 r3:R4,ds=[.list r1.ds,.list r2.ds,.list r3.ds]/\r1.In/\r2.In/\r3.In:=by
   match ds,hl,hP with
   |[x,y,z],_,h=>
    obtain⟨a,rfl,a1⟩:=h x (by simp);obtain⟨b,rfl,b1⟩:=h y (by simp);obtain⟨c,rfl,c1⟩:=h z (by simp);exact⟨a,b,c,rfl,a1,b1,c1⟩
  have nd:d∉[t,r]:=λm=>by
   obtain⟨xs,e⟩:=tw0.lists d m;rw[gd0] at e;cases e
  have gi0:e_ K t r d R (.list [.list r1.ds,.list r2.ds,.list r3.ds]) H0 [] (upd H2 R (.lst ys)):=⟨tw2.same (ae.new hR),((mv1.trans mv2).trans (Mv.of (ae.new hR))).wide,oO tw2 hR hys,λ_=>⟨0,0,0⟩,⟨[],ae.new hR _ _ (mv2 _ _ (mv1 _ _ gd0 nd) nd),.nil⟩,λ_ m=>nomatch m⟩
  generalize upd H2 R (.lst ys)=H3 at gi0 ⊢;have lt:∀ {x:Int}{m:Nat},0<=x->x<200->m<7->Sm 64 x:=λh1 h2 _=>by unfold Sm;omega
  have inr:∀ {rr:R4},rr=r1\/rr=r2\/rr=r3->rr.In:=λh=>by rcases h with rfl|rfl|rfl<;>assumption
  refine⟨_,rfl,(n:Int),rfl,by omega,by omega,fY (lo:=0) (n:=(n:Int).toNat) (λi σ H'=>(∃ oa ob oc ow,σ=[some (.ref t),some (.int n),some (.ref d),some (.int kd),some (.ref R),oa,ob,oc,ow])/\e_ K t r d R (.list [.list r1.ds,.list r2.ds,.list r3.ds]) H0 (lA n i) H')
   ⟨⟨_,_,_,_,rfl⟩,gi0⟩ ?_ ?_⟩
  ·rintro i σ H4 hi ⟨⟨oa,ob,oc,ow,rfl⟩,gi1⟩;have hi:i<n:=by omega
   refine⟨_,rfl,(n:Int),rfl,by omega,by omega,fY (lo:=0) (n:=(n:Int).toNat) (λj σ H'=>(∃ ob oc ow,σ=[some (.ref t),some (.int n),some (.ref d),some (.int kd),some (.ref R),some (.int (0+i)),ob,oc,ow])/\e_ K t r d R (.list [.list r1.ds,.list r2.ds,.list r3.ds]) H0 (lA n i++lj n i j) H')
    ⟨⟨_,_,_,rfl⟩,by simpa [lj] using gi1⟩ ?_ ?_⟩
   ·rintro j σ H5 hj ⟨⟨ob,oc,ow,rfl⟩,gi2⟩;have hj:j<n:=by omega
    refine⟨_,rfl,(n:Int),rfl,by omega,by omega,fY (lo:=0) (n:=(n:Int).toNat) (λk σ H'=>(∃ oc ow,σ=[some (.ref t),some (.int n),some (.ref d),some (.int kd),some (.ref R),some (.int (0+i)),some (.int (0+j)),oc,ow])/\e_ K t r d R (.list [.list r1.ds,.list r2.ds,.list r3.ds]) H0 (lA n i++lj n i j++mx i j k) H')
     ⟨⟨_,_,rfl⟩,by simpa [mx] using gi2⟩ ?_ ?_⟩
    ·rintro k σ H6 hk ⟨⟨oc,ow,rfl⟩,gi3⟩;have hk:k<n:=by omega
     obtain⟨b0,xs,eb,hb,hxs⟩:=b9 (b:=true) (ds:=[.list r1.ds,.list r2.ds,.list r3.ds]) (aQ.uncut gi3.rs);cases eb;apply CD (I:=λwv H'=>∃ (W:Du) (wr:R3),wv=.ref W/\e_ K t r d R (.list [.list r1.ds,.list r2.ds,.list r3.ds]) H0 (lA n i++lj n i j++mx i j k) H'/\H' W=some (.lst wr.vs)/\wr.Up)
     case main=>
      intro rest1;refine⟨_,rfl,_,_,rfl,rfl,_,rfl,ib (λhc=>?k0) (λhc=>?kx)⟩
      case' k0=>
       refine⟨_,rfl,R,true,rfl,⟨_,hb⟩,bL (es:=[.int (r1.w+r1.x*(0+i)+r1.y*(0+j)+r1.z*(0+k)),.int (r2.w+r2.x*(0+i)+r2.y*(0+j)+r2.z*(0+k)),.int (r3.w+r3.x*(0+i)+r3.y*(0+j)+r3.z*(0+k))]) hb hxs rfl (by show 3<=1000;decide) (λii dd ee u H7 hd he s7 hu RR kk S=>?_) (λzs H7 s7 hzs W hW=>?_)⟩
       ·obtain⟨rr,hrr,rfl,rfl⟩:∃ rr:R4,(rr=r1\/rr=r2\/rr=r3)/\dd=.list rr.ds/\ee=.int (rr.w+rr.x*(0+i)+rr.y*(0+j)+rr.z*(0+k)):=by
         rcases B5 hd with ⟨rfl,rfl⟩|⟨rfl,rfl⟩|⟨rfl,rfl⟩
         ·exact⟨r1,.inl rfl,rfl,(Dm he).symm⟩
         ·exact⟨r2,.inr (.inl rfl),rfl,(Dm he).symm⟩
         ·exact⟨r3,.inr (.inr rfl),rfl,(Dm he).symm⟩
        obtain⟨w0,w1,x0,x1,y0,y1,z0,z1⟩:=inr hrr;obtain⟨ra,rfl,hra⟩:=uQ hu;refine⟨ra,_,rfl,.inl hra,rfl,_,_,rfl,_,_,rfl,_,_,rfl,_,_,rfl,rfl,aN (B:=S H7) ?_⟩;exact⟨_,rfl,_,rfl,_,rfl,_,_,rfl,rfl,.inr (by unfold Sm;omega),_,_,rfl,rfl,_,rfl,_,rfl,_,_,rfl,rfl,.inr (by unfold Sm;omega),_,_,rfl,rfl,_,rfl,_,rfl,_,_,rfl,rfl,.inr (by unfold Sm;omega),_,_,rfl,rfl,kk _ _ ⟨ae.refl _,.int _⟩⟩
       have zz:=fE (ns:=[r1.w+r1.x*(0+i)+r1.y*(0+j)+r1.z*(0+k),r2.w+r2.x*(0+i)+r2.y*(0+j)+r2.z*(0+k),r3.w+r3.x*(0+i)+r3.y*(0+j)+r3.z*(0+k)]) hzs;subst zz;have gi4:=(gi3.same s7).same (ae.new (o:=.lst ([r1.w+r1.x*(0+i)+r1.y*(0+j)+r1.z*(0+k),r2.w+r2.x*(0+i)+r2.y*(0+j)+r2.z*(0+k),r3.w+r3.x*(0+i)+r3.y*(0+j)+r3.z*(0+k)].map V.int)) hW);have pos:∀ {rr:R4},rr.In->0<=rr.w+rr.x*(0+(i:Int))+rr.y*(0+(j:Int))+rr.z*(0+(k:Int)):=λh=>by
        have p1:=F4 h.x0 (show(0:Int)<=0+i by omega);have p2:=F4 h.y0 (show(0:Int)<=0+j by omega);have p3:=F4 h.z0 (show(0:Int)<=0+k by omega);have p4:=h.w0;omega
       obtain⟨wr,ewr,up⟩:∃ wr:R3,upd H7 W (.lst ([r1.w+r1.x*(0+i)+r1.y*(0+j)+r1.z*(0+k),r2.w+r2.x*(0+i)+r2.y*(0+j)+r2.z*(0+k),r3.w+r3.x*(0+i)+r3.y*(0+j)+r3.z*(0+k)].map V.int)) W=some (.lst wr.vs)/\wr.Up:=⟨⟨_,_,_⟩,ac,pos i1,pos i2,pos i3⟩
       generalize upd H7 W (.lst ([r1.w+r1.x*(0+i)+r1.y*(0+j)+r1.z*(0+k),r2.w+r2.x*(0+i)+r2.y*(0+j)+r2.z*(0+k),r3.w+r3.x*(0+i)+r3.y*(0+j)+r3.z*(0+k)].map V.int))=H8 at gi4 ewr ⊢
      case' kx=>
       refine⟨_,rfl,_,_,rfl,rfl,_,rfl,ib (λhc1=>?k1) (λhc1=>?k2)⟩
      case' k1=>
       refine⟨3,rfl,by decide,by decide,jh (K:=K) (lo:=0) (n:=3) (Pd:=λd=>∃ i:Int,d=.int i/\0<=i) gi3.tw (by decide) (λii H7 hii tw7 mv7 RR kk S=>aN (B:=S H7) ⟨_,rfl,t,r,1001,rfl,tw7,by decide,s64 (by decide) (by decide),λx1 H9 a1 b1 tw9 mv9=>kk _ _ ⟨tw9,mv9,_,⟨x1,rfl,a1⟩,.int _⟩⟩) (λds ws H7 hl hP tw7 mv7 hws W hW=>?_)⟩;obtain⟨wr,rfl,up⟩:=Be hl hP;have zz:=jc hws;subst zz;have gi4:=(gi3.draw tw7 mv7).same (ae.new (o:=.lst wr.vs) hW);have ewr:upd H7 W (.lst wr.vs) W=some (.lst wr.vs):=ac;generalize upd H7 W (.lst wr.vs)=H8 at gi4 ewr ⊢
      case' k2=>
       have e2:∃ g:R4->Int,g=λrr=>if rr.w+(rr.x*(0+(i:Int))*(0+(i:Int))).fdiv n+40*(0+(j:Int))+30*(0+(k:Int))<1000 then rr.w+(rr.x*(0+(i:Int))*(0+(i:Int))).fdiv n+40*(0+(j:Int))+30*(0+(k:Int)) else 1000:=⟨_,rfl⟩
       obtain⟨g,hg⟩:=e2;refine⟨_,rfl,R,true,rfl,⟨_,hb⟩,bL (es:=[.int (g r1),.int (g r2),.int (g r3)]) hb hxs rfl (by show 3<=1000;decide) (λii dd ee u H7 hd he s7 hu RR kk S=>?_) (λzs H7 s7 hzs W hW=>?_)⟩
       ·obtain⟨rr,hrr,rfl,rfl⟩:∃ rr:R4,(rr=r1\/rr=r2\/rr=r3)/\dd=.list rr.ds/\ee=.int (g rr):=by
         rcases B5 hd with ⟨rfl,rfl⟩|⟨rfl,rfl⟩|⟨rfl,rfl⟩
         ·exact⟨r1,.inl rfl,rfl,(Dm he).symm⟩
         ·exact⟨r2,.inr (.inl rfl),rfl,(Dm he).symm⟩
         ·exact⟨r3,.inr (.inr rfl),rfl,(Dm he).symm⟩
        obtain⟨w0,w1,x0,x1,y0,y1,z0,z1⟩:=inr hrr;obtain⟨ra,rfl,hra⟩:=uQ hu;have sx:Sm 64 (rr.x*(0+(i:Int))):=((show Sm 10 rr.x by unfold Sm;omega).mul (show Sm 10 (0+(i:Int)) by unfold Sm;omega)).mono (by decide);refine⟨ra,_,rfl,.inl hra,rfl,_,_,rfl,_,_,rfl,_,_,rfl,_,_,rfl,rfl,aN (B:=S H7) ?_⟩;refine⟨_,rfl,_,rfl,_,rfl,_,_,rfl,rfl,.inr (by unfold Sm;omega),_,rfl,_,_,rfl,rfl,.inr sx,_,rfl,_,_,rfl,rfl,⟨by omega,Sm.mono (k:=20) (by unfold Sm;omega) (by decide)⟩,_,_,rfl,rfl,_,rfl,_,_,rfl,rfl,.inr (by unfold Sm;decide),_,_,rfl,rfl,_,rfl,_,_,rfl,rfl,.inr (by unfold Sm;decide),_,_,rfl,rfl,_,_,rfl,kk _ _ ⟨ae.refl _,?_⟩⟩;rw[hg];exact .int _
       have zz:=fE (ns:=[g r1,g r2,g r3]) hzs;subst zz;have gi4:=(gi3.same s7).same (ae.new (o:=.lst ([g r1,g r2,g r3].map V.int)) hW);have pos:∀ {rr:R4},rr.In->0<=g rr:=λ{rr} h=>by
        have p1:=F4 (F4 h.x0 (show(0:Int)<=0+i by omega)) (show(0:Int)<=0+i by omega);have p2:0<=(rr.x*(0+(i:Int))*(0+(i:Int))).fdiv n:=by
         rw[IY _ (by omega)];exact Int.ediv_nonneg p1 (by omega)
        have p4:=h.w0;rw[hg];dsimp only
        split<;>omega
       obtain⟨wr,ewr,up⟩:∃ wr:R3,upd H7 W (.lst ([g r1,g r2,g r3].map V.int)) W=some (.lst wr.vs)/\wr.Up:=⟨⟨_,_,_⟩,ac,pos i1,pos i2,pos i3⟩
       generalize upd H7 W (.lst ([g r1,g r2,g r3].map V.int))=H8 at gi4 ewr ⊢
      all_goals
       obtain⟨wv,ewv⟩:∃ wv,wv=V.ref W:=⟨_,rfl⟩
       rw[<- ewv];exact rest1 wv H8 ⟨W,wr,ewv,gi4,ewr,up⟩
     clear gi3 hb hxs;rintro wv H8 ⟨W,wr,rfl,gi4,ewr,up⟩;apply CD (I:=λwv H'=>∃ (W:Du) (wr:R3),wv=.ref W/\e_ K t r d R (.list [.list r1.ds,.list r2.ds,.list r3.ds]) H0 (lA n i++lj n i j++mx i j k) H'/\H' W=some (.lst wr.vs)/\wr.Up)
     case main=>
      intro rest2;refine⟨_,rfl,_,rfl,_,_,rfl,rfl,_,rfl,ib (λc1=>?c1t) (λc1=>aO ?c1f)⟩
      case c1t=>
       refine⟨_,rfl,_,rfl,_,_,rfl,rfl,_,rfl,ib (λc2=>?c2t) (λc2=>aO ?c2f)⟩
       case c2t=>
        refine⟨_,rfl,_,_,rfl,rfl,_,rfl,ib (λc3=>?c3t) (λc3=>?c3f)⟩
        case c3t=>
         refine⟨_,rfl,.inl ⟨W,_,0,.int wr.a,rfl,rfl,bj.of ewr,rfl,mi,λp hp=>⟨p,3,_,rfl,rfl,ac,by decide,by decide,by show 3<=Ds;decide,λp2 hp2=>?_⟩⟩⟩;have gi4:=(gi4.same (ae.new (o:=.lst [.int wr.a]) hp)).same (ae.new (o:=.lst (Dz (3:Int).toNat [V.int wr.a]).flatten) hp2);have ewr2:upd (upd H8 p (.lst [.int wr.a])) p2 (.lst (Dz (3:Int).toNat [V.int wr.a]).flatten) p2=some (.lst (R3.mk wr.a wr.a wr.a).vs):=ac;generalize upd (upd H8 p (.lst [.int wr.a])) p2 (.lst (Dz (3:Int).toNat [V.int wr.a]).flatten)=H9 at gi4 ewr2 ⊢;obtain⟨wv,ewv⟩:∃ wv,wv=V.ref p2:=⟨_,rfl⟩
         rw[<- ewv];exact rest2 wv H9 ⟨p2,_,ewv,gi4,ewr2,up.a,up.a,up.a⟩
        case c3f=>exact rest2 (.ref W) H8 ⟨W,wr,rfl,gi4,ewr,up⟩
       case c2f=>exact rest2 (.ref W) H8 ⟨W,wr,rfl,gi4,ewr,up⟩
      case c1f=>exact rest2 (.ref W) H8 ⟨W,wr,rfl,gi4,ewr,up⟩
     clear gi4 ewr up;rintro wv H8 ⟨W,wr,rfl,gi4,ewr,up⟩;refine⟨_,rfl,_,true,rfl,⟨_,bj.of ewr⟩,bL (es:=[.int (min 1000 wr.a),.int (min 1000 wr.b),.int (min 1000 wr.c)]) (K:=K) (b:=true) (bj.of ewr) (.cons (.int wr.a) (.cons (.int wr.b) (.cons (.int wr.c) .nil))) rfl (by show 3<=1000;decide) (λii dd ee u H9 hd he s9 hu RR kk S=>?_) (λzs H9 s9 hzs D9 hD9=>?_)⟩
     ·refine aN (B:=S H9) ?_;rcases B5 hd with ⟨rfl,rfl⟩|⟨rfl,rfl⟩|⟨rfl,rfl⟩<;>(cases hu;cases(Dm he);exact⟨_,rfl,_,_,rfl,by rw[zO];exact kk _ _ ⟨ae.refl _,.int _⟩⟩)
     ·have zz:=fE (ns:=[min 1000 wr.a,min 1000 wr.b,min 1000 wr.c]) hzs;subst zz;refine⟨D9,_,rfl,.inl ⟨bj.of ac,λl hl=>?_⟩⟩;have wtl:(R3.mk (min 1000 wr.a) (min 1000 wr.b) (min 1000 wr.c)).Wt:=by
       obtain⟨u1,u2,u3⟩:=up;exact⟨by show 0<=min 1000 wr.a;omega,by show min 1000 wr.a<=1000;omega,by show 0<=min 1000 wr.b;omega,by show min 1000 wr.b<=1000;omega,by show 0<=min 1000 wr.c;omega,by show min 1000 wr.c<=1000;omega⟩
      have gi5:=((gi4.same s9).same (ae.new (o:=.lst ([min 1000 wr.a,min 1000 wr.b,min 1000 wr.c].map V.int)) hD9)).same (ae.new (o:=.tup ([min 1000 wr.a,min 1000 wr.b,min 1000 wr.c].map V.int)) hl);have hlt:aQ K (upd (upd H9 D9 (.lst ([min 1000 wr.a,min 1000 wr.b,min 1000 wr.c].map V.int))) l (.tup ([min 1000 wr.a,min 1000 wr.b,min 1000 wr.c].map V.int))) (wD ⟨min 1000 wr.a,min 1000 wr.b,min 1000 wr.c⟩) (.ref l):=aQ.tupN hl (.cons (.int _) (.cons (.int _) (.cons (.int _) .nil)));generalize upd (upd H9 D9 (.lst ([min 1000 wr.a,min 1000 wr.b,min 1000 wr.c].map V.int))) l (.tup ([min 1000 wr.a,min 1000 wr.b,min 1000 wr.c].map V.int))=Ha at gi5 hlt ⊢;generalize R3.mk (min 1000 wr.a) (min 1000 wr.b) (min 1000 wr.c)=wf at wtl hlt;refine⟨_,rfl,_,rfl,_,rfl,_,rfl,Aa,λkt hkt=>?_⟩;have ek:[V.int (0+(i:Int)),V.int (0+(j:Int)),V.int (0+(k:Int))]=(bH (i,j,k)).map kV:=by rw[Ku,Ku,Ku];rfl
      have gi6:=gi5.same (ae.new (o:=.tup [V.int (0+(i:Int)),V.int (0+(j:Int)),V.int (0+(k:Int))]) hkt);have hlt:=aQ.same (ae.new (o:=.tup [V.int (0+(i:Int)),V.int (0+(j:Int)),V.int (0+(k:Int))]) hkt) hlt;have hkt':upd Ha kt (.tup [V.int (0+(i:Int)),V.int (0+(j:Int)),V.int (0+(k:Int))]) kt=some (.tup ((bH (i,j,k)).map kV)):=by rw[<- ek];exact ac
      generalize upd Ha kt (.tup [V.int (0+(i:Int)),V.int (0+(j:Int)),V.int (0+(k:Int))])=Hb at gi6 hlt hkt' ⊢;obtain⟨f,⟨vs,gd,gv⟩,gw⟩:=gi6.gr;have hlen:=mC.len gv;have fresh:((i,j,k):Kn)∉lA n i++lj n i j++mx i j k:=λm=>by
       rcases Ek.mp m with m|m
       ·rcases Ek.mp m with m|m
        ·have:=(wE.mp m).1;exact absurd this (Eh _)
        ·have:=(rF.mp m).2.1;exact absurd this (Eh _)
       ·have:=(rd.mp m).2.2;exact absurd this (Eh _)
      refine⟨d,_,rfl,vF.t (k:=bH (i,j,k)) gd hkt' (by rw[kI hlen];exact bP (Dt (tJ h7 hi hj (Gm hk)) (by decide))),⟨_,_,rfl⟩,?_⟩;rw[t5 hlen fresh,oZ,<- F'];have sdb:dH Hb (upd Hb d (.dT (gK (lA n i++lj n i j++mx i j k++[(i,j,k)]) (vs++[.ref l])))):=dH.put gd;refine⟨gi6.tw.sameD sdb,gi6.mv.trans λb o e nb=>?_,aQ.sameD (dH.cut sdb) gi6.rs,λu=>if u=(i,j,k) then wf else f u,⟨_,ac,?_⟩,λu hu=>?_⟩
      ·rw[ap (λz=>nb (by simp[z]))];exact e
      ·rw[FP];refine(aw.sameD sdb (show aw K Hb _ _ from ?_)).snoc ?_
       ·have cg:(lA n i++lj n i j++mx i j k).map (λu=>wD (if u=(i,j,k) then wf else f u))=(lA n i++lj n i j++mx i j k).map (λu=>wD (f u)):=Lh λu hu=>by
         have nu:u≠(i,j,k):=λz=>fresh (z▸hu)
         rw[DS nu]
        rw[cg];exact gv
       ·show aQ K _ (wD (if((i,j,k):Kn)=(i,j,k) then wf else f (i,j,k))) _;rw[Ee rfl];exact aQ.sameD sdb hlt
      ·show(if u=(i,j,k) then wf else f u).Wt;rcases Ek.mp hu with hu|hu
       ·have nu:u≠(i,j,k):=λz=>fresh (z▸hu)
        rw[DS nu];exact gw u hu
       ·rw[Ee (DC.mp hu)];exact wtl
    ·rintro σ H6 ⟨⟨oc,ow,rfl⟩,gi3⟩;refine⟨⟨_,_,_,rfl⟩,?_⟩;rw[k_,<- F'];exact gi3
   ·rintro σ H5 ⟨⟨ob,oc,ow,rfl⟩,gi2⟩;refine⟨⟨_,_,_,_,rfl⟩,?_⟩;rw[ku];exact gi2
  ·rintro σ H4 ⟨⟨oa,ob,oc,ow,rfl⟩,gi1⟩;obtain⟨f,g1,g2⟩:=gi1.gr;refine⟨_,rfl,q d f H4 g1 (λu hu=>g2 u hu) gi1.tw (λb o e nb=>?_) hd⟩;refine gi1.mv b o (sd _ _ e) λz=>?_
   simp only[Dx,Ef,Gu] at z nb;rcases z with z|z|z
   ·exact nb (.inl z)
   ·exact nb (.inr z)
   ·rw[z,hd] at e;cases e
theorem oP:az uA1 uA1 (ai gR):=dX
theorem qV {n:Nat}(h2:2<=n)(h7:n<=7)(h:nX 2=nX n):n=2:=by
 rcases(by omega:n=2\/n=3\/n=4\/n=5\/n=6\/n=7) with rfl|rfl|rfl|rfl|rfl|rfl
 ·rfl
 all_goals exact absurd h (by decide +kernel)
inductive b7 (K:Dd)(H:Hp):Int->V->Option Nat->Prop
 |gt {v:V}{n:Nat}{f:Kn->R3}:jz K H n f v->xD n f->2<=n->n<=7->b7 K H 0 v none
 |gtn {v:V}:zm K H v->b7 K H 0 v (some 5)
 |ct {v:V}{ps:List Pt}:bX K H ps v->vS ps->b7 K H 1 v none
 |ctn {v:V}:AE K H v->b7 K H 1 v (some 2)
 |grn {v:V}:tS K H v->b7 K H 2 v (some 10)
 |grk {x y:Str}{rows:List Str}:x.length<=900->Fq x "\n"=y::rows->(∀ n:Nat,2<=n->n<=7->y≠nX n)->b7 K H 2 (.str x) (some 10)
 |grb {x:Str}{rows:List Str}{i:Nat}{row:Str}{t:Kn}:x.length<=900->Fq x "\n"=nX 2::rows->rows.length=8->wg 2 rows->rows[i]?=some row->(aG 2)[i]?=some t->nW row t=none->b7 K H 2 (.str x) (some 10)
 |grg {x:Str}{rows:List Str}{f:Kn->R3}:x.length<=900->Fq x "\n"=nX 2::rows->rows.length=8->wg 2 rows->(∀ (i:Nat) (row:Str) (t:Kn),rows[i]?=some row->(aG 2)[i]?=some t->nW row t=some (f t))->xD 2 f->b7 K H 2 (.str x) none
 |crn {v:V}:tS K H v->b7 K H 3 v (some 10)
 |crb {x:Str}{nss:List (List Int)}:x.length<=900->(Fq x ", ").mapM cS=some nss->ud (.list (nss.map λns=>.tuple (ns.map Eo)))=false->b7 K H 3 (.str x) (some 10)
inductive lI (K:Dd)(vs:List V)(H:Hp)(Q:VK)(E:XK):Prop
 |mk (k:Int) (x:V) (o:Option Nat) (_:vs=[.int k,x]) (_:b7 K H k x o) (_:(∀ i,o=some i->Rz K i H E)) (_:(o=none->∀ v H',ae H H'->Q v H'))
theorem ly (T:c6 K mg w):dA P w K mg base (cC P w) 9 "_law_did" uA1 [] (lI K):=by
  refine T.x23.calX oP (bb:=λ_ _ _ _ _ H vs Q E hr h=>?_);obtain⟨k,x,o,rfl,ak,qz,q⟩:=h;refine⟨_,(cE.go (af (aM (aH eW (ar 0) ah (aS _)) (ag (au (b8 bx rfl (kf T) (hr.mono (by decide)) rfl (aB (ar 1))))) aD)
   (af (aM (aH eW (ar 0) ah (aS _)) (ag (au (b8 bx rfl (jB T) (hr.mono (by decide)) rfl (aB (ar 1))))) aD)
   (ag (au (dY (aH eW (ar 0) ah (aS _)) (b8 bx rfl (ke T) (hr.mono (by decide)) rfl (aB (ar 1))) (b8 bx rfl (jL T) (hr.mono (by decide)) rfl (aB (ar 1))))))))),?_⟩
  cases ak with
  |@gt _ n f hv hw h2 h7=>
   refine⟨_,rfl,_,_,rfl,rfl,true,rfl,aN ?_⟩;exact⟨_,rfl,x,rfl,.inl ⟨n,f,hv,hw,h2,h7,λH' s=>q rfl _ _ s⟩⟩
  |gtn hn=>
   refine⟨_,rfl,_,_,rfl,rfl,true,rfl,aN ?_⟩;exact⟨_,rfl,x,rfl,.inr ⟨hn,(qz 5 rfl).out (ae.refl _)⟩⟩
  |@ct _ ps hv hp=>
   refine⟨_,rfl,_,_,rfl,rfl,false,rfl,aO ⟨_,rfl,_,_,rfl,rfl,true,rfl,aN ?_⟩⟩;exact⟨_,rfl,x,rfl,.inl ⟨ps,hv,hp,λH' s=>q rfl _ _ s⟩⟩
  |ctn hn=>
   refine⟨_,rfl,_,_,rfl,rfl,false,rfl,aO ⟨_,rfl,_,_,rfl,rfl,true,rfl,aN ?_⟩⟩;exact⟨_,rfl,x,rfl,.inr ⟨hn,(qz 2 rfl).out (ae.refl _)⟩⟩
  |grn hn=>
   refine⟨_,rfl,_,_,rfl,rfl,false,rfl,aO ⟨_,rfl,_,_,rfl,rfl,false,rfl,aO ⟨_,rfl,_,_,rfl,rfl,true,rfl,aN ?_⟩⟩⟩;exact⟨_,rfl,x,rfl,.inl ⟨hn,(qz 10 rfl).out (ae.refl _)⟩⟩
  |@grk text y rows hz hs hk=>
   refine⟨_,rfl,_,_,rfl,rfl,false,rfl,aO ⟨_,rfl,_,_,rfl,rfl,false,rfl,aO ⟨_,rfl,_,_,rfl,rfl,true,rfl,aN ?_⟩⟩⟩;exact⟨_,rfl,.str text,rfl,.inr ⟨text,y,rows,rfl,hz,hs,λ_=>(qz 10 rfl).out (ae.refl _),λn h2 h7 e=>absurd e (hk n h2 h7)⟩⟩
  |@grb text rows i row t hz hs h8 ok hr ht hw=>
   refine⟨_,rfl,_,_,rfl,rfl,false,rfl,aO ⟨_,rfl,_,_,rfl,rfl,false,rfl,aO ⟨_,rfl,_,_,rfl,rfl,true,rfl,aN ?_⟩⟩⟩;refine⟨_,rfl,.str text,rfl,.inr ⟨text,_,rows,rfl,hz,hs,λhk=>absurd rfl (hk 2 (by decide) (by decide)),λn h2 h7 e=>?_⟩⟩;cases qV h2 h7 e;exact⟨λne=>absurd h8 ne,λ_=>⟨ok,λ_ _ _ _ _ _=>(qz 10 rfl).out (ae.refl _),λf hf _=>absurd (hf i row t hr ht) (by rw[hw];exact λz=>nomatch z)⟩⟩
  |@grg text rows f hz hs h8 ok hf hw=>
   refine⟨_,rfl,_,_,rfl,rfl,false,rfl,aO ⟨_,rfl,_,_,rfl,rfl,false,rfl,aO ⟨_,rfl,_,_,rfl,rfl,true,rfl,aN ?_⟩⟩⟩;refine⟨_,rfl,.str text,rfl,.inr ⟨text,_,rows,rfl,hz,hs,λhk=>absurd rfl (hk 2 (by decide) (by decide)),λn h2 h7 e=>?_⟩⟩;cases qV h2 h7 e;exact⟨λne=>absurd h8 ne,λ_=>⟨ok,λi row t h1 h2 h3=>absurd (hf i row t h1 h2) (by rw[h3];exact λz=>nomatch z),λf' hf' _ g C dx L H' s _ _ _=>q rfl _ _ s⟩⟩
  |crn hn=>
   refine⟨_,rfl,_,_,rfl,rfl,false,rfl,aO ⟨_,rfl,_,_,rfl,rfl,false,rfl,aO ⟨_,rfl,_,_,rfl,rfl,false,rfl,aO ?_⟩⟩⟩;exact⟨_,rfl,x,rfl,.inl ⟨hn,(qz 10 rfl).out (ae.refl _)⟩⟩
  |@crb text nss hz hm hp=>
   refine⟨_,rfl,_,_,rfl,rfl,false,rfl,aO ⟨_,rfl,_,_,rfl,rfl,false,rfl,aO ⟨_,rfl,_,_,rfl,rfl,false,rfl,aO ?_⟩⟩⟩;exact⟨_,rfl,.str text,rfl,.inr ⟨text,nss,rfl,hz,hm,hp,(qz 10 rfl).out (ae.refl _)⟩⟩
theorem cZ:az ["_law_kind","_law_thing","_law_caught","e"] uA1 (ai fq):=dX
def eF:Option Nat->Str
 |none=>"told"
 |some i=>fS.getD i ""
inductive mM (K:Dd)(vs:List V)(H:Hp)(Q:VK)(_:XK):Prop
 |mk (k:Int) (x:V) (o:Option Nat) (_:vs=[.int k,x]) (_:b7 K H k x o) (_:∀ H',ae H H'->Q (.str (eF o)) H')
theorem bh (T:c6 K mg w):dA P w K mg base (cC P w) 10 "_law_told" uA1 [] (mM K):=by
  refine T.x24.cal cZ (bb:=λ_ _ _ _ _ H vs Q E hr h=>?_);obtain⟨k,x,o,rfl,ak,q⟩:=h;refine⟨_,(cE.go (af (aE 2 cZ.nd nr)
   (af (wb (K:=K) (i:=3) rfl cZ.nd rfl rfl rfl rfl rfl rfl (λ_ _ W hT=>(ag (iF (b8 hT rfl (ly T) (hr.mono (by decide)) rfl (aL (ar 0) (ar 1)))))) (λ_=>(ag (aE 2 cZ.nd (ar 3)))))
   (ag (au (dY (aH yi (ar 2) nr (aS _)) ao (aj aU (jG T) hr (aB (ar 2))))))))),?_⟩
  refine⟨_,rfl,_,rfl,k,x,o,rfl,ak,λi hi=>?_,λhn v H1 s1=>?_⟩
  ·have hw:fS[i]?=some (eF o):=by
    subst hi;generalize ho:some i=o at ak;cases ak with
    |gt _ _ _ _=>cases ho
    |gtn _=>cases ho;rfl
    |ct _ _=>cases ho
    |ctn _=>cases ho;rfl
    |grn _=>cases ho;rfl
    |grk _ _ _=>cases ho;rfl
    |grb _ _ _ _ _ _ _=>cases ho;rfl
    |grg _ _ _ _ _ _=>cases ho
    |crn _=>cases ho;rfl
    |crb _ _ _=>cases ho;rfl
   refine Rz.caught T.x1 λC H1 ee hk s1 he=>?_
   refine⟨_,rfl,_,rfl,rfl,_,rfl,?_⟩;refine aO ⟨_,rfl,.ref ee,i,_,rfl,⟨ee,C,rfl,hk,ac⟩,hw,λH2 s2=>?_⟩;exact q _ ((s1.trans (ae.new he)).trans s2)
  ·subst hn;exact⟨_,rfl,rfl,_,rfl,aN (q _ s1)⟩
theorem dU:az ["_law_script","_law_town_here","_law_grid_here","_law_curve","_law_thing","_law_both","_law_line","_law_rows","_law_first","_law_last"] uA5 (ai iW):=dX
structure y9 (K:Dd)(f:Kn->R3)(ps:List Pt)(t r g v:Du)(H:Hp):Prop where
 gi:jz K H 2 f (.ref g)
 k2:K2 K ps H t r (.ref v)
theorem y9.mv {K:Dd}{f:Kn->R3}{ps:List Pt}{t r g v:Du}{H H':Hp}(h:y9 K f ps t r g v H)(m:Mv [t,r] H H')(tw:bv H' t r):y9 K f ps t r g v H':=⟨h.gi.mv m h.k2.tw.lists,h.k2.mv m tw⟩
theorem y9.same {K:Dd}{f:Kn->R3}{ps:List Pt}{t r g v:Du}{H H':Hp}(h:y9 K f ps t r g v H)(s:ae H H'):y9 K f ps t r g v H':=⟨h.gi.same s,h.k2.same s⟩
theorem qt {K:Dd}{H:Hp}{x:V}{o0 o1 o2 o3:Option Nat}(a0:b7 K H 0 x o0)(a1:b7 K H 1 x o1)(a2:b7 K H 2 x o2)(a3:b7 K H 3 x o3):∀ {j:Nat}{e:DZ},[Gx (eF o0),.str (eF o1),.str (eF o2),.str (eF o3)][j]?=some e->∃ o,b7 K H (0+(j:Int)) x o/\e=.str (eF o)
 |0,_,h=>⟨o0,a0,by cases h;rfl⟩
 |1,_,h=>⟨o1,a1,by cases h;rfl⟩
 |2,_,h=>⟨o2,a2,by cases h;rfl⟩
 |3,_,h=>⟨o3,a3,by cases h;rfl⟩
 |j+4,_,h=>by simp at h
def B7 (rows:List Str):Bool:=(rows.zip (aG 2)).all λp=>!(j9 (fw p.1 p.2)).all cY||(cS (fw p.1 p.2)).isSome
theorem u8 {α β:Type}{xs:List α}{ys:List β}{i:Nat}{x:α}{y:β}(h1:xs[i]?=some x)(h2:ys[i]?=some y):(x,y)∈xs.zip ys:=DF (i:=i) (by rw[Ea];exact⟨h1,h2⟩)
theorem CU {a b:Bool}(h:(!a||b)=true)(e:a=true):b=true:=by
 cases a
 ·cases e
 ·exact h
theorem um {rows:List Str}(h:B7 rows=true):wg 2 rows:=λi row t h1 h2 h3=>by
 exact FE.mp (CU (DU.mp h (row,t) (u8 h1 h2)) h3)
def wM (x:Str):Bool:=decide (x.length<=900)&&match Fq x "\n" with
 |[]=>false
 |y::rows=>decide (y=nX 2)&&decide (rows.length=8)&&B7 rows&&(rows.zip (aG 2)).any λp=>(nW p.1 p.2).isNone
theorem uZ {K:Dd}{H:Hp}{x:Str}(h:wM x=true):b7 K H 2 (.str x) (some 10):=by
 unfold wM at h;rw[Dw] at h;obtain⟨h1,h2⟩:=h
 split at h2
 ·cases h2
 ·next y rows e=>
  simp only[Dw] at h2;obtain⟨⟨⟨h3,h4⟩,h5⟩,h6⟩:=h2;obtain rfl:=Er h3;obtain⟨⟨row,t⟩,m,hw⟩:=List.any_eq_true.mp h6;obtain⟨i,hi⟩:=List.mem_iff_getElem?.mp m;rw[Ea] at hi;exact .grb (Er h1) e (Er h4) (um h5) hi.1 hi.2 (Option.isNone_iff_eq_none.mp hw)
def fG:Kn->R3:=λt=>if t=(1,1,1) then⟨0,0,1000⟩ else⟨1,2,3⟩
def BC (o:Option R3)(r:R3):Bool:=match o with
 |some q=>decide (q.a=r.a)&&decide (q.b=r.b)&&decide (q.c=r.c)
 |none=>false
theorem yp {o:Option R3}{r:R3}(h:BC o r=true):o=some r:=by
 unfold BC at h
 split at h
 ·next q=>
  simp only[Dw,EN] at h;obtain⟨⟨h1,h2⟩,h3⟩:=h;cases q;cases r;cases h1;cases h2;cases h3;rfl
 ·cases h
def rR (x:Str):Bool:=decide (x.length<=900)&&match Fq x "\n" with
 |[]=>false
 |y::rows=>decide (y=nX 2)&&decide (rows.length=8)&&B7 rows&&(rows.zip (aG 2)).all λp=>BC (nW p.1 p.2) (fG p.2)
theorem AB:xD 2 fG:=λt _=>by
 unfold fG
 split<;>exact⟨by decide,by decide,by decide,by decide,by decide,by decide⟩
theorem sZ {K:Dd}{H:Hp}{x:Str}(h:rR x=true):b7 K H 2 (.str x) none:=by
 unfold rR at h;rw[Dw] at h;obtain⟨h1,h2⟩:=h
 split at h2
 ·cases h2
 ·next y rows e=>
  simp only[Dw] at h2;obtain⟨⟨⟨h3,h4⟩,h5⟩,h6⟩:=h2;obtain rfl:=Er h3;exact .grg (Er h1) e (Er h4) (um h5) (λi row t e1 e2=>yp (DU.mp h6 (row,t) (u8 e1 e2))) AB
def v8 (x:Str):Bool:=decide (x.length<=900)&&match Fq x "\n" with
 |[]=>false
 |y::_=>[2,3,4,5,6,7].all λn=>!decide (y=nX n)
theorem vd {K:Dd}{H:Hp}{x:Str}(h:v8 x=true):b7 K H 2 (.str x) (some 10):=by
 unfold v8 at h;rw[Dw] at h;obtain⟨h1,h2⟩:=h
 split at h2
 ·cases h2
 ·next y rows e=>
  refine .grk (Er h1) e λn n2 n7 z=>?_
  have:=DU.mp h2 n (by simp only[Dx,Ef,Gu];omega);rw[DE z] at this;cases this
def yW (x:Str):Bool:=decide (x.length<=900)&&match (Fq x ", ").mapM cS with
 |none=>false
 |some nss=>!ud (.list (nss.map λns=>.tuple (ns.map Eo)))
theorem uW {K:Dd}{H:Hp}{x:Str}(h:yW x=true):b7 K H 3 (.str x) (some 10):=by
 unfold yW at h;rw[Dw] at h;obtain⟨h1,h2⟩:=h
 split at h2
 ·cases h2
 ·next nss e=>
  exact .crb (Er h1) e (by simpa using h2)
def nQ:List Str:=["0 0 0: 1 2 3","0 0 1: 1 2 3","0 1 0: 1 2 3","0 1 1: 1 2 3","1 0 0: 1 2 3","1 0 1: 1 2 3","1 1 0: 1 2 3"]
def j7:Str:=KP "\n" ("knots 2"::nQ)
def iL:List Str:=["1 1 1: 1 2 1001","1 1 1: 1 2","1 1 1 1 2 3","1 1 0: 1 2 3","1 1 1: 1 2 03","1 1 1: 1 2 3 4","1 1 1:1 2 3"]
theorem sM:iL.all (λx=>wM (j7++"\n"++x))=true:=by decide +kernel
theorem r_:rR (j7++"\n1 1 1: 0 0 1000")=true:=by decide +kernel
theorem wy:v8 (JZ j7 "knots 2" "knots 1")=true:=by decide +kernel
theorem qN:(uA7:List Str).all yW=true:=by decide +kernel
theorem yC (T:c6 K mg w){f:Du}{fd:F8}(F:AT K "law" "law" iW f fd):iX P w K mg base (cC P w) 11 f fd uA5 (ou K):=by
 refine AT.okX F dU (λvs H Q E h=>?_) (λcdv A outer s H vs Q E hr h=>?_)
 ·obtain⟨a,ns,rfl,_⟩:=h;rfl
 ·obtain⟨a,ns,rfl,hS,hl,q⟩:=h;refine⟨_,(cE.go (af (aE 1 dU.nd (aj aU (m9 T) hr (aB (ar 0))))
   (af (aE 2 dU.nd (eR (K:=K) rfl aU (dc T) (hr.mono (by decide)) rfl (aL ah (aj aU (nN T) hr (aL (ar 1) ah)))))
   (af (aE 3 dU.nd (eR (K:=K) rfl aU (bI T) (hr.mono (by decide)) rfl (aB (aj aU (kB T) hr (aa (ar 1) (aa ah (aa ah (aa bQ aV))))))))
   (af (eM FQ rfl (bG (K:=K) rfl (aX (aa nr (aa ah (aa bQ (aa (aX aV) (aa rX (aa (cL (aB ao)) (aa (aj aU (ls T) hr (aL (ar 1) ah)) aV))))))))) (aq 4 dU.nd) (ag (aM (aH (vN (K:=K) rfl hr.units) (aP ["_law_kind"] ["_law_thing"] [4] 1 (bt rfl T.x4 (aB ah)) (λnd=>(aq 0 nd)) aI (aj aU (bh T) hr (aL (ar 0) (ar 1)))) (aX (aa ao (aa ao (aa ao (aa ao aV))))) (aS _)) (ag (au bQ)) aD)))
   (af (aM (aH (vN (K:=K) rfl hr.units) (aP ["_law_kind"] ["_law_grid_here"] [2] 1 (bt rfl T.x4 (aB ah)) (λnd=>(aq 0 nd)) aI (aj aU (bh T) hr (aL (ar 0) (ar 1)))) (aX (aa ao (aa ao (aa ao (aa ao aV))))) (aS _)) (ag (au bQ)) aD)
   (af (aM (aH (vN (K:=K) rfl hr.units) (aP ["_law_kind"] ["_law_curve"] [3] 1 (bt rfl T.x4 (aB ah)) (λnd=>(aq 0 nd)) aI (aj aU (bh T) hr (aL (ar 0) (ar 1)))) (aX (aa ao (aa ao (aa ao (aa ao aV))))) (aS _)) (ag (au bQ)) aD)
   (af (aE 5 dU.nd (eR (K:=K) rfl aU (dE T) (hr.mono (by decide)) rfl (aL (ar 3) (ar 3))))
   (af (aM (WW.pt (cG (aH jd (aj aU (bh T) hr (aL ah (ar 5))) ao (aS _)) (cG (aH jd (aj aU (bh T) hr (aL ah ao)) ao (aS _)) (cy (aH jd (aj aU (bh T) hr (aL ah ao)) ao (aS _)))))) (ag (au bQ)) aD)
   (af (eM FQ rfl (bG (K:=K) rfl (aX (aa ao (aa ao (aa ao aV))))) (aq 6 dU.nd) (ag (aM (aH jd (aj aU (bh T) hr (aL ah (ar 6))) ao (aS _)) (ag (au bQ)) aD)))
   (af (aE 7 dU.nd (aX (aa ao (aa ao (aa ao (aa ao (aa ao (aa ao (aa ao aV)))))))))
   (af (aE 8 dU.nd (dw EB GN GO (jU (K:=K) rfl) ao (aB (aA fM (aX (aB ao)) (ar 7)))))
   (af (eM FQ rfl (bG (K:=K) rfl (aX (aa ao (aa ao (aa ao (aa ao (aa ao (aa ao (aa ao aV))))))))) (aq 9 dU.nd) (ag (aM (aH jd (aj aU (bh T) hr (aL ah (aA eU (aA eU (ar 8) ao) (ar 9)))) ao (aS _)) (ag (au bQ)) aD)))
   (ag (au (iA (dv mU (aj aU (bh T) hr (aL ah (aA eU (ar 8) ao))) ao (aS _)) (gk (dv mU (aj aU (bh T) hr (pX (ar 8))) ao (aS _))))))))))))))))))),?_⟩
  refine⟨_,rfl,a,ns,rfl,hS,hl,λt r H0 s0 _ _ tw0=>?_⟩;clear hS hl s0;refine⟨_,rfl,t,r,2,rfl,tw0,by decide,by decide,λd f H3 gp wt qX mv3 nd=>?_⟩;refine λC g dx hC hg hdx hne=>?_
  generalize e0:upd (upd H3 dx _) g _=H5;have s5:=yA hg hdx hne e0;have gv:=cT e0;refine⟨g,C,dx,d,2,f,rfl,hC,gv,⟨_,.refl _,gp.same s5⟩,wt,by decide,by decide,λH6 Lt mv6 hg6 gL hL=>⟨rfl,?_⟩⟩;have s6:ae H3 H6:=λb o e=>mv6 _ _ (s5 _ _ e) (λz=>by rw[DC.mp z,hg] at e;cases e)
  have tw6:=qX.same s6;have gi6:jz K H6 2 f (.ref g):=⟨g,C,dx,Lt,rfl,hC,hg6,gL⟩
  clear mv6 hg6 gL hL s6 s5 gv hg hdx hne qX mv3 nd tw0 gp;refine⟨_,rfl,t,r,60,60,true,rfl,tw6,by decide,by decide,by decide,by decide,λD ps z xs H1 hD hds hp hz ez zc nD tw1 mv1=>?_⟩;have gi1:=gi6.mv mv1 tw6.lists;refine λC v dx hC hv hdx hne=>?_
  generalize e0:upd (upd H1 dx _) v _=H9;have s9:=yA hv hdx hne e0;have gv:=cT e0;refine⟨v,C,dx,_,ps,rfl,hC,gv,.lst (.inl (s9 _ _ hD)) (aw.same s9 hds),hp,λH10 mv10 hx10 cv=>⟨rfl,?_⟩⟩;have sA:ae H1 H10:=λb o e=>mv10 _ _ (s9 _ _ e) (λz=>by rw[DC.mp z,hv] at e;cases e)
  have Y:y9 K f ps t r g v H10:=⟨gi1.same sA,tw1.same sA,cv _ λb m=>by obtain⟨ys,e⟩:=tw1.lists b m;exact⟨ys,s9 _ _ e⟩⟩
  clear cv mv10 s9 gv sA tw1 hds hD hx10 hv hdx hne gi1 mv1 gi6 tw6 nD;obtain⟨tw,mm,L⟩:bv H10 t r/\Mv [t,r] H10 H10/\aw K (cut [t,r] H10) [] []:=⟨Y.k2.tw,Mv.refl,.nil⟩
  refine⟨(by show 0<=Ds;decide),λo1 ho1=>?_⟩;obtain⟨tw,mm,L,go1,zo1⟩:=oA tw mm L .nil ho1;generalize upd H10 o1 (.lst [])=Go1 at tw mm L go1 zo1 ⊢;clear zo1 ho1 go1;refine λo2 ho2=>?_
  obtain⟨tw,mm,L,go2,zo2⟩:=tm tw mm L ho2;generalize upd Go1 o2 (.dK [])=Go2 at tw mm L go2 zo2 ⊢;clear zo2 ho2 go2;refine⟨(by show 1<=Ds;decide),λo3 ho3=>?_⟩;obtain⟨tw,mm,L,go3,zo3⟩:=vo tw mm L (.cons (.str _) .nil) ho3;generalize upd Go2 o3 (.tup [.str "knots 2"])=Go3 at tw mm L go3 zo3 ⊢;clear zo3 ho3 go3;refine⟨_,rfl,t,r,60,rfl,tw,by decide,by decide,λvc c Hc hv _ _ twc mvc=>?_⟩;replace L:=aw.same mvc.cut L;replace mm:=mm.trans mvc;replace tw:=twc;have hc:=aQ.cutT tw.lists (K:=K) (T:=[t,r]) (d:=c.col) rfl hv;clear twc mvc hv;refine⟨(by show 7<=Ds;decide),λo4 ho4=>?_⟩;obtain⟨tw,mm,L,go4,zo4⟩:=oA tw mm L (.cons .non (.cons (.int _) (.cons (.bl _) (.cons (L.at (i:=2) rfl rfl) (.cons (L.at (i:=1) rfl rfl) (.cons (L.at (i:=0) rfl rfl) (.cons hc .nil))))))) ho4;replace hc:=aQ.same zo4 hc;generalize upd Hc o4 (.lst [.non,.int 5,.bl true,.ref o1,.ref o2,.ref o3,vc])=Go4 at tw mm L go4 zo4 hc ⊢;clear zo4 ho4;replace Y:=Y.mv mm tw;have hB:∀ {j:Nat}{x:V},[.non,.int 5,.bl true,.ref o1,.ref o2,.ref o3,vc][j]?=some x->∃ dd,aQ K Go4 dd x/\∀ i,dd≠.str i:=λ{j x} e=>by
   have m:=DF e;simp only[Dx,Ef,Gu] at m;rcases m with rfl|rfl|rfl|rfl|rfl|rfl|rfl
   ·exact⟨.none,.non,λ_ z=>nomatch z⟩
   ·exact⟨.int 5,.int _,λ_ z=>nomatch z⟩
   ·exact⟨.bool true,.bl _,λ_ z=>nomatch z⟩
   ·exact⟨.list [],aQ.uncut (L.at (i:=3) rfl rfl),λ_ z=>nomatch z⟩
   ·exact⟨.dict [],aQ.uncut (L.at (i:=2) rfl rfl),λ_ z=>nomatch z⟩
   ·exact⟨.tuple [.str "knots 2"],aQ.uncut (L.at (i:=1) rfl rfl),λ_ z=>nomatch z⟩
   ·exact⟨c.col,aQ.uncut hc,λ_ z=>nomatch z⟩
  refine⟨o4,true,rfl,⟨_,bj.of (qC go4).1⟩,mG (K:=K) (xs:=[.non,.int 5,.bl true,.ref o1,.ref o2,.ref o3,vc]) (λi σ H'=>(∃ o4,σ=[some (.ref a),some (.ref t),some (.ref g),some (.ref v),o4,none,none,none,none,none])/\ae Go4 H')
   ⟨⟨_,rfl⟩,ae.refl _⟩ (λi σ H' _ ⟨_,s⟩=>bj.of (s _ _ (qC go4).1)) ?_ ?_⟩
  ·rintro i xv σ H1 ex ⟨⟨o4,rfl⟩,s1⟩;obtain⟨dd,hdd,hn⟩:=hB ex;replace hdd:=aQ.same s1 hdd;refine⟨4,rfl,by decide,by decide,bT (K:=K) (lo:=0) (n:=4) (ds:=[.str (eF (some 5)),.str (eF (some 2)),.str (eF (some 10)),.str (eF (some 10))]) rfl (by decide) (λj e H4 he s4 R kk S=>?_) (λys H4 s4 hys D hD=>?_)⟩
   ·refine aN (B:=S H4) ?_;have hd4:=aQ.same s4 hdd;obtain⟨o,ak,rfl⟩:=qt (.gtn (.inl ⟨_,hd4⟩)) (.ctn (.inl ⟨_,hd4⟩)) (.grn (.inl ⟨_,hd4,hn⟩)) (.crn (.inl ⟨_,hd4,hn⟩)) he;exact⟨_,rfl,_,rfl,0+(j:Int),xv,o,rfl,ak,λH5 s5=>kk _ _ ⟨s5,.str _⟩⟩
   refine⟨(by show 4<=Ds;decide),λD2 hD2=>?_⟩;refine⟨_,_,aQ.same (ae.new hD2) (aQ.listN hD hys),aQ.listN hD2 (.cons (.str _) (.cons (.str _) (.cons (.str _) (.cons (.str _) .nil)))),by decide +kernel,by decide +kernel,false,FS V.bl (by decide +kernel),aO ?_⟩;exact⟨⟨_,rfl⟩,((s1.trans s4).trans (ae.new hD)).trans (ae.new hD2)⟩
  rintro σ HA ⟨⟨o4,rfl⟩,sA⟩;replace Y:=Y.same sA;clear tw mm L hB sA go4 hc;refine⟨4,rfl,by decide,by decide,bT (K:=K) (lo:=0) (n:=4) (ds:=[.str (eF none),.str (eF (some 2)),.str (eF (some 10)),.str (eF (some 10))]) rfl (by decide) (λj e H4 he s4 R kk S=>?_) (λys H4 s4 hys D hD=>?_)⟩
  ·refine aN (B:=S H4) ?_;have Y4:=Y.same s4;obtain⟨_,Cg,dg,Lg,eg,hCg,hig,_⟩:=Y4.gi;cases eg;obtain⟨o,ak,rfl⟩:=qt (.gt Y4.gi wt (by decide) (by decide)) (.ctn (.inr ⟨g,Cg,dg,_,rfl,.inl hCg,hig⟩)) (.grn (.inr ⟨g,Cg,dg,_,rfl,.inl hCg,hig⟩)) (.crn (.inr ⟨g,Cg,dg,_,rfl,.inl hCg,hig⟩)) he;exact⟨_,rfl,_,rfl,0+(j:Int),.ref g,o,rfl,ak,λH5 s5=>kk _ _ ⟨s5,.str _⟩⟩
  refine⟨(by show 4<=Ds;decide),λD2 hD2=>?_⟩;refine⟨_,_,aQ.same (ae.new hD2) (aQ.listN hD hys),aQ.listN hD2 (.cons (.str _) (.cons (.str _) (.cons (.str _) (.cons (.str _) .nil)))),by decide +kernel,by decide +kernel,false,FS V.bl (by decide +kernel),aO ?_⟩;generalize e0:upd (upd H4 D _) D2 _=HB;replace Y:=((Y.same s4).same (ae.new hD)).same (dG hD2 e0);clear hys hD hD2 s4 e0;refine⟨4,rfl,by decide,by decide,bT (K:=K) (lo:=0) (n:=4) (ds:=[.str (eF (some 5)),.str (eF none),.str (eF (some 10)),.str (eF (some 10))]) rfl (by decide) (λj e H4 he s4 R kk S=>?_) (λys H4 s4 hys D hD=>?_)⟩
  ·refine aN (B:=S H4) ?_;have Y4:=Y.same s4;obtain⟨Cg,dg,Lg,hCg,hig⟩:=Y4.k2.x;obtain⟨o,ak,rfl⟩:=qt (.gtn (.inr ⟨v,Cg,dg,_,rfl,hCg,hig⟩)) (.ct Y4.k2.c hp) (.grn (.inr ⟨v,Cg,dg,_,rfl,.inr hCg,hig⟩)) (.crn (.inr ⟨v,Cg,dg,_,rfl,.inr hCg,hig⟩)) he;exact⟨_,rfl,_,rfl,0+(j:Int),.ref v,o,rfl,ak,λH5 s5=>kk _ _ ⟨s5,.str _⟩⟩
  refine⟨(by show 4<=Ds;decide),λD2 hD2=>?_⟩;refine⟨_,_,aQ.same (ae.new hD2) (aQ.listN hD hys),aQ.listN hD2 (.cons (.str _) (.cons (.str _) (.cons (.str _) (.cons (.str _) .nil)))),by decide +kernel,by decide +kernel,false,FS V.bl (by decide +kernel),aO ?_⟩;generalize e0:upd (upd H4 D _) D2 _=HC;replace Y:=((Y.same s4).same (ae.new hD)).same (dG hD2 e0);clear hys hD hD2 s4 e0;have two:=hp.two;have e0:ps[0]?=some ps[0]:=DB (by omega);generalize ps[0]=y at e0;refine⟨_,rfl,_,rfl,λCJ j dj hCJ hj hdj hnj=>?_⟩;have sj:ae HC (upd (upd HC dj (.own j)) j (.ins CJ dj [])):=(ae.new hdj).trans (ae.new (by rw[ap hnj.symm];exact hj));refine⟨j,CJ,dj,.ref v,.ref v,ps,ps,y,z,z,rfl,hCJ,ac,bX.same sj Y.k2.c,bX.same sj Y.k2.c,hp,hp,e0,hz,hz,by omega,λGb mb jT=>⟨rfl,?_⟩⟩;have sb:=v_ hj hdj mb;replace Y:=Y.same sb;obtain⟨_,CJ',dj',f1,f2,ej,hCJ',hij,_⟩:=jT [] λ_ m=>by cases m
  cases ej;replace hij:=(qC hij).1;clear sj sb jT mb hnj hdj hj;refine⟨_,rfl,1,.ref j,some 2,rfl,.ctn (.inr ⟨j,CJ',dj',_,rfl,.inr hCJ',hij⟩),λGc sc=>?_⟩;refine⟨_,_,rfl,rfl,false,FS V.bl (by decide +kernel),aO ?_⟩;refine⟨0,.str "knots 2",some 5,rfl,.gtn (.inl ⟨_,.str _⟩),λGd sd=>⟨_,_,rfl,rfl,false,FS V.bl (by decide +kernel),aO ?_⟩⟩;refine⟨1,.str "0 0, 5 5",some 2,rfl,.ctn (.inl ⟨_,.str _⟩),λGe se=>⟨_,_,rfl,rfl,false,FS V.bl (by decide +kernel),aO ?_⟩⟩;clear Y hij hp hz e0 two wt sc sd se;refine⟨(by show 3<=Ds;decide),λl1 hl1=>?_⟩;generalize e0:upd Ge l1 _=H1;have g1:H1 l1=some (.lst ((uA7:List Str).map V.str)):=cT e0;clear e0;refine⟨l1,true,rfl,⟨_,bj.of g1⟩,mG (K:=K) (xs:=(uA7:List Str).map V.str) (λi σ H'=>(∃ o6,σ=[some (.ref a),some (.ref t),some (.ref g),some (.ref v),o4,some (.ref j),o6,none,none,none])/\ae H1 H')
   ⟨⟨_,rfl⟩,ae.refl _⟩ (λi σ H' _ ⟨_,s⟩=>bj.of (s _ _ g1)) ?_ ?_⟩
  ·rintro i xv σ H2 ex ⟨⟨o6,rfl⟩,s1⟩;rw[Dp] at ex;obtain⟨x,ex2,rfl⟩:=DA.mp ex;refine⟨_,rfl,3,.str x,some 10,rfl,uW (DU.mp qN x (DF ex2)),λH3 s3=>⟨_,_,rfl,rfl,false,FS V.bl (by decide +kernel),aO ?_⟩⟩;exact⟨⟨_,rfl⟩,s1.trans s3⟩
  rintro σ H2 ⟨⟨o6,rfl⟩,_⟩;clear g1;refine⟨(by show 7<=Ds;decide),λR hR=>?_⟩;generalize e0:upd H2 R _=H3;have g3:H3 R=some (.lst (nQ.map V.str)):=cT e0;clear e0 hR;refine⟨rfl,mi,λZ hZ=>?_⟩;generalize e0:upd H3 Z _=H4;have s4:=dG hZ e0;have g4:=cT e0;clear e0 hZ;refine⟨_,rfl,Z,R,_,_,rfl,rfl,g4,s4 _ _ g3,by show 8<=Ds;decide,λW hW=>?_⟩;generalize e0:upd H4 W _=H5;have g5:H5 W=some (.lst ((("knots 2":Str)::nQ).map V.str)):=cT e0;clear e0 hW g4 g3 s4;refine⟨_,W,_,rfl,rfl,bj.of g5,Bm (B:=12) (λx hx=>?_) (by decide) (by decide),?_⟩
  ·exact Er (DU.mp (show((("knots 2":Str)::nQ).all λx=>decide (x.length<=12))=true by decide +kernel) x hx)
  generalize hF:KP "\n" _=F;have hF:j7=F:=hF;have fl:F.length<=200:=by rw[<- hF];exact Er (by decide +kernel)
  have lb:iL.all (λx=>wM (F++"\n"++x))=true:=by rw[<- hF];exact sM
  have lg:rR (F++"\n1 1 1: 0 0 1000")=true:=by rw[<- hF];exact r_
  have lh:v8 (JZ F "knots 2" "knots 1")=true:=by rw[<- hF];exact wy
  clear hF g5;refine⟨(by show 7<=Ds;decide),λl2 hl2=>?_⟩;generalize e0:upd H5 l2 _=H6;have g6:H6 l2=some (.lst (iL.map V.str)):=cT e0;clear e0 hl2;refine⟨l2,true,rfl,⟨_,bj.of g6⟩,mG (K:=K) (xs:=iL.map V.str) (λi σ H'=>(∃ o9,σ=[some (.ref a),some (.ref t),some (.ref g),some (.ref v),o4,some (.ref j),o6,some (.ref R),some (.str F),o9])/\ae H6 H')
   ⟨⟨_,rfl⟩,ae.refl _⟩ (λi σ H' _ ⟨_,s⟩=>bj.of (s _ _ g6)) ?_ ?_⟩
  ·rintro i xv σ H7 ex ⟨⟨o9,rfl⟩,s1⟩;rw[Dp] at ex;obtain⟨x,ex2,rfl⟩:=DA.mp ex;have xm:=DF ex2;have xl:x.length<=20:=Er (DU.mp (show(iL.all λx=>decide (x.length<=20))=true by decide +kernel) x xm);refine⟨_,rfl,_,_,rfl,rfl,Dt (Gw fl (show G4 "\n"<=1 by decide +kernel)) (by decide),_,rfl,_,_,rfl,rfl,?_,2,.str (F++"\n"++x),some 10,rfl,uZ (DU.mp lb x xm),λH8 s8=>⟨_,_,rfl,rfl,false,FS V.bl (by decide +kernel),aO ?_⟩⟩
   ·rw[FI];exact Dt (Gw (Gw fl (show G4 "\n"<=1 by decide +kernel)) xl) (by decide)
   exact⟨⟨_,rfl⟩,s1.trans s8⟩
  rintro σ H7 ⟨⟨o9,rfl⟩,_⟩;refine⟨_,rfl,_,_,rfl,rfl,Dt (Gw fl (show G4 "\n1 1 1: 0 0 1000"<=20 by decide +kernel)) (by decide),2,.str (F++"\n1 1 1: 0 0 1000"),none,rfl,sZ lg,λH8 s8=>⟨_,_,rfl,rfl,?_⟩⟩;refine⟨true,FS V.bl (by decide +kernel),aN ?_⟩;refine⟨_,rfl,F,rfl,Dt fl (by decide),by decide +kernel,by decide +kernel,2,.str (JZ F "knots 2" "knots 1"),some 10,rfl,vd lh,λH9 s9=>⟨_,_,rfl,rfl,?_⟩⟩;rw[show decide (eF (some 10)="text")=true by decide +kernel];exact q _
end
structure B4 (K:Dd):Prop where
 xz:DG K Dr "ValueError"=some none
 x6:DG K Dr "all"=some none
 x10:DG K Dr "bool"=some none
 xm:DG K Dr "dict"=some none
 xc:DG K Dr "int"=some none
 x0:DG K Dr "isinstance"=some none
 x3:DG K Dr "len"=some none
 x8:DG K Dr "list"=some none
 x11:DG K Dr "max"=some none
 xd:DG K Dr "min"=some none
 x4:DG K Dr "range"=some none
 xn:DG K Dr "set"=some none
 xe:DG K Dr "sorted"=some none
 xo:DG K Dr "str"=some none
 x9:DG K Dr "tuple"=some none
 xf:DG K Dr "zip"=some none
structure Cn (K:Dd):Prop where
 xg:∃ t,DG K Dr "FEWEST_KNOTS"=some (some (.int 2 t))
 xh:∃ t,DG K Dr "FEWEST_POINTS"=some (some (.int 2 t))
 xi:∃ t,DG K Dr "GREATEST_curves"=some (some (.int 1000 t))
 xj:∃ t,DG K Dr "GREATEST_grids"=some (some (.int 1000 t))
 xv:∃ t,DG K Dr "MOST_FIGURES"=some (some (.int 4 t))
 xk:∃ t,DG K Dr "MOST_KNOTS"=some (some (.int 7 t))
 xl:∃ t,DG K Dr "MOST_POINTS"=some (some (.int 12 t))
structure BU (K:Dd):Prop where
 x2:dF K "Curve" ["points"]=true
 x5:dF K "Grid" ["knots","table"]=true
 xa:dF K "JoinedCurve" ["first","second"]=true
 x7:vU K "Curve"=true
 xb:vU K "Grid"=true
 xw:vU K "JoinedCurve"=true
 xx:u5 K "Curve"=true
 xy:u5 K "Grid"=true
 x12:qh K "Grid" "Curve"=true
 x13:qh K "JoinedCurve" "Curve"=true
 x14:qh K "Curve" "Grid"=true
 x1:sg K=true
structure RawD (K:Dd):Prop where
 x15:AtD K "is_whole" gZ
 x16:AtD K "is_whole_within" cB
 xp:AtD K "is_tuple_within" cA
 xq:AtD K "is_point" gY
 x17:AtD K "is_onward" fN
 xr:AtD K "is_points" fH
 x1c:AtD K "is_knots" g_
 x1d:AtD K "is_knot" i_
 xs:AtD K "is_worth" ia
 x1e:AtD K "is_table" gS
 x1f:AtD K "places_below" df
 x1i:AtD K "refuse_no_grid" cI
 x1j:AtD K "refuse_no_text" cJ
 x1k:AtD K "numbers_text" dh
 x1l:AtD K "is_number" fB
 xt:AtD K "numbers_read" da
 x1m:AtD K "knots_row" fA
 x1n:AtD K "knots_read" eP
 x1o:AtD K "row_start" fQ
 x1p:AtD K "worth_read" eS
 x1q:AtD K "grid_text" fI
 x1r:AtD K "grid_read" fV
 x1s:AtD K "curve_text" eT
 x1t:AtD K "curve_read" eZ
 x1u:AtD K "_law_town" fF
 x1v:AtD K "_law_draw" fC
 x1w:AtD K "_law_pick" fJ
 x1x:AtD K "_law_refusal" de
 x1y:AtD K "_law_low" ic
 x1z:AtD K "_law_share" eK
 x20:AtD K "_law_three" eJ
 x21:AtD K "_law_points" dS
 x22:AtD K "_law_grid" fj
 x23:AtD K "_law_did" gR
 x24:AtD K "_law_told" fq
structure BS (K:Dd):Prop where
 x18:AtM K "Curve" "__init__" "Curve.__init__" cm
 x19:AtM K "Curve" "last" "Curve.last" c_
 x1a:AtM K "Curve" "ends" "Curve.ends" dk
 x1b:AtM K "JoinedCurve" "__init__" "JoinedCurve.__init__" bF
 x1g:AtM K "Grid" "__init__" "Grid.__init__" cw
 x1h:AtM K "Grid" "knot" "Grid.knot" dQ
structure BH (K:Dd):Prop where
 xu:∃ t,DG K Dr "FIGURES"=some (some (.str "0123456789" t))
set_option autoImplicit true in
set_option relaxedAutoImplicit true in
theorem all_mk {l:KC}{w:Ez}{K:Dd}{h:Fp}{mg:Str->Option Di}{fa:Du}{tA:List Du} (X:K.In h) (G:h.Ns Dr mg) (hfa:mg "law"=some (.ref fa))
  (RN:B4 K)
  (RG:Cn K)
  (RB:BU K)
  (RD:RawD K)
  (RM:BS K)
  (RS:BH K)
  (a_law:DG K Dr "law"=some (some (.ref f_law)))
  (l_law:K.lookup f_law=some ⟨BR,Cq,.func (DY "law" "law" (aW iW) (aR iW) (ai iW) .none ze yZ zZ yx tX zr),Cz⟩)
  (c_law:E_ K tX "law"=true)
  (k_law:EL K (.ref f_law)=true)
  : ∃ (ts:List (Str×Du)) (fd:F8),mQ K tA ts/\(∀ (s:Dk) (v:Di),Mr s fd ⟨[v],[]⟩ [("_law_script",v)])/\∀ base:Fp,K.In base->base.Ns Dr mg->iX l.prog w K mg base (cC l.prog w) 11 fa fd uA5 ((λ_=>ou) (ts.map (·.1)) K):=by
 have tabs:mQ K tA []:=⟨.nil,λ_ m=>nomatch m⟩
 refine⟨[],DY "law" "law" (aW iW) (aR iW) (ai iW) .none ze yZ zZ yx tX zr,tabs,λs v=>.of_eq rfl,?_⟩;show ∀ base:Fp,K.In base->base.Ns Dr mg->iX l.prog w K mg base (cC l.prog w) 11 fa _ uA5 (ou K);have e:=hfa.symm.trans (FZ X G a_law);cases e;have T:c6 K mg w:=⟨RB.x2,RB.x5,RB.xa,zi X G RG.xg,zi X G RG.xh,C6 X G RS.xu,zi X G RG.xi,zi X G RG.xj,zi X G RG.xv,zi X G RG.xk,zi X G RG.xl,RB.x7,RB.xb,RB.xw,RB.xx,RB.xy,Ed X G RN.xz,Ed X G RN.x6,Ed X G RN.x10,Ed X G RN.xm,Ed X G RN.xc,Ed X G RN.x0,Ed X G RN.x3,Ed X G RN.x8,Ed X G RN.x11,Ed X G RN.xd,Ed X G RN.x4,Ed X G RN.xn,Ed X G RN.xe,Ed X G RN.xo,Ed X G RN.x9,Ed X G RN.xf,RB.x12,RB.x13,RB.x14,RB.x1,RD.x15.d1 X G λ_ _ _ _ _ _ _=>rfl,RD.x16.d3 X G λ_ _ _ _ _ _ _ _ _=>rfl,RD.xp.d4 X G λ_ _ _ _ _ _ _ _ _ _=>rfl,RD.xq.d1 X G λ_ _ _ _ _ _ _=>rfl,RD.x17.d2 X G λ_ _ _ _ _ _ _ _=>rfl,RD.xr.d1 X G λ_ _ _ _ _ _ _=>rfl,RM.x18.d2 X G RB.x2 λ_ _ _ _ _ _ _ _=>rfl,RM.x19.d1 X G RB.x2 λ_ _ _ _ _ _ _=>rfl,RM.x1a.d1 X G RB.x2 λ_ _ _ _ _ _ _=>rfl,RM.x1b.d3 X G RB.xa λ_ _ _ _ _ _ _ _ _=>rfl,RD.x1c.d1 X G λ_ _ _ _ _ _ _=>rfl,RD.x1d.d2 X G λ_ _ _ _ _ _ _ _=>rfl,RD.xs.d1 X G λ_ _ _ _ _ _ _=>rfl,RD.x1e.d2 X G λ_ _ _ _ _ _ _ _=>rfl,RD.x1f.d1 X G λ_ _ _ _ _ _ _=>rfl,RM.x1g.d3 X G RB.x5 λ_ _ _ _ _ _ _ _ _=>rfl,RM.x1h.d2 X G RB.x5 λ_ _ _ _ _ _ _ _=>rfl,RD.x1i.d1 X G λ_ _ _ _ _ _ _=>rfl,RD.x1j.d1 X G λ_ _ _ _ _ _ _=>rfl,RD.x1k.d1 X G λ_ _ _ _ _ _ _=>rfl,RD.x1l.d1 X G λ_ _ _ _ _ _ _=>rfl,RD.xt.d1 X G λ_ _ _ _ _ _ _=>rfl,RD.x1m.d1 X G λ_ _ _ _ _ _ _=>rfl,RD.x1n.d1 X G λ_ _ _ _ _ _ _=>rfl,RD.x1o.d1 X G λ_ _ _ _ _ _ _=>rfl,RD.x1p.d2 X G λ_ _ _ _ _ _ _ _=>rfl,RD.x1q.d1 X G λ_ _ _ _ _ _ _=>rfl,RD.x1r.d1 X G λ_ _ _ _ _ _ _=>rfl,RD.x1s.d1 X G λ_ _ _ _ _ _ _=>rfl,RD.x1t.d1 X G λ_ _ _ _ _ _ _=>rfl,RD.x1u.d1 X G λ_ _ _ _ _ _ _=>rfl,RD.x1v.d2 X G λ_ _ _ _ _ _ _ _=>rfl,RD.x1w.d2 X G λ_ _ _ _ _ _ _ _=>rfl,RD.x1x.d1 X G λ_ _ _ _ _ _ _=>rfl,RD.x1y.d2 X G λ_ _ _ _ _ _ _ _=>rfl,RD.x1z.d2 X G λ_ _ _ _ _ _ _ _=>rfl,RD.x20.d2 X G λ_ _ _ _ _ _ _ _=>rfl,RD.x21.d4 X G λ_ _ _ _ _ _ _ _ _ _=>rfl,RD.x22.d2 X G λ_ _ _ _ _ _ _ _=>rfl,RD.x23.d2 X G λ_ _ _ _ _ _ _ _=>rfl,RD.x24.d2 X G λ_ _ _ _ _ _ _ _=>rfl⟩
 intro base _ _;exact yC T (yo (st:=iW) l_law c_law k_law)
theorem walk {l:KC}{qq:DN}{loose:List Str}{XP:(Str->Option Di)->Fp->Prop}{YP:Ez->Fp->Prop}{d:DefRec}{K:Params->Dd} (hn:l.most=some 63) (hdf:d.params.defaults=[])
  {tA:List Du}(hY:∀ (w:Ez) (h:Fp),YP w h->(K w.params).In h)(hY2:∀ (w:Ez) (h:Fp),YP w h->∀ P∈tA,h.get? P=some { cls:=.none,data:=.fields #[] })
  (F:∀ (w:Ez) (mg:Str->Option Di) (fa:Du) (h:Fp),(K w.params).In h->h.Ns Dr mg->mg d.name=some (.ref fa) ->
   ∃ (ts:List (Str×Du)) (fd:F8),mQ (K w.params) tA ts/\(∀ (s:Dk) (u:Di),Mr s fd ⟨[u],[]⟩ [("_law_script",u)])/\∀ base:Fp,(K w.params).In base->base.Ns Dr mg->iX l.prog w (K w.params) mg base (cC l.prog w) 11 fa fd uA5 ((λ_=>ou) (ts.map (·.1)) (K w.params))) :
  PySem.W.WalkO qq loose XP YP l.row.toRowW d [] (λf vs=>MH f vs):=
 ub (k:=11) (x:="_law_script") (CX:=λw=>(cC l.prog w)) (sp:=(λ_=>ou)) hn hdf ⟨rfl,by decide,by decide⟩ hY hY2 F (λ_ _ _ a ns hl hS _=>⟨a,ns,rfl,hS,hl,λ_=>rfl⟩) λ_ _ _ _ _ z=>aU _ _ _ _ _ z
end TR
namespace PySem.W.Fast
def tw16974123474275408804:=0
def tw4918231016254091204:=0
def tw15949619236595990817:=0
def tw8172146402400603233:=0
def tw13600839957356321365:=0
def tw16447595418396898345:=0
def tw1836224636039980536:=0
def tw3026554480743451216:=0
def tw15950251880839717616:=0
def tw9640266623524762070:=0
def tw12853533158496511470:=0
def tw13536288628085306490:=0
def tw14994231853960893289:=0
def tw12105270382555055725:=0
def tw2510990760068233157:=0
def tw2093049600293307206:=0
def tw11626480776024636762:=0
def tw16418647067728984621:=0
def tw2236683438904350389:=0
def tw17421056481874166277:=0
def tw14774154479050296628:=0
def tw11339805769128012511:=0
def tw14502212438930108107:=0
def tw9661977074189247376:=0
def tw17213786271376314307:=0
def tw4300931932269351498:=0
def tw1997222776504233365:=0
def tw18394360236203021291:=0
def tw2564845945893633664:=0
def tw11175220398925403583:=0
def tw1389306566093097991:=0
def tw14010089384993559702:=0
def tw17937862037599905800:=0
def tw329102788084657273:=0
def tw17418942784678579008:=0
def tw10326797549755652593:=0
def tw4145043932368277132:=0
def tw1827065565850011603:=0
def tw14113012170761840572:=0
def tw14019199151279146156:=0
def tw16267159176736961769:=0
def tw9750542969737329445:=0
def tw6661956117126023379:=0
def tw10586370730453746339:=0
def tw13051823441767101080:=0
def tw18149627584461764576:=0
def tw15435817672163900864:=0
def tw3306665953719878440:=0
def tw1488716804432195517:=0
def tw4744545478623227493:=0
def tw4556399661036829658:=0
def tw7216982462560790822:=0
def tw10027852762925976538:=0
def tw14970658523331470653:=0
def tw2284604592983816292:=0
def tw14179942995457316219:=0
def tw5717601514910100034:=0
def tw13984608649664037608:=0
def tw15867067345960461324:=0
def tw12823301444258548530:=0
def tw8521401894171410818:=0
def tw10673649154010386534:=0
def tw18358181039028209230:=0
def tw15071600585437903737:=0
def tw2630900611809778720:=0
def tw1292890360717594712:=0
def tw12475881693025700594:=0
def tw10855731202656915255:=0
def tw12122182839344345948:=0
def tw10472300836735251079:=0
def tw11005024976951520909:=0
def tw15797868644324159972:=0
def tw11594700868738860926:=0
def tw8779795571232721582:=0
def tw4883800045763358835:=0
def tw4343385597681829859:=0
def tw9493074342604795653:=0
def tw1070763866413512818:=0
def tw669030391350367263:=0
def tw8059840148541568427:=0
def tw10092807667448151413:=0
def tw18264490033606142157:=0
def tw7655256954925156668:=0
def tw10050625330018024207:=0
def tw946533733887990322:=0
def tw2741043435642994671:=0
def tw13589393616172137831:=0
def tw11320649226208052256:=0
def tw11343893912502777495:=0
def tw5656161309331498333:=0
def tw15462957766846137879:=0
def tw13813622990236452620:=0
def tw3758953047128933841:=0
def tw3369539559044204633:=0
def tw11423071512640411346:=0
def tw11174457453315356684:=0
def tw5866397249117936638:=0
def tw18117644411097423476:=0
def tw3308203475794549919:=0
def tw4686771917815294324:=0
def tw15525711577912701574:=0
def tw5750446178586018937:=0
def tw1316303315808952165:=0
def tw2681292470869570632:=0
def tw7556985341817910325:=0
def tw10385047434091834588:=0
def tw3653497666406316619:=0
def tw11131491242938009224:=0
def tw1315965323335363315:=0
def tw18328477556806758138:=0
def tw86892521590863317:=0
def tw11248634416937726719:=0
def tw11421178406950984050:=0
def tw1695053318220960684:=0
def tw15609600090653600339:=0
def tw12965067052710456840:=0
def tw17815235028233048670:=0
def tw6532798882554154098:=0
def tw8105744889250787138:=0
def tw2932663546090587863:=0
def tw5376280151020509478:=0
def tw11551904412465156195:=0
def tw2766676399198047628:=0
def tw10845699736188804302:=0
def tw2070368125375438864:=0
def tw4357793259843007474:=0
def tw7648034841356941806:=0
def tw14177589717132862717:=0
def tw11380979188726272722:=0
def tw16779370726345322724:=0
def tw4686978451962567804:=0
def tw7611688672813171832:=0
def tw4517718854650920543:=0
def tw15835320657024513026:=0
def tw9817848871698365716:=0
def tw141155906282915263:=0
def tw9173339495569216210:=0
def tw16299925869195035851:=0
def tw5799616416169663250:=0
def tw5162709246211266515:=0
def tw5990597800262013837:=0
def tw13589669226543687268:=0
def tw13781228459534765771:=0
def tw13098755283443256277:=0
def tw4451014081298975790:=0
def tw7216614870717162409:=0
def tw17392058099612686967:=0
def tw17866035266015175187:=0
def tw3855635162119557316:=0
def tw16178356808776072708:=0
def tw15102921897900781871:=0
def tw16644015954851239221:=0
def tw18152783664074024155:=0
def tw16147837021280590417:=0
def tw15944054548651698677:=0
def tw333505999417108040:=0
def tw488848951452224149:=0
def tw9287503909022163976:=0
def tw6085721544373634281:=0
def tw12442992657862829438:=0
def tw10145641546905168663:=0
def tw13213150785870582771:=0
def tw6966792204614544092:=0
def tw399240664472443341:=0
def tw1990953818438079160:=0
def tw1726396791130859646:=0
def tw3153206539692781335:=0
def tw1026252932780264872:=0
def tw13287986840943994065:=0
def tw1350718329283381754:=0
def tw2077558103323301249:=0
def tw17627248580705112406:=0
def tw4521296273951096990:=0
def tw11249324526946037389:=0
def tw13954895914501998149:=0
def tw7679554073931954074:=0
def tw9492574894945782130:=0
def tw10447033748036502331:=0
def tw16811088537173521766:=0
def tw11755444308672198884:=0
def tw7637431252984518286:=0
def tw374320448332198126:=0
def tw12463633975721158094:=0
def tw11851666367657888660:=0
def tw1997910249944824861:=0
def tw12124154484142979843:=0
def tw16675958118801151127:=0
def tw8551953394289261024:=0
def tw9221748062319239393:=0
def tw16351403508346245500:=0
def tw15303126395299970473:=0
def tw3342812934255080741:=0
def tw3064458204011297001:=0
def tw7566363470178246675:=0
def tw6876199128644306525:=0
def tw11741945380825246648:=0
def tw16856611003212814656:=0
def tw17792455462778102273:=0
def tw6557350421258331401:=0
def tw13740546164157575463:=0
def tw13018946600791684767:=0
def tw6410728716260262006:=0
def tw7198255759053080948:=0
def tw9068747466520367120:=0
def tw2700226850449665749:=0
def tw4727040341446930319:=0
def tw10358824710779905429:=0
def tw6188511215795144058:=0
def tw15011905536607351888:=0
def tw4503641474058380526:=0
def tw756252675696155637:=0
def tw7494350913650619555:=0
def tw17167662425201183744:=0
def tw12235492239898875068:=0
def tw7679283829695558324:=0
def tw13307930747124667655:=0
def tw9991154568170561158:=0
def tw11677160418512075536:=0
def tw4694433120954473201:=0
def tw8686777185609366249:=0
def tw4455182372068727035:=0
def tw12952161165777819554:=0
def tw17629730947191198198:=0
def tw10156566308218627319:=0
def tw3936979234472108154:=0
def tw2576189550637463588:=0
def tw15058033530540044498:=0
def tw10561154902558546775:=0
def tw7179412534699609260:=0
def tw10226466984324585878:=0
def tw1293591150457955079:=0
def tw5992111691377653276:=0
def tw11871348526166236101:=0
def tw4083369067241357224:=0
def tw2352760229154792620:=0
def tw9688774249907289042:=0
def tw13624163816375446495:=0
def tw17181963042067608047:=0
def tw15677298873747407195:=0
def tw11351792493478699683:=0
def tw14232397079045578202:=0
def tw6626891546759056594:=0
def tw239927723623846946:=0
def tw6743207335005975222:=0
def tw17533913070313061208:=0
def tw5888578411065664108:=0
def tw1841153864637095064:=0
def tw4729748283317614669:=0
def tw3374338906993553486:=0
def tw3937586887832166298:=0
def tw4468597911656150049:=0
def tw12266256331874348231:=0
def tw16961223088834374893:=0
def tw6717611662454587120:=0
def tw5351323744321981291:=0
def tw16288829376772852412:=0
def tw7997312059158688311:=0
def tw11880330701689142635:=0
def tw16713719359037544474:=0
def tw12479622690341042180:=0
def tw2472038966585632426:=0
def tw2893386959383589750:=0
def tw17238176982027192355:=0
def tw7283513417847098803:=0
def tw15065379828387967706:=0
def tw9402524226934762144:=0
def tw17679959516983149354:=0
def tw11982108667410065966:=0
def tw10893034408487356213:=0
def tw5939732533429395088:=0
def tw16559930716817643923:=0
def tw6485676939406930774:=0
def tw7459228954661050992:=0
def tw15874947760014366795:=0
def tw9447842260879195472:=0
def tw1015320216547380852:=0
def tw13446620764663908150:=0
def tw8401421388263965997:=0
def tw5969206930730511524:=0
def tw13569588977899958464:=0
def tw14857093602493702896:=0
def tw6037719319992521614:=0
def tw11152591900386841597:=0
def tw7687812343420201518:=0
def tw1035538156245070613:=0
def tw14116721121066626565:=0
def tw4194676395232252040:=0
def tw16477081631286175569:=0
def tw6974762722958907063:=0
def tw312158493017087617:=0
def tw4256084413116496846:=0
def tw9639638769410485670:=0
def tw1325275445477282723:=0
def tw9621410784104737210:=0
def tw4281004204375655490:=0
def tw15899391526925338359:=0
def tw9314531386241279606:=0
def tw5953444466667215205:=0
def tw11299750621644315740:=0
def tw18122777328071192704:=0
def tw13171932952039053505:=0
def tw7391240980808181217:=0
def tw16343760861024423475:=0
def tw6745025187966450062:=0
def tw5990266240646565256:=0
def tw10805355125394604598:=0
def tw9133207812382299351:=0
def tw7018980524841458629:=0
def tw2486639687201839825:=0
def tw11706895518244446817:=0
def tw5874435103543823037:=0
def tw17169131276993835878:=0
def tw2928978959609402759:=0
def tw18104836936987130437:=0
def tw9391040650477867558:=0
def tw4654057307861518365:=0
def tw4435075821804908208:=0
def tw8167388060337671083:=0
def tw8832013117101836902:=0
def tw10106573553128439125:=0
def tw160776945894989553:=0
def tw1263999286528529657:=0
def tw16362937438078233273:=0
def tw15037954929702806995:=0
def tw4504102901564954399:=0
def tw4441289425091939013:=0
def tw10296805145753393114:=0
def tw12183377777913419446:=0
def tw4515866531182535253:=0
def tw37545795115138661:=0
def tw12475353209921940881:=0
def tw14189013844109373345:=0
def tw7468796524485161529:=0
def tw12803809390346985985:=0
def tw8931352039959484474:=0
def tw2648476958347720093:=0
def tw14422011641312622375:=0
def tw3209922625016252244:=0
def tw13010597025724950541:=0
def tw6067981734137962021:=0
def tw17032630988713418605:=0
def tw15674462158621552674:=0
def tw3776481008114421412:=0
def tw4325847942430670293:=0
def tw10986469858621897040:=0
def tw15386798056006278735:=0
def tw1073927581751983579:=0
def tw2430085213122181051:=0
def tw8067839305284038741:=0
def tw8892079017130836695:=0
def tw6290977275706311285:=0
def tw9983133140313544900:=0
def tw10650719943328851444:=0
def tw16160683782309605000:=0
def tw17527150142736560165:=0
def tw12905214199975112916:=0
def tw7512333498222309817:=0
def tw13261539015692388999:=0
def tw14129716539349056397:=0
end PySem.W.Fast
open PySem PySem.W PyProof.Rows
set_option maxRecDepth 100000 in
set_option maxHeartbeats 0 in
theorem PySem.Challenge.cw_tintroads_k29_texts_refused_holds : PySem.Challenge.rw_tintroads_k29_texts_refused.Holds := by
  w_on;o_law;k_head;(case hw=>w_witness2)
  k_fill
  refine TR.walk (l:=PySem.Challenge.rw_tintroads_k29_texts_refused) (tA:=[]) rfl rfl (fun w h Y=>PySem.W.km_in_of Y) (fun _ _ _ _ m=>nomatch m) ?F
  case F=>
    intro w mg fa h KX G hmg
    refine' TR.all_mk KX G hmg ?RN ?RG ?RB ?RD ?RM ?RS ?a_law ?l_law ?c_law ?k_law
    (case RN=>constructor <;> k_is)
    (case RG=>constructor <;> (refine' TR.gOf ?a;(case a=>k_is)))
    (case RB=>constructor <;> kernel_rfl)
    (case RD=>constructor <;> (refine' TR.AtD.of ?a ?b ?c ?d;(case a=>k_is);(case b=>k_is);(case c=>k_is);(case d=>k_is)))
    (case RM=>constructor <;> (refine' TR.AtM.of ?a ?b ?c ?d ?e ?f;(case a=>k_is);(case b=>k_is);(case c=>k_is);(case d=>k_is);(case e=>k_is);(case f=>k_is)))
    (case RS=>constructor <;> (refine' TR.gOfS ?a;(case a=>k_is)))
    (case a_law=>k_is)
    (case l_law=>k_is)
    (case c_law=>k_is)
    (case k_law=>k_is)
#print axioms PySem.Challenge.cw_tintroads_k29_texts_refused_holds
