import PyProof.Rows.All
import Wide.All
import OpenK.AllK
import Wide.FinOn
import Lean
import PyProof.EqAt
import PyProof.EqKinds
import PyProof.TupleCall
import KE.KIsAll
import KE.KTryMore
import PyProof.ExcAttrAll.ValueError
import KE.KIntText
import KE.KItemsList
import KE.KDictOf
import PyProof.AttrMissHeap
import KE.KPairComp
import PyProof.DictWalks
import PyProof.P3In
import PyProof.SameEqv
import KE.KDictList
import KE.KDictIter
import PyProof.Draws
import PyProof.EnumMake
import PyProof.Rows.Range3
import PyProof.ZipIter
import KE.KTurns
import PyProof.FactsAll.zip_1
import PySem.Challenge.RW_purse_k43_refused_in_order
local macro_rules | `(tactic| exists $e,*) => `(tactic| refine ⟨$e,*, ?_⟩)
open PySem renaming Str->LK,Addr->LL,Value->LM,Shared->LN,wpAny->LP,wpAny_bind->LQ,Obj->LS,Expr->LU,Heap->LV,sizeLine->LW,Stmt->LX,World->LZ,Program->L5,starEach->L6,Paired->L7,Pos->L8,Around->Mb,wpAny_pure->Mc,Env->Mo,PyData->Mt,backTo->MA,IsPair->ME,mainGlobals->MF,compareOp->MG,rawInt->MN,Scope->MP,cellsFrom->MT,wpAny_field->MV,NameKind->MZ,wpAny_mono->M3,boot_len->M4,IsZip->M6,pyNext->M8,Builtin->Nf,FuncData->Nv,ZipApart->Nz,binaryOp->NA,sysModules->NB,codeAny->NL,DictEntry->NN,keywordEach->NT,backToKw->NZ,wpAny_holding->N1,call_meets->N3,inplaceOp->N7,wpAny_seqItems->Ob,getMethod->Og,pushCells->Ow,sliceBounds->OK,wpAny_truthy_bool->OO,wpAny_passesOwn->OR,attributeBase->OU,bootBuiltins->O2,wpAny_setField_rec->O6,wpAny_call_entry->O7,wpAny_execs_nil->Pa,assignEach->Pf,call_meetsIn->Pg,wpAny_pyIter_dict->Pp,typeLookup->Pt,wpAny_Call_Name_kw->Pu,mem_of_lookup->Px,wpAny_callSpecial?_slot->PD,behindInMarks->PR,getattributeRaised->P1,wpAny_typeOf->P7,wpAny_getItem_str_slice->Qb,wpAny_pyIter_enum->Qh,wpAny_pyIter_list->Qn,tupleKind_room_in1->Qq,wpAny_attempt->Qy,call->QG,typeLookup_type->QP,wpAny_pyIter_zip->QS,evalArgs_none->Q8,reprText->Rt,Within->RM,findBy->Sn,nsFind->Tt,wpAny_nextOf_list_item->Ur
open PySem.W renaming Frag->LO,kitOne->Mh,findIn->M2,nsIn->Nb,clsIn->Nw,keepIn->NK,fnOf->N8,exmOne->Oe,emptyDict->Of,mg_of->Ot,instObj->OE,InstAt->OZ,plainGet->Pk,codeIn->PQ,mroIn->P0,makesIn->P4,subIn->Qa,isFn->Qd,hasDictIn->Qs,lookIn->Qu,methodCall_KW->QF,typeIn->QO,plainGet_of->QX,kitCls->Q5,callWith_K->Rb,plainOver->Rn,takerIn->Ru,notCls->Rv,methodObj->RE,callWith_K0->RW,handedIn->Sw,WalkO->Tc,ktu_apart->Tf,cellsFrom_some->Th,OpenLaw->Ud,InitBack->Uy,ne_bytes->Uz,hideAll->UE,looks_clsIn->UO,set_plain->UZ,make_core->U8,kitMeta->Vb,findObj_own->Vc,ke_eq_ints->Vd,hideAll_get->Vl,method_fn->Vq,eq_bytes->Vr,of_hideAll->Vu,hideAll_none->Vv,looks_findIn->VI,kIn_of->VL,codeRec_of->VN,hideAll_size->VO,get_value->VR,mg_none_of->VS,any_some->V3,makes_of->V4,ki_setBack->V8,exm_one->Wf,bind_fn->Wg,ki_setAt->Wh,Looks->Wk,osa_open->Wr
open Or renaming inl->LR,inr->NP
open List renaming mem_map->LY,mem_cons->L9,length_map->Md,range->Me,getD->Mf,getElem?_eq_getElem->Mg,Nodup->Ml,map_map->Mn,mem_append->Mp,mem_filter->Mw,getElem?_eq_some_iff->Mx,mem_singleton->Mz,size_toArray->MC,getD_eq_getElem?_getD->MH,nodup_cons->MJ,getElem?_map->MO,map_cons->MQ,length_append->MR,length_take->MS,mem_cons_of_mem->MU,length_cons->MW,map_append->MX,getElem_mem->Na,mem_cons_self->Nd,pairwise_iff_getElem->Ni,lookup->Np,mem_of_getElem?->Nr,take_of_length_le->Nt,filter_eq_self->Nu,all_eq_true->Ny,mem_range->NC,getElem_of_mem->NF,not_mem_nil->NG,lookup_cons->NH,map->NO,getElem?_eq_none->NR,mem_append_right->NW,getElem?_append_left->N4,nodup_nil->N6,getElem?_append_right->Oa,length_filter_le->Oc,any_cons->Od,length_drop->Oh,range_succ->Oo,take_add_one->Oq,length_singleton->Ou,map_congr_left->OA,length->OQ,length_range->OT,ext_getElem->O1,append_nil->O8,sum_cons->Pc,find?_cons->Ph,length_pos_iff->Pj,map_nil->Pl,forIn_nil->Po,forIn_cons->Pr,getElem?_set_self->Pw,filter_cons->PB,sum_append->PK,all_map->PL,mem_of_mem_take->PM,map_take->P8,replicate->Qf,filter_congr->Qi,getElem?_set_ne->Ql,filter_map->Qx,mem_filterMap->QI,drop_zero->QK,eraseIdxIfInBounds_toArray->QL,getElem_map->QM,append_assoc->QU,filter_append->Q1,getElem_cons_drop->Q3,of_mem_zip->Q4,take_length->Q7,any_eq_true->Rk,eraseIdx_cons_succ->Rl,set_cons_zero->Rm,mem_of_mem_drop->Rq,getElem_take->Ry,filterMap_cons->Rz,length_nil->RB,eq_nil_of_length_eq_zero->RL,getElem?_range->RO,getElem?_take_of_lt->R3,cons_append->Se,filter_nil->Sj,map_fst_zip->Sl,length_zipWith->Ss,zipIdx_cons->Sz,perm_ext_iff_of_nodup->SA,filter_cons_of_pos->SD,mem_of_mem_eraseIdx->SE,length_erase_of_mem->SH,filter_cons_of_neg->SI,length_set->SJ,map_id'->SR,nil_append->SV,nodup_range->S6,pairwise_lt_range->Td,mem_append_left->Tq,all_cons->Tr,map_eq_nil_iff->TL,eraseIdx_cons_zero->TX,map_singleton->Ub,take_append_drop->Ul,any_map->Um,zipIdx_nil->Up
open Nat renaming le_refl->L0,le_trans->Ma,ne_of_lt->Ms,lt_of_lt_of_le->MD,zero_le->MK,ne_of_gt->Nh,lt_irrefl->Nk,le_succ->Nq,le_of_lt->NU,lcm->NY,le_add_right->Ox,le_of_eq->O4,lt_trichotomy->O9,lt_trans->PZ,lt_succ_self->P6,le_antisymm->Qj,lt_succ_of_lt->Qw,le_succ_of_le->QD,le_of_succ_le->Q0,eq_zero_or_pos->Q6,lt_of_le_of_lt->Q9,lt_asymm->Rx,succ_pos->R4,one_mul->Sg,min_eq_right->Sm,le_of_not_lt->Sx,add_mul->Sy,le_total->SW,lcm_pos->S0,dvd_refl->Tj,succ_ne_self->Tn,pow_succ->Tz,mul_le_mul_left->TK,dvd_lcm_left->TV,min_eq_left->TZ,le_of_dvd->T7,sub_zero->T8,lt_or_ge->Ue,le_of_ble_eq_true->Uh
open PySem.Heap renaming lt_size->Mi,get?_push_of_some->Mq,get?_push_size->Mu,size_push->Nl,SameBut->NM,get?_update_other->N9,get?_none_of_le->Qo,get?_update_self->Q2,size_update->Te
open PySem.Value renaming ref->Mj,none->M5,int->NX,bool->Om,str->OI,builtin->O5,type->Rr,isInt->RX,isStrOf->S2,bytes->T4,float->Uq
open Ne renaming symm->Mm
open PySem.Paired renaming length->Mr,nil->RJ,snoc->Uk
open Option.some renaming inj->MB,injEq->Ts
open PySem.Txt renaming slice->MI,slice_le->Qp
open PySem.Str renaming empty->ML,length_append->NS,join->OV,ofString->Pq,cps_append->QR,length->SK,ext'->Wp
open Bool renaming false_ne_true->MM,eq_iff_iff->Ng,and_eq_true->ND,false_eq_true->Ov,false_and->OH,bne_false->OW,bne_true->PU,and_false->RT,false_or->Tw
open PyProof.Rows renaming envOfC->MY,kindOf->Nj,AllBare->N2,boot_isinstance->Oi,IntsAre->OB,callWith_type1->OC,boot_int->O0,boot_list->Qe,boot_sum->QT,same_iff->RK,boot_all->SO,boot_sorted->S9,boot_max->UU,boot_min->UW,callWith_builtin1->U4,isub_int->U6,iadd_int->VU
open PySem.F renaming plainAttrs_list->M0,slot_list_append->Oj,slot_zip_next->Oz,type_list_append->OF,plainAttrs_dict->PH,slot_dict_items->PY,args_zip_next_1->Qc,slot_dict_values->Qg,entry_zip_next->Qm,slot_list_pop->Qz,slot_list_extend->Ra,slot_list_getattribute->Rf,slot_list_remove->Rh,slot_zip_getattribute->Rj,slot_list_clear->RA,slot_list_index->RF,entry_dict_items->RY,excBase_ValueError->R6,entry_list_pop->R7,typeOf_object_class->R8,type_list_extend->Sd,type_list_clear->Sf,args_dict_init_2->Sr,slot_dict_keyiterator_next->SF,slot_dict_pop->SX,slot_dict_itemiterator_iter->SY,kt_called_dict->S1,slot_str_join->S3,args_dict_items_1->S5,type_dict_values->S8,entry_dict_values->Ti,kt_typeCall_dict_1->To,type_list_pop->Tp,args_dict_values_1->Tu,entry_dict_init->Tv,type_list_remove->TH,slot_dict_delitem->TJ,type_dict_items->TY,type_list_index->Ut,newCall_enumerate_1->Uw,args_dict_keyiterator_next_1->UD,slot_dict_getitem->UR,entry_dict_delitem->UT,args_object_init_3->U2,args_dict_pop_3->U3,newCall_zip_2->Vg,slot_dict_itemiterator_next->Vh,args_dict_pop_2->Vj,args_dict_itemiterator_iter_1->Vn,entry_zip_new->Vo,args_list_getattribute_2->Vx,typeCall_enumerate_1->VF,called_zip->VH,args_object_init_2->VX,entry_dict_pop->VY,type_dict_pop->V0,entry_enumerate_new->V1,type_str_join->V7,plainAttrs_str->Wb,called_enumerate->Wd,typeCall_zip_2->Wi,args_zip_getattribute_2->Wj,args_dict_delitem_2->Wm,entry_dict_keyiterator_next->Wv
open PySem.PassesOwn renaming never->M7
open PySem.SeqAt renaming noMix->M9,noMixAll->Ol,shaped->Pb,EqAt->So
open False renaming elim->Nc
open PySem.NameKind renaming cell->Nm,free->NJ
open Sum renaming inr->NI,inl->OM
open PySem.Builtin.SmallTypes renaming nextOf->NQ,ownedTupleIsFree->P5,ownedTupleHandOut->Tg
open True renaming intro->NV
open Int renaming lt_or_le->N5,toNat->OP,emod_nonneg->Pm,le_refl->Pn,dvd_trans->Qk,mul_comm->Qt,emod_lt_of_pos->QE,toNat_natCast->QN,add_mul->QY,min_eq_right->Ri,mul_le_mul_of_nonneg_right->RN,mul_one->RP,min_eq_left->RV,mul_nonneg->Sh,dvd_sub->Tb,dvd_zero->TB,lt_of_le_of_lt->TR,mul_sub->Uo
open PySem.PyData renaming canLay0->Oy,str->OD,depth->OX,canLayAll0->PN,eqv->PV,depthAll->QC,strOk->QJ,bool->QZ
open PySem.Builtin.Str renaming occurrences->OG,strSliceIndices->OJ
open PySem.Obj renaming mapSeq->OL,mapFields->OS,data_mapFields->RS,isFreed_of_fields->Su
open List.Pairwise renaming filter->ON,imp->P9,map->SU,of_map->Ug,nil->UH,imp₂->U9
open PySem.Data renaming cell->OY,fields->Pz,seq->RI
open ForInStep renaming yield->O3
open Array renaming getElem?_eq_some_iff->Pd,getElem?_toList->P2,length_toList->Qv,toArray_toList->QH,toList_append->Sk,mem_toList_iff->SQ,getElem_mem->SS,all_toList->S4,forIn_toList->TQ,getD_eq_getD_getElem?->T5
open PySem.Around renaming under_plainId->Pe,under->RG
open PySem.Calls renaming callWith_builtin->Py,spliced_nil->QW,spliced_cons->Rg,evalArgs_plain->Ro,Name_function_global->RZ
open PySem.Builtin.Dict renaming updateFrom->Qr,pairItems->Sa,selfAndRest->TU,addKeywords->Ua
open Eq renaming trans->QQ
open PySem.Builtin.List renaming listTooLong->QV
open Classical renaming axiomOfChoice->Rc
open Option renaming isSome_iff_exists->Rp,isSome_map->RQ,isSome_some->R1,none->SG,isNone_none->TF,getD_none->Ui
open PySem.Spec renaming same->Rw
open Function renaming comp_apply->RC
open PySem.Code renaming isFrame->RD,frames->SM
open PySem.Builtin.Int renaming intBits->RH
open PySem.Heap.DictOf renaming new->RU
open List.Perm renaming eq_of_pairwise->R5
open List.Nodup renaming sublist->Sb
open PySem.MeetsIn renaming of_wp->Si
open PySem.Walks renaming list->Sq
open PySem.SeqAt.EqAt renaming int_str->Sv,str_int->Us,int_none->Ux,none_bool->UA,same->UL,str_str->UM,none_int->UX,bool_bool->Ve,str_none->Vt,int_bool->VA,int_int->VB,bool_none->VD,str_bool->VW,bool_int->V6,bool_str->Wl,none_str->Wq
open List.Sublist renaming map->SN
open Prod renaming fst->S7
open Sum.inr renaming inj->Ta
open PySem.EntryCells renaming newEntry->TC
open PySem.Value.ref renaming inj->TM
open PySem.W.WData renaming int->TN
open List.cons renaming inj->T1
open PySem.W.WShape renaming has->Uc
open And renaming comm->Uj
open PySem.StrLaws renaming found_one->Uu,strSliceIndices_plain->Vm,reprText_len->Vp,glued_eq_join->VJ,sliced_plain->VQ
open PySem.EqNone renaming eq_none_bool->Uv,eq_none_int->UB,eq_int_none->UI,eq_str_none->UY,eq_none_str->U5,ne_none_int->Vf,ne_str_none->Vi,ne_bool_none->Vk,ne_none_str->Vs,ne_none_none->Vw,eq_none_none->VC,ne_none_bool->VT,ne_int_none->Wo,eq_bool_none->Wx
open PySem.P renaming add_list->UC
open PySem.Builtin.Range renaming rangeSize->UG
open PySem.MeetsSeq renaming list_pop_last->UJ,list_pop_at->Wt
open PySem.Within renaming cons->UK
open PySem.EqMixed renaming ne_str_int->UN,eq_bool_str->UQ,eq_str_int->U7,eq_int_str->VZ,eq_str_bool->V2,ne_bool_str->V5,ne_str_bool->Wn,ne_int_str->Ws
open PySem.Builtin.Dict_items renaming ownsTuple->UP
open PySem.AutoSeq1 renaming list_clear_list_0->US,list_extend_list_list_0->Wa
open PySem.Heap.Ns1 renaming of_empty->U0
open PySem.IsRange renaming new->U1
open PySem.DictEntry renaming refKey->Va
open PySem.Heap.Ns renaming new->Vy
open PySem.Heap.IsSliceOf renaming new->Vz
open PySem.IsL renaming update->VE
open PyProof renaming noPylong_of_log2->VG
open PySem.W.Looks renaming here->VM,ld->V9
open PySem.W.OpenLaw renaming pre->VP
open PySem.Heap.SameBut renaming update->Wc,refl->We
open PySem.Heap.IsList renaming push->Wu
open Sum.inl renaming inj->Ww
set_option Elab.async false
set_option compiler.extract_closed false
set_option linter.all false
set_option maxRecDepth 100000
namespace L2
open PySem PySem.Spec PyProof.Rows
noncomputable abbrev Key:=Sum Int LK
noncomputable def vd:Key->LM->Bool
 |.inl k,v=>RX k v
 |.inr x,v=>S2 x v
noncomputable def Lo(w:LZ):Key->Int
 |.inl k=>hashInt k
 |.inr x=>hashStr w x
theorem cE:∀{k:Key}{v:LM},vd k v=true->(∃i t,k=OM i/\v=NX i t)\/(∃x t,k=NI x/\v=OI x t)
 |.inl i,v,h=>by
  obtain⟨t,e⟩:=Value.isInt_shape (k:=i) (v:=v) h
  exact .inl ⟨i,t,rfl,e⟩
 |.inr x,v,h=>by
  obtain⟨t,e⟩:=Value.isStrOf_shape (x:=x) (v:=v) h
  exact .inr ⟨x,t,rfl,e⟩
theorem Ea(i:Int)(t:Tok):vd (.inl i) (.int i t)=true:=by simp[vd,RX]
theorem Dm(x:LK)(t:Tok):vd (.inr x) (.str x t)=true:=by simp[vd,S2]
theorem Ic(a b:Int):decide ((OM a:Key)=OM b)=(a==b):=by
 by_cases e:a=b
 ·subst e;simp
 ·have h:¬(OM a:Key)=OM b:=fun q=>e (Ww q)
  rw[decide_eq_false h]
  exact(beq_eq_false_iff_ne.mpr e).symm
theorem Ja(a b:LK):decide ((NI a:Key)=NI b)=decide (a=b):=by
 by_cases e:a=b
 ·subst e;simp
 ·have h:¬(NI a:Key)=NI b:=fun q=>e (Ta q)
  rw[decide_eq_false h,decide_eq_false e]
theorem JA(a:Int)(b:LK):decide ((OM a:Key)=NI b)=false:=decide_eq_false (fun q=>nomatch q)
theorem HV(a:LK)(b:Int):decide ((NI a:Key)=OM b)=false:=decide_eq_false (fun q=>nomatch q)
noncomputable def aS(prog:L5)(w:LZ):PySem.KeyKind prog w Key where
 is:=vd
 hash:=Lo w
 inj:=fun v a b ha hb=>by
  rcases cE ha with⟨i,t,rfl,rfl⟩|⟨x,t,rfl,rfl⟩
  ·rcases cE hb with⟨j,u,rfl,e⟩|⟨y,u,rfl,e⟩
   ·injection e with e1 _;rw[e1]
   ·exact nomatch e
  ·rcases cE hb with⟨j,u,rfl,e⟩|⟨y,u,rfl,e⟩
   ·exact nomatch e
   ·injection e with e1 _;rw[e1]
 byValue:=fun k v h=>by
  rcases cE h with⟨i,t,rfl,rfl⟩|⟨x,t,rfl,rfl⟩<;>rfl
 pyHash:=fun hv h=>by
  rcases cE hv with⟨i,t,rfl,rfl⟩|⟨x,t,rfl,rfl⟩
  ·exact wpAny_pyHash_int h
  ·exact wpAny_pyHash_str h
 eqBool:=fun hu hv h=>by
  rcases cE hu with⟨i,t,rfl,rfl⟩|⟨x,t,rfl,rfl⟩
  ·rcases cE hv with⟨j,u,rfl,rfl⟩|⟨y,u,rfl,rfl⟩
   ·rw[Ic]at h;exact wpAny_eqBool_int h
   ·rw[JA]at h;exact Sv i t y u _ _ _ _ h
  ·rcases cE hv with⟨j,u,rfl,rfl⟩|⟨y,u,rfl,rfl⟩
   ·rw[HV]at h;exact Us x t j u _ _ _ _ h
   ·rw[Ja]at h;exact wpAny_eqBool_str h
 «strs»:=fun k x t v h=>by
  rcases cE h with⟨i,u,rfl,e⟩|⟨y,u,rfl,e⟩
  ·exact nomatch e
  ·injection e with e1 _
   subst e1
   cases v<;>rfl
theorem zQ(prog:L5)(w:LZ)(i:Int)(t:Tok):(aS prog w).is (.inl i) (.int i t)=true:=Ea i t
theorem zr(prog:L5)(w:LZ)(x:LK)(t:Tok):(aS prog w).is (.inr x) (.str x t)=true:=Dm x t
inductive V where
 |non|bl (b:Bool)|int (i:Int)|str (x:LK)|byt (b:Array UInt8)|flt (b:UInt64)|ref (a:LL)|ty (n:String)
 deriving DecidableEq
noncomputable def RelV:V->LM->Prop
 |.non,u=>u=M5
 |.bl b,u=>u=Om b
 |.int i,u=>∃t,u=NX i t
 |.str x,u=>∃t,u=OI x t
 |.byt b,u=>∃t,u=T4 b t
 |.flt b,u=>∃t,u=Uq b t
 |.ref a,u=>u=Mj a
 |.ty n,u=>u=Rr n
noncomputable abbrev bF:List V->List LM->Prop:=L7 RelV
theorem bF.length{xs:List V}{us:List LM}(r:bF xs us):xs.length=us.length:=Mr r
theorem bF.get:∀{xs:List V}{us:List LM}{i:Nat}{x:V},bF xs us->xs[i]?=some x->∃u,us[i]?=some u/\RelV x u
 |_,_,_,_,.nil,e=>by simp at e
 |_,_,0,_,.cons r _,e=>by simp at e;subst e;exact⟨_,rfl,r⟩
 |_,_,i+1,x,.cons _ t,e=>by
  obtain⟨u,h1,h2⟩:=bF.get (i:=i) (x:=x) t (by simpa using e)
  exact⟨u,by simpa using h1,h2⟩
theorem bF.set{x:V}{u:LM}(r:RelV x u):∀{xs:List V}{us:List LM}(i:Nat),bF xs us->bF (xs.set i x) (us.set i u)
 |_,_,_,.nil=>.nil
 |_,_,0,.cons _ t=>.cons r t
 |_,_,i+1,.cons q t=>.cons q (bF.set r i t)
theorem bF.append:∀{xs ys:List V}{us ws:List LM},bF xs us->bF ys ws->bF (xs++ys) (us++ws)
 |_,_,_,_,.nil,s=>s
 |_,_,_,_,.cons r t,s=>.cons r (bF.append t s)
theorem bF.take:∀{xs:List V}{us:List LM}(n:Nat),bF xs us->bF (xs.take n) (us.take n)
 |_,_,0,_=>.nil
 |_,_,_+1,.nil=>.nil
 |_,_,n+1,.cons r t=>.cons r (bF.take n t)
theorem bF.drop:∀{xs:List V}{us:List LM}(n:Nat),bF xs us->bF (xs.drop n) (us.drop n)
 |_,_,0,r=>r
 |_,_,_+1,.nil=>.nil
 |_,_,n+1,.cons _ t=>bF.drop n t
noncomputable def mi:Option V->Option LM->Prop
 |some v,some u=>RelV v u
 |none,none=>True
 |_,_=>False
noncomputable def KV{κ:Type}:List (κ×V)->List (κ×LM)->Prop:=L7 fun (p:κ×V) (q:κ×LM)=>p.1=q.1/\RelV p.2 q.2
noncomputable def kV:Key->V
 |.inl i=>.int i
 |.inr x=>.str x
inductive HO where
 |lst (xs:List V)
 |tup (xs:List V)
 |dK (kvs:List (Key×V))|dT (kvs:List (List Key×V))
 |set (S:Int->Bool) (n:Nat)
 |ins (C dx:LL) (fs:List (LK×V))
 |own (x:LL)
 |xd (fs:List (LK×V))
 |met (f x:LL)
 |rng (lo hi:Int)
 |frz (o:LS) (u:HO)
 |tbl (ps:Array LM)
 |ext (φ:LV->Prop)
noncomputable abbrev Hp:=LL->Option HO
noncomputable def upd(H:Hp)(a:LL)(o:HO):Hp:=fun b=>if b=a then some o else H b
theorem ao{H:Hp}{a:LL}{o:HO}:upd H a o a=some o:=by unfold upd;rw[if_pos rfl]
theorem aq{H:Hp}{a b:LL}{o:HO}(h:b≠a):upd H a o b=H b:=by unfold upd;rw[if_neg h]
theorem KR{H:Hp}{a b:LL}{o u:HO}(h:H a=some o)(h':H b=some u)(d:o≠u):a≠b:=by
 intro e;subst e;rw[h]at h';exact d (MB h')
theorem aZ{H:Hp}{a b:LL}{o:HO}(h:H a=some o)(h':H b=none):a≠b:=by
 intro e;subst e;rw[h]at h';cases h'
section
variable (P:L5)(w:LZ)
noncomputable def cF(H:Hp)(h:LV)(a:LL):HO->Prop
 |.lst xs=>xs.length<=LW/\∃(its:List LM)(n:Nat),bF xs its/\h.get? a=some {cls:=.type "list",data:=.seq its.toArray n}
 |.tup xs=>xs.length<=LW/\∃its:List LM,bF xs its/\IsTup h a its.toArray
 |.dK kvs=>kvs.length<=LW/\(a==NB)=false/\∃vs,KV kvs vs/\h.DictOf (aS P w) a vs
 |.dT kvs=>kvs.length<=LW/\(a==NB)=false/\∃xs:List (List Key×LL×LM),
   L7 (fun (p:List Key×V) (q:List Key×LL×LM)=>p.1=q.1/\H q.2.1=some (.tup (p.1.map kV))/\RelV p.2 q.2.2) kvs xs/\
   ∃o es ep,h.get? a=some o/\o.ExactDict/\o.data=.dict es ep/\es.toList=xs.map (entryOfKey (tupleKind (aS P w)))/\(xs.map (·.1)).Nodup
 |.set S n=>h.SetOf (intKind P w) a S n
 |.ins C dx fs=>H dx=some (.own a)/\fs.length<=1000/\dx≠a/\h.get? a=some (OE C dx)/\
   ∃mA,h.Ns1 dx mA/\(∀f,mi (fs.lookup f) (mA f))/\RM mA (fs.map (·.1))
 |.own _=>∃o,h.get? a=some o
 |.xd fs=>∃mA,h.Ns1 a mA/\∀f,mi (fs.lookup f) (mA f)
 |.rng lo hi=>∃t u v,h.get? a=some {cls:=.type "range",data:=.fields #[.int lo t,.int hi u,.int 1 v]}
 |.frz o u=>h.get? a=some o/\cF H h a u
 |.tbl ps=>h.get? a=some {cls:=.none,data:=.fields ps}
 |.met f x=>h.get? a=some (RE (.ref f) (.ref x))
 |.ext φ=>φ h/\(∃o,h.get? a=some o)/\∀h1 h2:LV,φ h1->(∀o,h1.get? a=some o->h2.get? a=some o)->φ h2
noncomputable def mZ(H:Hp)(h:LV):Prop:=∀a o,H a=some o->cF P w H h a o
end
section
variable {P:L5}{w:LZ}{H H':Hp}{h h':LV}{a:LL}{o:HO}
theorem cF.lt(x:cF P w H h a o):a<h.objs.size:=by
 cases o with
 |lst xs=>obtain⟨_,_,_,_,e⟩:=x;exact Mi e
 |tup xs=>obtain⟨_,_,_,p⟩:=x;exact p.lt
 |dK kvs=>obtain⟨_,_,_,_,o,_,_,e,_⟩:=x;exact Mi e
 |dT kvs=>obtain⟨_,_,_,_,o,_,_,e,_⟩:=x;exact Mi e
 |set S n=>obtain⟨o,_,_,_,e,_⟩:=x;exact Mi e
 |ins C dx fs=>obtain⟨_,_,_,e,_⟩:=x;exact Mi e
 |own y=>obtain⟨_,e⟩:=x;exact Mi e
 |xd fs=>obtain⟨_,⟨_,_,_,e,_⟩,_⟩:=x;exact Mi e
 |rng lo hi=>obtain⟨_,_,_,e⟩:=x;exact Mi e
 |frz ob u=>obtain⟨e,_⟩:=x;exact Mi e
 |tbl ps=>exact Mi (show h.get? a=some _ from x)
 |met f y=>exact Mi (show h.get? a=some _ from x)
 |ext φ=>obtain⟨_,⟨_,e⟩,_⟩:=x;exact Mi e
theorem Paired.mapP{α β:Type}{F G:α->β->Prop}:∀{l₁:List α}{l₂:List β},L7 F l₁ l₂->(∀a b,F a b->G a b)->L7 G l₁ l₂
 |_,_,.nil,_=>.nil
 |_,_,.cons r t,f=>.cons (f _ _ r) (Paired.mapP t f)
theorem cF.stay(x:cF P w H h a o)(k:∀b u,(b=a\/H b=some (.own a))->h.get? b=some u->h'.get? b=some u)
  (ho:∀b,H b=some (.own a)->H' b=some (.own a)) (ht:∀b xs,H b=some (.tup xs)->H' b=some (.tup xs)):cF P w H' h' a o:=by
 induction o with
 |lst xs=>obtain⟨z,its,n,r,e⟩:=x;exact⟨z,its,n,r,k _ _ (.inl rfl) e⟩
 |tup xs=>obtain⟨z,its,r,ob,e,c⟩:=x;exact⟨z,its,r,ob,k _ _ (.inl rfl) e,c⟩
 |dK kvs=>obtain⟨z,y,vs,r,ob,es,ep,e,c⟩:=x;exact⟨z,y,vs,r,ob,es,ep,k _ _ (.inl rfl) e,c⟩
 |dT kvs=>
  obtain⟨z,y,xs,r,ob,es,ep,e,c⟩:=x
  exact⟨z,y,xs,Paired.mapP r fun p q z=>⟨z.1,ht _ _ z.2.1,z.2.2⟩,ob,es,ep,k _ _ (.inl rfl) e,c⟩
 |set S n=>obtain⟨ob,es,ep,t,e,c⟩:=x;exact⟨ob,es,ep,t,k _ _ (.inl rfl) e,c⟩
 |ins C dx fs=>
  obtain⟨d,z,ne,e,mA,⟨od,es,ep,e2,c⟩,r⟩:=x
  exact⟨ho _ d,z,ne,k _ _ (.inl rfl) e,mA,⟨od,es,ep,k _ _ (.inr d) e2,c⟩,r⟩
 |own y=>obtain⟨ob,e⟩:=x;exact⟨ob,k _ _ (.inl rfl) e⟩
 |xd fs=>obtain⟨mA,⟨od,es,ep,e,c⟩,r⟩:=x;exact⟨mA,⟨od,es,ep,k _ _ (.inl rfl) e,c⟩,r⟩
 |rng lo hi=>obtain⟨t,u,v,e⟩:=x;exact⟨t,u,v,k _ _ (.inl rfl) e⟩
 |frz ob u ih=>obtain⟨e,q⟩:=x;exact⟨k _ _ (.inl rfl) e,ih q⟩
 |tbl ps=>
  have e:h.get? a=some {cls:=.none,data:=.fields ps}:=x
  show h'.get? a=some {cls:=.none,data:=.fields ps}
  exact k a _ (.inl rfl) e
 |met f y=>
  have e:h.get? a=some (RE (.ref f) (.ref y)):=x
  show h'.get? a=some (RE (.ref f) (.ref y))
  exact k a _ (.inl rfl) e
 |ext φ=>obtain⟨p,⟨o,e⟩,st⟩:=x;exact⟨st _ _ p fun o q=>k _ _ (.inl rfl) q,⟨o,k _ _ (.inl rfl) e⟩,st⟩
theorem mZ.lt(x:mZ P w H h)(e:H a=some o):a<h.objs.size:=(x a o e).lt
theorem mZ.fresh(x:mZ P w H h)(e:h.objs.size<=a):H a=none:=by
 cases q:H a with
 |none=>rfl
 |some u=>exact absurd (MD (x.lt q) e) (Nk _)
theorem mZ.kept(x:mZ P w H h)(k:∀b u,h.get? b=some u->h'.get? b=some u):mZ P w H h':=fun a o e=>
 (x a o e).stay (fun b u _ q=>k b u q) (fun _ q=>q) fun _ _ q=>q
theorem mZ.laid(x:mZ P w H h)(k:∀b u,h.get? b=some u->h'.get? b=some u)(hp:h.objs.size<=a)(new:cF P w (upd H a o) h' a o):mZ P w (upd H a o) h':=fun b u e=>by
 have hn:=x.fresh hp
 by_cases hb:b=a
 ·subst hb;rw[ao]at e;cases e;exact new
 ·rw[aq hb]at e
  exact(x b u e).stay (fun c v _ q=>k c v q) (fun c q=>by rw[aq (aZ q hn)];exact q) fun c xs q=>by rw[aq (aZ q hn)];exact q
end
noncomputable def Rd(H:Hp)(a:LL)(u:HO):Prop:=H a=some u\/∃o,H a=some (.frz o u)
theorem Rd.ok{P:L5}{w:LZ}{H:Hp}{h:LV}{a:LL}{u:HO}(r:Rd H a u)(x:mZ P w H h):cF P w H h a u:=by
 rcases r with r|⟨o,r⟩
 ·exact x a u r
 ·obtain⟨_,q⟩:=x a _ r
  exact q
noncomputable def Kq:Option HO->Prop
 |some (.lst _)=>True
 |some (.dK _)=>True
 |some (.dT _)=>True
 |some (.set _ _)=>True
 |some (.ins _ _ _)=>True
 |some (.ext _)=>True
 |_=>False
section
variable {P:L5}{w:LZ}{H:Hp}{h h':LV}{x e:LL}{o':HO}
theorem mZ.write(ok:mZ P w H h)(mu:Kq (H x))(he:e=x\/H e=some (.own x))(k:∀b u,b≠e->h.get? b=some u->h'.get? b=some u)(heo:∃u,h'.get? e=some u)
  (new:cF P w (upd H x o') h' x o'):mZ P w (upd H x o') h':=fun b u q=>by
 have nown:∀c y,H c=some (.own y)->c≠x:=fun c y r z=>by subst z;rw[r]at mu;exact mu
 have ntup:∀c xs,H c=some (.tup xs)->c≠x:=fun c xs r z=>by subst z;rw[r]at mu;exact mu
 by_cases hb:b=x
 ·subst hb;rw[ao]at q;cases q;exact new
 ·rw[aq hb]at q
  by_cases hbe:b=e
  ·have q':H b=some (.own x):=by
    rcases he with z|z
    ·exact absurd (hbe.trans z) hb
    ·rw[hbe];exact z
   rw[q]at q';cases q'
   obtain⟨v,hv⟩:=heo
   exact⟨v,by rw[hbe];exact hv⟩
  ·refine(ok b u q).stay (fun c v hc r=>k c v ?_ r) (fun c r=>by rw[aq (nown c b r)];exact r) fun c xs r=>by rw[aq (ntup c xs r)];exact r
   rcases hc with rfl|hc
   ·exact hbe
   ·rintro rfl
    rcases he with z|z
    ·exact nown c b hc z
    ·rw[hc]at z;cases z;exact hb rfl
end
structure Un(fs ex:List LL)(H H':Hp)(h h':LV):Prop where
 keep:∀b o,h.get? b=some o->H b=none->b∉fs->b∉ex->h'.get? b=some o
 slot:∀b o,h.get? b=some o->H b=none->b∈fs->b∉ex->∃sl,h'.get? b=some {o with slots:=sl}
 free:∀b o,h.get? b=some o->H b=none->b∉ex->H' b=none
 there:∀b o,h.get? b=some o->b∉ex->∃o',h'.get? b=some o'
 tups:∀b xs,H b=some (.tup xs)->H' b=some (.tup xs)
 frzs:∀b o u,H b=some (.frz o u)->H' b=some (.frz o u)
 tbls:∀b ps,H b=some (.tbl ps)->∃more,H' b=some (.tbl (ps++more))
section
variable {fs fs' ex ex':List LL}{H H1 H2:Hp}{h h1 h2 h':LV}{a x e:LL}{o:HO}
theorem Un.any(u:Un fs ex H H1 h h1){b:LL}{ob:LS}(q:h.get? b=some ob)(n:H b=none)(hx:b∉ex):∃sl,h1.get? b=some {ob with slots:=sl}:=by
 by_cases hb:b∈fs
 ·exact u.slot b ob q n hb hx
 ·exact⟨ob.slots,u.keep b ob q n hb hx⟩
theorem Un.kept(k:∀b u,h.get? b=some u->h'.get? b=some u):Un fs ex H H h h':=
 ⟨fun b ob q _ _ _=>k b ob q,fun b ob q _ _ _=>⟨ob.slots,k b ob q⟩,fun _ _ _ n _=>n,fun b ob q _=>⟨ob,k b ob q⟩,fun _ _ q=>q,fun _ _ _ q=>q,fun _ ps q=>⟨#[],by rw[q];simp⟩⟩
theorem Un.refl:Un fs ex H H h h:=Un.kept fun _ _ q=>q
theorem Un.laid(k:∀b u,h.get? b=some u->h'.get? b=some u)(hp:h.objs.size<=a)(hn:H a=none):Un fs ex H (upd H a o) h h' where
 keep:=fun b u q _ _ _=>k b u q
 slot:=fun b u q _ _ _=>⟨u.slots,k b u q⟩
 free:=fun b u q n _=>by rw[aq (Ms (MD (Mi q) hp))];exact n
 there:=fun b u q _=>⟨u,k b u q⟩
 tups:=fun b xs q=>by rw[aq (aZ q hn)];exact q
 frzs:=fun b u xs q=>by rw[aq (aZ q hn)];exact q
 tbls:=fun b ps q=>⟨#[],by rw[aq (aZ q hn),q];simp⟩
theorem Un.write(mu:Kq (H x))(he:e=x\/H e=some (.own x))(k:∀b u,b≠e->h.get? b=some u->h'.get? b=some u)(heo:∃u,h'.get? e=some u):Un fs ex H (upd H x o) h h':=by
 have hx:∀b,H b=none->b≠x:=fun b n z=>by subst z;rw[n]at mu;exact mu
 have hb:∀b,H b=none->b≠e:=fun b n z=>by
  subst z
  rcases he with r|r
  ·exact hx b n r
  ·rw[n]at r;cases r
 have hm:∀b u,H b=some u->¬Kq (some u)->b≠x:=fun b u q nm z=>by subst z;rw[q]at mu;exact nm mu
 refine⟨fun b u q n _ _=>k b u (hb b n) q,fun b u q n _ _=>⟨u.slots,k b u (hb b n) q⟩,fun b u q n _=>by rw[aq (hx b n)];exact n,fun b u q _=>?_,
  fun b xs q=>by rw[aq (hm b _ q fun z=>z)];exact q,fun b u xs q=>by rw[aq (hm b _ q fun z=>z)];exact q,fun b ps q=>⟨#[],by rw[aq (hm b _ q fun z=>z),q];simp⟩⟩
 by_cases hbe:b=e
 ·subst hbe;exact heo
 ·exact⟨u,k b u hbe q⟩
theorem Un.mono(u:Un fs ex H H1 h h1)(hs:∀b∈fs,b∈fs')(hx:∀b∈ex,b∈ex'):Un fs' ex' H H1 h h1:=
 ⟨fun b ob q n hb he=>u.keep b ob q n (fun z=>hb (hs b z)) fun z=>he (hx b z),fun _ _ q n _ he=>u.any q n fun z=>he (hx _ z),fun b ob q n he=>u.free b ob q n fun z=>he (hx b z),fun b ob q he=>u.there b ob q fun z=>he (hx b z),u.tups,u.frzs,u.tbls⟩
end
noncomputable def K8(h:LV)(H:Hp):List LL:=(Me h.objs.size).filter fun a=>(H a).isSome
noncomputable def yV(h:LV)(H:Hp):LV:=UE h (K8 h H)
theorem DQ(h:LV)(H:Hp):(yV h H).objs.size=h.objs.size:=VO _ _
theorem Eu{h:LV}{H:Hp}{b:LL}{o:LS}(e:h.get? b=some o)(n:H b=none):(yV h H).get? b=some o:=
 Vl _ e fun hm=>by
  have q:(H b).isSome=true:=(Mw.mp hm).2
  rw[n]at q;simp at q
theorem GB{h:LV}{H:Hp}{b:LL}{o:LS}(e:(yV h H).get? b=some o):h.get? b=some o/\H b=none:=by
 have e':h.get? b=some o:=Vu (K8 h H) e
 exists e'
 cases q:H b with
 |none=>rfl
 |some x=>
  have hm:b∈K8 h H:=Mw.mpr ⟨NC.mpr (Mi e'),by simp[q]⟩
  have z:(yV h H).get? b=none:=Vv (K8 h H) hm
  rw[z]at e;cases e
structure Mod(K:LO)(mg:LK->Option LM)(base:LV):Prop where
 kin:K.In base
 glob:base.Ns MF mg
 blt:∃mb,base.Ns builtinsNs mb/\∀x:LK,x≠"__name__"->mb x=O2 x
 nolimit:base.NoLimit
structure Cx where
 prog:L5
 w:LZ
 K:LO
 mg:LK->Option LM
 base:LV
 A:Mb
 N:List LK
 s₀:LN
 H₀:Hp
 env:Mo
 outer:List Mo
 stack:List Mo
 ex:List LL
 fn:LK->Bool
 calm:Bool
 pn:List (LL×LS)
 xe:LM->LN->Prop
noncomputable def xO(l:List Mo):List LL:=l.filterMap (·.frame)
noncomputable abbrev Cx.fs(X:Cx):List LL:=xO X.outer
noncomputable def Jq(sc:MP)(x:LK):Prop:=sc.names.lookup x=some .local\/sc.names.lookup x=some .cell\/sc.names.lookup x=some .free
noncomputable def Loc(sc:MP)(x:LK):Prop:=sc.names.lookup x=some .local\/sc.names.lookup x=some .cell
noncomputable def Look(env:Mo)(h:LV)(m:LK->Option LM)(x:LK)(u:LM):Prop:=
 (env.kindOf x=some .local/\m x=some u)\/((env.kindOf x=some .cell\/env.kindOf x=some .free)/\∃c,env.cells.lookup x=some c/\h.IsCell c (some u))
structure Cx.Ok(X:Cx):Prop where
 mod:Mod X.K X.mg X.base
 kind:X.env.scope.kind=.function
 glob:X.env.globals=MF
 blt:X.env.builtins=builtinsNs
 above:X.s₀.heap.objs.size<=X.env.locals
 inj:∀x y c,X.env.cells.lookup x=some c->X.env.cells.lookup y=some c->x=y
 has:∀x,(X.env.kindOf x=some .cell\/X.env.kindOf x=some .free)->∃c,X.env.cells.lookup x=some c
 cab:∀x c,X.fn x=true->X.env.cells.lookup x=some c->X.s₀.heap.objs.size<=c
 hd:X.calm=true->X.A.handled=none
 frames:X.A.frames=some X.stack
 stk:X.stack=X.outer\/(X.stack=X.env::X.outer/\X.env.frame=some X.env.locals)
 exf:∀b∈X.ex,b≠X.env.locals/\∀x c,X.env.cells.lookup x=some c->c≠b
 bs:∀b o,X.base.get? b=some o->X.s₀.heap.get? b=some o/\X.H₀ b=none
 bsz:X.base.objs.size<=X.s₀.heap.objs.size
 noex:∀b o,X.base.get? b=some o->b∉X.ex
 exfs:∀b∈X.ex,b∉X.fs
 funs:X.s₀.heap.FunFrames X.base X.outer
 frf:∀b∈X.fs,X.H₀ b=none
structure Inv(X:Cx)(pins:List (LL×LS))(σ:List (Option V))(H:Hp)(s:LN):Prop where
 ok:X.Ok
 os:s.os=X.s₀.os
 bare:N2 s.gens
 base:Un X.fs X.ex X.H₀ H X.s₀.heap s.heap
 loc:∃m,s.heap.Ns X.env.locals m/\∀(i:Nat)(x:LK)(v:V),X.N[i]?=some x->σ[i]?=some (some v)->Jq X.env.scope x->∃u,RelV v u/\Look X.env s.heap m x u
 cell:∀x c,X.env.cells.lookup x=some c->∃v,s.heap.IsCell c v
 free:H X.env.locals=none
 freeC:∀x c,X.env.cells.lookup x=some c->H c=none
 pin:∀p∈X.pn++pins,s.heap.get? p.1=some p.2/\H p.1=none/\p.1≠X.env.locals/\p.1∉X.fs/\∀v,p.2.data≠.cell v
 hok:mZ X.prog X.w H s.heap
 len:σ.length=X.N.length
section
variable {X:Cx}{pins:List (LL×LS)}{σ:List (Option V)}{H H':Hp}{s:LN}{h':LV}
theorem Cx.Ok.nofr(ok:X.Ok){b:LL}{o:LS}(e:X.base.get? b=some o):b∉X.fs:=fun hb=>by
 have:=(ok.funs.mem hb).1
 rw[e]at this;cases this
theorem Inv.bs(I:Inv X pins σ H s):∀b o,X.base.get? b=some o->s.heap.get? b=some o/\H b=none:=fun b o e=>
 ⟨I.base.keep b o (I.ok.bs b o e).1 (I.ok.bs b o e).2 (I.ok.nofr e) (I.ok.noex b o e),I.base.free b o (I.ok.bs b o e).1 (I.ok.bs b o e).2 (I.ok.noex b o e)⟩
theorem Inv.bk(I:Inv X pins σ H s):∀b o,X.base.get? b=some o->s.heap.get? b=some o:=fun b o e=>(I.bs b o e).1
theorem Inv.mod(I:Inv X pins σ H s):Mod X.K X.mg X.base:=I.ok.mod
theorem Inv.kIn(I:Inv X pins σ H s):X.K.In s.heap:=I.ok.mod.kin.keeps I.bk
theorem Inv.lt(I:Inv X pins σ H s):X.env.locals<s.heap.objs.size:=let ⟨_,hn,_⟩:=I.loc;hn.lt
theorem Inv.sz(I:Inv X pins σ H s):X.s₀.heap.objs.size<=s.heap.objs.size:=Ma I.ok.above (NU I.lt)
theorem Inv.nofs(I:Inv X pins σ H s){a:LL}(h:s.heap.objs.size<=a):a∉X.fs:=fun hb=>by
 obtain⟨_,o,ho,_⟩:=I.ok.funs.mem hb
 exact absurd (MD (Mi ho) (Ma I.sz h)) (Nk _)
theorem Inv.cne(I:Inv X pins σ H s):∀x c,X.env.cells.lookup x=some c->c≠X.env.locals:=fun x c e z=>by
 obtain⟨v,o,ho,hd⟩:=I.cell x c e
 obtain⟨m,⟨o',es,ep,ho',hd',_⟩,_⟩:=I.loc
 rw[z,ho']at ho;cases ho;rw[hd']at hd;cases hd
theorem Inv.funs(I:Inv X pins σ H s):s.heap.FunFrames X.base X.outer:=by
 have all:∀(l:List Mo),(∀b∈xO l,b∈X.fs)->X.s₀.heap.FunFrames X.base l->s.heap.FunFrames X.base l:=by
  intro l
  induction l with
  |nil=>intro _ _;trivial
  |cons env r ih=>
   intro hs hl
   obtain⟨hk,⟨L,o,hf,hn,ho,hd⟩,hr⟩:=hl
   have hL:L∈X.fs:=hs L (by unfold xO;rw[Rz,hf];exact Nd)
   obtain⟨sl,e⟩:=I.base.slot L o ho (I.ok.frf L hL) hL fun z=>I.ok.exfs L z hL
   exact⟨hk,⟨L,_,hf,hn,e,hd⟩,ih (fun b hb=>hs b (by unfold xO;rw[Rz,hf];exact MU _ hb)) hr⟩
 exact all X.outer (fun _ hb=>hb) I.ok.funs
theorem Inv.stack(I:Inv X pins σ H s):s.heap.FunFrames X.base X.stack:=by
 rcases I.ok.stk with e|⟨e,hf⟩
 ·rw[e];exact I.funs
 ·rw[e]
  obtain⟨m,hn,_⟩:=I.loc
  refine .cons (by rw[I.ok.kind];decide) hf hn ?_ I.funs
  exact Qo (Ma I.ok.bsz I.ok.above)
theorem Inv.stkSub(I:Inv X pins σ H s):∀b∈xO X.stack,b∈X.env.locals::X.fs:=fun b hb=>by
 rcases I.ok.stk with e|⟨e,hf⟩
 ·rw[e]at hb;exact MU _ hb
 ·rw[e]at hb
  unfold xO at hb
  rw[Rz,hf]at hb
  exact hb
theorem Inv.stkFree(I:Inv X pins σ H s):∀b∈xO X.stack,H b=none:=fun b hb=>by
 rcases L9.mp (I.stkSub b hb)with e|hb
 ·rw[e];exact I.free
 ·obtain⟨_,o,ho,_⟩:=I.ok.funs.mem hb
  exact I.base.free b o ho (I.ok.frf b hb) fun z=>I.ok.exfs b z hb
theorem Inv.step{g':Array GenState}{t':Nat}{d':Drawn}{ch:List LL}(I:Inv X pins σ H s)
  (hch:∀b∈ch,(b∈X.ex\/X.s₀.heap.objs.size<=b)/\b≠X.env.locals/\(∀x c,X.env.cells.lookup x=some c->c≠b)/\∀p∈X.pn++pins,p.1≠b)
  (keep:∀b o,b≠X.env.locals->b∉X.fs->b∉ch->s.heap.get? b=some o->H b=none->h'.get? b=some o)
  (slot:∀b o,b≠X.env.locals->b∈X.fs->b∉ch->s.heap.get? b=some o->H b=none->∃sl,h'.get? b=some {o with slots:=sl}) (free:∀b o,b∉ch->s.heap.get? b=some o->H b=none->H' b=none)
  (there:∀b o,b∉ch->s.heap.get? b=some o->∃o',h'.get? b=some o')
  (tups:∀b xs,H b=some (.tup xs)->H' b=some (.tup xs)) (frzs:∀b o u,H b=some (.frz o u)->H' b=some (.frz o u)) (tbls:∀b ps,H b=some (.tbl ps)->∃more,H' b=some (.tbl (ps++more)))
  (ns:∀m,s.heap.Ns X.env.locals m->h'.Ns X.env.locals m) (hok:mZ X.prog X.w H' h') (hg:N2 g'):
  Inv X pins σ H' {s with heap:=h',gens:=g',drawn:=d',toks:=t'}:=by
 have neL:∀b o,X.s₀.heap.get? b=some o->b≠X.env.locals:=fun b o e=>Ms (MD (Mi e) I.ok.above)
 have neC:∀b o,X.s₀.heap.get? b=some o->b∉X.ex->b∉ch:=fun b o e hx hb=>by
  rcases(hch b hb).1 with z|z
  ·exact hx z
  ·exact absurd (MD (Mi e) z) (Nk _)
 have cellK:∀x c,X.env.cells.lookup x=some c->∀v,s.heap.IsCell c v->h'.IsCell c v:=fun x c e v ⟨o,ho,hd⟩=>by
  have nch:c∉ch:=fun z=>(hch c z).2.2.1 x c e rfl
  by_cases hc:c∈X.fs
  ·obtain⟨sl,q⟩:=slot c o (I.cne x c e) hc nch ho (I.freeC x c e)
   exact⟨_,q,hd⟩
  ·exact⟨o,keep c o (I.cne x c e) hc nch ho (I.freeC x c e),hd⟩
 refine⟨I.ok,I.os,hg,⟨fun b o e n hb hx=>?_,fun b o e n hb hx=>?_,fun b o e n hx=>?_,fun b o e hx=>?_,fun b xs e=>tups b xs (I.base.tups b xs e),fun b o xs e=>frzs b o xs (I.base.frzs b o xs e),fun b ps e=>?_⟩,?_,fun x c e=>?_,?_,fun x c e=>?_,fun p hp=>?_,hok,I.len⟩
 ·exact keep b o (neL b o e) hb (neC b o e hx) (I.base.keep b o e n hb hx) (I.base.free b o e n hx)
 ·obtain⟨sl,e1⟩:=I.base.slot b o e n hb hx
  obtain⟨sl',e2⟩:=slot b _ (neL b o e) hb (neC b o e hx) e1 (I.base.free b o e n hx)
  exact⟨sl',e2⟩
 ·obtain⟨o',e1⟩:=I.base.there b o e hx
  exact free b o' (neC b o e hx) e1 (I.base.free b o e n hx)
 ·obtain⟨o',e1⟩:=I.base.there b o e hx
  exact there b o' (neC b o e hx) e1
 ·obtain⟨m1,e1⟩:=I.base.tbls b ps e
  obtain⟨m2,e2⟩:=tbls b _ e1
  exact⟨m1++m2,by rw[e2,Array.append_assoc]⟩
 ·obtain⟨m,hn,hl⟩:=I.loc
  refine⟨m,ns m hn,fun i x v e1 e2 e3=>?_⟩
  obtain⟨u,r,l⟩:=hl i x v e1 e2 e3
  exists u,r
  rcases l with l|⟨k,c,e,z⟩
  ·exact .inl l
  ·exact .inr ⟨k,c,e,cellK x c e _ z⟩
 ·obtain⟨v,z⟩:=I.cell x c e
  exact⟨v,cellK x c e v z⟩
 ·obtain⟨m,⟨o,_,_,ho,_⟩,_⟩:=I.loc
  exact free _ o (fun z=>(hch _ z).2.1 rfl) ho I.free
 ·obtain⟨v,o,ho,hd⟩:=I.cell x c e
  exact free c o (fun z=>(hch c z).2.2.1 x c e rfl) ho (I.freeC x c e)
 ·obtain⟨e,n,ne,nf,d⟩:=I.pin p hp
  have nch:p.1∉ch:=fun z=>(hch p.1 z).2.2.2 p hp rfl
  exact⟨keep p.1 p.2 ne nf nch e n,free p.1 p.2 nch e n,ne,nf,d⟩
theorem Inv.un{t':Nat}(I:Inv X pins σ H s)(u:Un X.fs [] H H' s.heap h')(hok:mZ X.prog X.w H' h'):Inv X pins σ H' {s with heap:=h',toks:=t'}:=by
 obtain⟨m,⟨o,es,ep,ho,r⟩,_⟩:=id I.loc
 obtain⟨sl,hL⟩:=u.any ho I.free (by simp)
 exact I.step (g':=s.gens) (d':=s.drawn) (ch:=[]) (fun _ z=>nomatch z) (fun b o _ hb _ e n=>u.keep b o e n hb (by simp)) (fun b o _ hb _ e n=>u.slot b o e n hb (by simp)) (fun b o _ e n=>u.free b o e n (by simp)) (fun b o _ e=>u.there b o e (by simp)) u.tups u.frzs u.tbls (fun m' hm=>by
  obtain⟨o',es',ep',ho',r'⟩:=hm
  rw[ho]at ho';cases ho'
  exact⟨_,es',ep',hL,r'⟩) hok I.bare
theorem Inv.call{g':Array GenState}{t':Nat}{d':Drawn}{ch:List LL}(I:Inv X pins σ H s)(u:Un (xO X.stack) ch H H' s.heap h')(hok:mZ X.prog X.w H' h')(hg:N2 g')
  (hch:∀b∈ch,(b∈X.ex\/X.s₀.heap.objs.size<=b)/\b≠X.env.locals/\(∀x c,X.env.cells.lookup x=some c->c≠b)/\∀p∈X.pn++pins,p.1≠b):
  Inv X pins σ H' {s with heap:=h',gens:=g',drawn:=d',toks:=t'}:=by
 obtain⟨m,⟨o,es,ep,ho,r⟩,_⟩:=id I.loc
 obtain⟨sl,hL⟩:=u.any ho I.free fun z=>(hch _ z).2.1 rfl
 exact I.step (ch:=ch) hch (fun b o hL hb hc e n=>u.keep b o e n (fun z=>(L9.mp (I.stkSub b z)).elim hL hb) hc) (fun b o _ _ hc e n=>u.any e n hc) (fun b o hc e n=>u.free b o e n hc) (fun b o hc e=>u.there b o e hc) u.tups u.frzs u.tbls (fun m' hm=>by
  obtain⟨o',es',ep',ho',r'⟩:=hm
  rw[ho]at ho';cases ho'
  exact⟨_,es',ep',hL,r'⟩) hok hg
theorem Inv.turned{t':Nat}{it:LL}(I:Inv X pins σ H s)(k:∀b o,b≠it->s.heap.get? b=some o->h'.get? b=some o)(hn:H it=none)(hL:it≠X.env.locals)
  (h1:it∈X.ex\/X.s₀.heap.objs.size<=it) (h2:∀x c,X.env.cells.lookup x=some c->c≠it) (h3:∀p∈X.pn++pins,p.1≠it):Inv X pins σ H {s with heap:=h',toks:=t'}:=by
 have nit:∀b u,H b=some u->b≠it:=fun b u e z=>by rw[z,hn]at e;cases e
 refine I.step (g':=s.gens) (d':=s.drawn) (ch:=[it]) (fun b hb=>?_) (fun b o _ _ hc e _=>k b o (fun z=>hc (by simp[z])) e) (fun b o _ _ hc e _=>⟨o.slots,k b o (fun z=>hc (by simp[z])) e⟩) (fun _ _ _ _ n=>n)
  (fun b o hc e=>⟨o,k b o (fun z=>hc (by simp[z])) e⟩) (fun _ _ e=>e) (fun _ _ _ e=>e) (fun b ps e=>⟨#[],by rw[e];simp⟩) (fun m hm=>?_) (fun b u e=>?_) I.bare
 ·have e:b=it:=by simpa using hb
  subst e
  exact⟨h1,hL,h2,h3⟩
 ·obtain⟨o,es,ep,ho,r⟩:=hm
  exact⟨o,es,ep,k _ o (Mm hL) ho,r⟩
 ·refine(I.hok b u e).stay (fun c v hc q=>k c v ?_ q) (fun _ q=>q) fun _ _ q=>q
  rcases hc with z|z
  ·rw[z];exact nit b u e
  ·exact nit c _ z
theorem Inv.tok(I:Inv X pins σ H s)(t:Nat):Inv X pins σ H {s with toks:=t}:=I.un (h':=s.heap) (t':=t) Un.refl I.hok
theorem Inv.kept{t':Nat}(I:Inv X pins σ H s)(k:∀b u,s.heap.get? b=some u->h'.get? b=some u):Inv X pins σ H {s with heap:=h',toks:=t'}:=I.un (Un.kept k) (I.hok.kept k)
theorem Inv.laid{a:LL}{o:HO}{t':Nat}(I:Inv X pins σ H s)(k:∀b u,s.heap.get? b=some u->h'.get? b=some u)(hp:s.heap.objs.size<=a)(new:cF X.prog X.w (upd H a o) h' a o):
  Inv X pins σ (upd H a o) {s with heap:=h',toks:=t'}:=I.un (Un.laid k hp (I.hok.fresh hp)) (I.hok.laid k hp new)
theorem Inv.write{x e:LL}{o:HO}{t':Nat}(I:Inv X pins σ H s)(mu:Kq (H x))(he:e=x\/H e=some (.own x))(k:∀b u,b≠e->s.heap.get? b=some u->h'.get? b=some u)(heo:∃u,h'.get? e=some u)
  (new:cF X.prog X.w (upd H x o) h' x o):Inv X pins σ (upd H x o) {s with heap:=h',toks:=t'}:=I.un (Un.write mu he k heo) (I.hok.write mu he k heo new)
theorem Inv.pins_of{pins':List (LL×LS)}(I:Inv X pins σ H s)(h:∀p∈pins',s.heap.get? p.1=some p.2/\H p.1=none/\p.1≠X.env.locals/\p.1∉X.fs/\∀v,p.2.data≠.cell v):Inv X pins' σ H s:=
 ⟨I.ok,I.os,I.bare,I.base,I.loc,I.cell,I.free,I.freeC,fun p hp=>(Mp.mp hp).elim (fun z=>I.pin p (Tq _ z)) (h p),I.hok,I.len⟩
theorem vb{N:List LK}(hN:N.Nodup){i j:Nat}{x:LK}(a:N[i]?=some x)(b:N[j]?=some x):i=j:=by
 obtain⟨h1,e1⟩:=Mx.mp a
 obtain⟨h2,e2⟩:=Mx.mp b
 exact(List.getElem_inj hN).mp (e1.trans e2.symm)
theorem xn{M:Model}{A:Mb}{E:LM->LN->Prop}{i:Nat}{x:LK}{v:V}{u:LM}{Q:Unit->LN->Prop}(I:Inv X pins σ H s)(hN:X.N.Nodup)(hi:X.N[i]?=some x)(hx:Loc X.env.scope x)(r:RelV v u)
  (h:∀s',Inv X pins (σ.set i (some v)) H s'->(∃a,NM a s.heap s'.heap/\(a=X.env.locals\/X.env.cells.lookup x=some a))->Q () s') (hf:X.fn x=true\/X.env.scope.names.lookup x=some .local:=by first|exact .inl rfl|exact .inr rfl|assumption):LP M A (storeName X.env x u) Q E s:=by
 obtain⟨m,hn,hl⟩:=id I.loc
 have hcls:(X.env.scope.kind==.class || (X.env.scope.kind==.module&&X.env.locals != X.env.globals))=false:=by rw[I.ok.kind];rfl
 have hiσ:i<σ.length:=by rw[I.len];exact(Mx.mp hi).1
 have cne:=I.cne
 have tracked:∀{a:LL}{h':LV},(∃o,s.heap.get? a=some o/\H a=none)->NM a s.heap h'->mZ X.prog X.w H h':=fun {a h'} ha hs b ob e=>by
  obtain⟨_,_,hfree⟩:=ha
  refine(I.hok b ob e).stay (fun c w' hc q=>(hs.2 c ?_).trans q) (fun _ q=>q) fun _ _ q=>q
  rintro rfl
  rcases hc with rfl|hc
  ·rw[hfree]at e;cases e
  ·rw[hfree]at hc;cases hc
 rcases hx with hk|hk
 ·refine wpAny_storeName_local hk hn (fun h' hn' hs=>?_) hcls
  obtain⟨oL,_,_,hoL,_⟩:=id hn
  refine h _ ⟨I.ok,I.os,I.bare,⟨fun b o e n hb hx=>?_,fun b o e n hb hx=>?_,I.base.free,fun b o e hx=>?_,I.base.tups,I.base.frzs,I.base.tbls⟩,⟨_,hn',fun j y v' e1 e2 e3=>?_⟩,fun y c e=>?_,I.free,I.freeC,fun p hp=>?_,tracked ⟨oL,hoL,I.free⟩ hs,by simpa using I.len⟩ ⟨_,hs,.inl rfl⟩
  ·exact(hs.2 b (Ms (MD (Mi e) I.ok.above))).trans (I.base.keep b o e n hb hx)
  ·obtain⟨sl,e1⟩:=I.base.slot b o e n hb hx
   exact⟨sl,(hs.2 b (Ms (MD (Mi e) I.ok.above))).trans e1⟩
  ·obtain⟨o',e1⟩:=I.base.there b o e hx
   exact⟨o',(hs.2 b (Ms (MD (Mi e) I.ok.above))).trans e1⟩
  ·by_cases hj:j=i
   ·subst hj
    rw[hi]at e1;cases e1
    rw[Pw hiσ]at e2
    cases e2
    exact⟨u,r,.inl ⟨hk,by simp⟩⟩
   ·rw[Ql (Mm hj)]at e2
    obtain⟨u',r',q⟩:=hl j y v' e1 e2 e3
    exists u',r'
    rcases q with⟨k,e⟩|⟨k,c,e,z⟩
    ·refine .inl ⟨k,?_⟩
     have:y≠x:=fun e=>hj (vb hN e1 (e▸hi))
     simp[this,e]
    ·exact .inr ⟨k,c,e,z.sameBut hs (cne y c e)⟩
  ·obtain⟨w',z⟩:=I.cell y c e
   exact⟨w',z.sameBut hs (cne y c e)⟩
  ·obtain⟨e,n,ne,nf,d⟩:=I.pin p hp
   exact⟨(hs.2 p.1 ne).trans e,n,ne,nf,d⟩
 ·have hfn:X.fn x=true:=by
   rcases hf with z|z
   ·exact z
   ·rw[z]at hk;cases hk
  obtain⟨c,hc⟩:=I.ok.has x (.inl hk)
  obtain⟨w',z⟩:=I.cell x c hc
  refine wpAny_storeName_cell I.ok.kind hk hc z (fun h' hc' hs=>?_)
  obtain⟨oc,hoc,hocd⟩:=id z
  refine h {s with heap:=h'} ⟨I.ok,I.os,I.bare,⟨fun b o e n hb hx=>?_,fun b o e n hb hx=>?_,I.base.free,fun b o e hx=>?_,I.base.tups,I.base.frzs,I.base.tbls⟩,⟨m,hn.sameBut hs (Mm (cne x c hc)),fun j y v' e1 e2 e3=>?_⟩,fun y c' e=>?_,I.free,I.freeC,fun p hp=>?_,tracked ⟨oc,hoc,I.freeC x c hc⟩ hs,by simpa using I.len⟩ ⟨c,hs,.inr hc⟩
  ·exact(hs.2 b (Ms (MD (Mi e) (I.ok.cab x c hfn hc)))).trans (I.base.keep b o e n hb hx)
  ·obtain⟨sl,e1⟩:=I.base.slot b o e n hb hx
   exact⟨sl,(hs.2 b (Ms (MD (Mi e) (I.ok.cab x c hfn hc)))).trans e1⟩
  ·obtain⟨o',e1⟩:=I.base.there b o e hx
   exact⟨o',(hs.2 b (Ms (MD (Mi e) (I.ok.cab x c hfn hc)))).trans e1⟩
  ·by_cases hj:j=i
   ·subst hj
    rw[hi]at e1;cases e1
    rw[Pw hiσ]at e2
    cases e2
    exact⟨u,r,.inr ⟨.inl hk,c,hc,hc'⟩⟩
   ·rw[Ql (Mm hj)]at e2
    obtain⟨u',r',q⟩:=hl j y v' e1 e2 e3
    exists u',r'
    rcases q with q|⟨k,c',e,z'⟩
    ·exact .inl q
    ·refine .inr ⟨k,c',e,z'.sameBut hs ?_⟩
     rintro rfl
     exact hj (vb hN e1 (I.ok.inj _ _ _ e hc▸hi))
  ·by_cases hcc:c'=c
   ·subst hcc;exact⟨_,hc'⟩
   ·obtain⟨w2,z2⟩:=I.cell y c' e
    exact⟨w2,z2.sameBut hs hcc⟩
  ·obtain⟨e,n,ne,nf,d⟩:=I.pin p hp
   refine⟨(hs.2 p.1 ?_).trans e,n,ne,nf,d⟩
   intro q
   rw[q,hoc]at e
   have q':oc=p.2:=MB e
   exact d w' (by rw[<-q'];exact hocd)
theorem ma{M:Model}{A:Mb}{E:LM->LN->Prop}{i:Nat}{x:LK}{v:V}{u:LM}{Q:Unit->LN->Prop}(I:Inv X pins σ H s)(hN:X.N.Nodup)(hi:X.N[i]?=some x)(hx:Loc X.env.scope x)(r:RelV v u)
  (h:∀s',Inv X pins (σ.set i (some v)) H s'->Q () s') (hf:X.fn x=true\/X.env.scope.names.lookup x=some .local:=by first|exact .inl rfl|exact .inr rfl|assumption):LP M A (storeName X.env x u) Q E s:=
 xn I hN hi hx r (fun s' I' _=>h s' I') hf
theorem Inv.call'{s':LN}{ch:List LL}(I:Inv X pins σ H s)(ho:s'.os=s.os)(u:Un (xO X.stack) ch H H' s.heap s'.heap)(hok:mZ X.prog X.w H' s'.heap)(hg:N2 s'.gens)
  (hch:∀b∈ch,(b∈X.ex\/X.s₀.heap.objs.size<=b)/\b≠X.env.locals/\(∀x c,X.env.cells.lookup x=some c->c≠b)/\∀p∈X.pn++pins,p.1≠b):Inv X pins σ H' s':=by
 obtain⟨h',g',d',t',o'⟩:=s'
 have e:o'=s.os:=ho
 subst e
 exact I.call (g':=g') (t':=t') (d':=d') u hok hg hch
end
noncomputable abbrev XK:=LM->Option LL->Hp->Prop
noncomputable abbrev St:=List (Option V)
noncomputable abbrev VK:=V->Hp->Prop
noncomputable abbrev TE:=St->Hp->VK->Prop
noncomputable abbrev TT:=St->Hp->(Bool->Hp->Prop)->Prop
noncomputable abbrev TA:=St->Hp->(List V->Hp->Prop)->Prop
structure Ends where
 nx:St->Hp->Prop
 rt:VK
 bk:St->Hp->Prop:=fun _ _=>False
 ct:St->Hp->Prop:=fun _ _=>False
noncomputable abbrev TS:=Ends->St->Hp->Prop
noncomputable def EP(X:Cx)(pins:List (LL×LS))(σ:St)(Q:VK)(u:LM)(s':LN):Prop:=∃v H',Inv X pins σ H' s'/\RelV v u/\Q v H'
noncomputable def TP(X:Cx)(pins:List (LL×LS))(σ:St)(Q:Bool->Hp->Prop)(b:Bool)(s':LN):Prop:=∃H',Inv X pins σ H' s'/\Q b H'
noncomputable def AP(X:Cx)(pins:List (LL×LS))(σ:St)(Q:List V->Hp->Prop)(us:List LM)(s':LN):Prop:=∃vs H',Inv X pins σ H' s'/\bF vs us/\Q vs H'
noncomputable def SP(X:Cx)(pins:List (LL×LS))(D:Ends)(f:Flow)(s':LN):Prop:=
 match f with
 |.next=>∃σ' H',Inv X pins σ' H' s'/\D.nx σ' H'
 |.brk=>∃σ' H',Inv X pins σ' H' s'/\D.bk σ' H'
 |.cont=>∃σ' H',Inv X pins σ' H' s'/\D.ct σ' H'
 |.ret u=>∃v σ' H',Inv X pins σ' H' s'/\RelV v u/\D.rt v H'
noncomputable def PE(X:Cx)(e:LU)(t:TE):Prop:=
 ∀(pins:List (LL×LS))(s:LN)(σ:St)(H:Hp)(Q:VK),Inv X pins σ H s->t σ H Q->LP (model X.prog X.w) X.A (eval e X.env) (EP X pins σ Q) X.xe s
noncomputable def PT(X:Cx)(e:LU)(t:TT):Prop:=
 ∀(pins:List (LL×LS))(s:LN)(σ:St)(H:Hp)(Q:Bool->Hp->Prop),Inv X pins σ H s->t σ H Q->LP (model X.prog X.w) X.A (isTrue e X.env (eval e X.env)) (TP X pins σ Q) X.xe s
noncomputable def PW(X:Cx)(e:LU)(t:TT):Prop:=
 ∀(whole:Sem LM)(pins:List (LL×LS))(s:LN)(σ:St)(H:Hp)(Q:Bool->Hp->Prop),Inv X pins σ H s->t σ H Q->LP (model X.prog X.w) X.A (isTrue e X.env whole) (TP X pins σ Q) X.xe s
theorem PW.pt{X:Cx}{e:LU}{t:TT}(h:PW X e t):PT X e t:=h _
noncomputable def PA(X:Cx)(es:List LU)(t:TA):Prop:=
 ∀(pos:L8)(pins:List (LL×LS))(s:LN)(σ:St)(H:Hp)(Q:List V->Hp->Prop),Inv X pins σ H s->t σ H Q->LP (model X.prog X.w) X.A (spliced (MA pos (L6 es X.env))) (AP X pins σ Q) X.xe s
noncomputable def PS(X:Cx)(st:LX)(t:TS):Prop:=
 ∀(pins:List (LL×LS))(s:LN)(σ:St)(H:Hp)(D:Ends),Inv X pins σ H s->t D σ H->LP (model X.prog X.w) X.A (exec st X.env) (SP X pins D) X.xe s
noncomputable def vm(X:Cx)(st:List LX)(t:TS):Prop:=
 ∀(pins:List (LL×LS))(s:LN)(σ:St)(H:Hp)(D:Ends),Inv X pins σ H s->t D σ H->LP (model X.prog X.w) X.A (execs st X.env) (SP X pins D) X.xe s
theorem ck{α:Type}{t:Sem α}{Q Q':α->LN->Prop}{M:Model}{A:Mb}{E:LM->LN->Prop}{s:LN}(h:LP M A t Q E s)(hQ:∀a s,Q a s->Q' a s):LP M A t Q' E s:=M3 h hQ fun _ _ x=>x
section
variable {X:Cx}
theorem bin{a b:LU}{ta tb:TE}(ha:PE X a ta)(hb:PE X b tb){pins:List (LL×LS)}{s:LN}{σ:St}{H:Hp}{R:V->V->Hp->Prop}(I:Inv X pins σ H s)(h:ta σ H fun x H1=>tb σ H1 fun y H2=>R x y H2)
  {α:Type}{Q:α->LN->Prop}{f:LM->LM->Sem α}
  (hf:∀v u s2 x y H2,Inv X pins σ H2 s2->RelV x v->RelV y u->R x y H2->LP (model X.prog X.w) X.A (f v u) Q X.xe s2):
  LP (model X.prog X.w) X.A (eval a X.env) (fun v s₁=>LP (model X.prog X.w) X.A (eval b X.env) (fun u s₂=>LP (model X.prog X.w) X.A (f v u) Q X.xe s₂) X.xe s₁) X.xe s:=by
 refine ck (ha pins s σ H _ I h) fun v s1 ⟨x,H1,I1,r1,q1⟩=>?_
 refine ck (hb pins s1 σ H1 _ I1 q1) fun u s2 ⟨y,H2,I2,r2,q2⟩=>?_
 exact hf v u s2 x y H2 I2 r1 r2 q2
noncomputable def ae(i:Nat):TE:=fun σ H Q=>∃v,σ[i]?=some (some v)/\Q v H
noncomputable def tC(v:V):TE:=fun _ H Q=>Q v H
theorem Jg{i:Nat}{x:LK}{pos:L8}(hN:X.N[i]?=some x)(hv:Jq X.env.scope x)(hd:(x==("__debug__":LK))=false:=by decide)(hcd:(x==("__classdict__":LK))=false:=by decide):PE X (.Name x pos) (ae i):=by
 intro pins s σ H Q I h
 obtain⟨v,e,h⟩:=h
 obtain⟨m,hn,hl⟩:=I.loc
 obtain⟨u,r,l⟩:=hl i x v hN e hv
 have fin:EP X pins σ Q u s:=⟨v,H,I,r,h⟩
 rcases l with⟨hk,hm⟩|⟨hk,c,hc,hcell⟩
 ·exact wpAny_Name (wpAny_loadName_local I.ok.kind hk hn hm fin) hd
 ·rcases hk with hk|hk
  ·exact wpAny_Name (wpAny_loadName_cell I.ok.kind hk hc hcell fin) hd
  ·exact wpAny_Name (wpAny_loadName_free I.ok.kind hk hc hcell fin hcd) hd
theorem aj{i j pos}:PE X (.Constant (.int i) j pos) (tC (.int i)):=fun _ _ _ H _ I h=>wpAny_Constant_int ⟨.int i,H,I.tok _,⟨_,rfl⟩,h⟩
theorem pV{b j pos}:PE X (.Constant (.bool b) j pos) (tC (.bl b)):=fun _ _ _ H _ I h=>Constant_bool ⟨.bl b,H,I,rfl,h⟩
theorem gF{j pos}:PE X (.Constant .none j pos) (tC .non):=fun _ _ _ H _ I h=>Constant_none ⟨.non,H,I,rfl,h⟩
theorem aB{x j pos}:PE X (.Constant (.str x) j pos) (tC (.str x)):=fun _ _ _ H _ I h=>Calls.Constant_str ⟨.str x,H,I.tok _,⟨_,rfl⟩,h⟩
noncomputable def Gl(X:Cx)(x:LK):Prop:=X.env.kindOf x=some .globalImplicit
theorem mM{E:LM->LN->Prop}{pins:List (LL×LS)}{s:LN}{σ:St}{H:Hp}{x:LK}{u:LM}{pos:L8}{Q:LM->LN->Prop}(I:Inv X pins σ H s)(hg:Gl X x)(hm:X.mg x=some u)(h:Q u s)
  (hd:(x==("__debug__":LK))=false:=by decide):LP (model X.prog X.w) X.A (eval (.Name x pos) X.env) Q E s:=
 RZ I.ok.kind hg (Calls.loadGlobal_global (by rw[I.ok.glob];exact I.mod.glob.keeps I.bk) hm h) hd
theorem jx{E:LM->LN->Prop}{pins:List (LL×LS)}{s:LN}{σ:St}{H:Hp}{x:LK}{u:LM}{pos:L8}{Q:LM->LN->Prop}(I:Inv X pins σ H s)(hg:Gl X x)(hm:X.mg x=none)(hv:O2 x=some u)(h:Q u s)
  (hn:x≠"__name__":=by decide) (hd:(x==("__debug__":LK))=false:=by decide):LP (model X.prog X.w) X.A (eval (.Name x pos) X.env) Q E s:=by
 obtain⟨mb,h1,h2⟩:=I.mod.blt
 exact RZ I.ok.kind hg (Calls.loadGlobal_builtin (by rw[I.ok.glob];exact I.mod.glob.keeps I.bk) hm (by rw[I.ok.blt];exact h1.keeps I.bk) ((h2 x hn).trans hv) h) hd
theorem xY{x:LK}{v:V}{u:LM}{pos:L8}(hg:Gl X x)(hm:X.mg x=some u)(r:RelV v u)(hd:(x==("__debug__":LK))=false:=by decide):PE X (.Name x pos) (tC v):=
 fun _ _ _ H _ I h=>mM I hg hm ⟨v,H,I,r,h⟩ hd
theorem G9{x:LK}{v:V}{u:LM}{pos:L8}(hg:Gl X x)(hm:X.mg x=none)(hv:O2 x=some u)(r:RelV v u)(hn:x≠"__name__":=by decide)(hd:(x==("__debug__":LK))=false:=by decide):PE X (.Name x pos) (tC v):=
 fun _ _ _ H _ I h=>jx I hg hm hv ⟨v,H,I,r,h⟩ hn hd
variable {a b:LU}{ta tb:TE}{pos:L8}
noncomputable def PC(X:Cx)(op:CmpOp)(a b:LU)(t:TE):Prop:=
 ∀(pins:List (LL×LS))(s:LN)(σ:St)(H:Hp)(Q:VK),Inv X pins σ H s->t σ H Q->
  LP (model X.prog X.w) X.A (eval a X.env) (fun v s₁=>LP (model X.prog X.w) X.A (eval b X.env) (fun u s₂=>LP (model X.prog X.w) X.A (MG op v u) (EP X pins σ Q) X.xe s₂) X.xe s₁) X.xe s
noncomputable def tB(t:TE):TT:=fun σ H Q=>t σ H fun x H1=>∃c,x=.bl c/\Q c H1
theorem B1{op:CmpOp}{t:TE}(h:PC X op a b t)(h1:PR op b=false:=by first|exact nobehind _ (by decide) (by decide)|rfl):PT X (.Compare a [op] [b] pos) (tB t):=by
 intro pins s σ H Q I hw
 refine wpAny_isTrue_Compare1 (ck (h pins s σ H _ I hw) fun v s1 h1=>ck h1 fun u s2 h2=>ck h2 fun c s3 ⟨x,H1,I1,r1,q1⟩=>?_) h1
 obtain⟨d,rfl,q⟩:=q1
 cases r1
 exact OO ⟨H1,I1,q⟩
theorem yL{e:LU}{t:TE}(h:PE X e t)(he:∀whole,isTrue e X.env whole=(do let v <-whole;standAt e.pos;holding [v] (truthy v)):=by intro _;rfl):PT X e (tB t):=by
 intro pins s σ H Q I hw
 refine isTrue_plain (ck (h pins s σ H _ I hw) fun v s1 ⟨x,H1,I1,r1,q1⟩=>?_) (he _)
 obtain⟨d,rfl,q⟩:=q1
 cases r1
 exact OO ⟨H1,I1,q⟩
variable {tA tB':TT}{rest:List LU}
noncomputable def qy(t u:TT):TT:=fun σ H Q=>t σ H fun c H1=>if c=true then u σ H1 Q else Q false H1
noncomputable def Gc(t u:TT):TT:=fun σ H Q=>t σ H fun c H1=>if c=true then Q true H1 else u σ H1 Q
noncomputable def zo(t:TT):TT:=fun σ H Q=>t σ H fun c H1=>Q (!c) H1
theorem gX(ha:PT X a tA):PW X (.BoolOp .And [a] pos) tA:=by
 intro wh pins s σ H Q I h
 refine isTrue_and (ck (ha pins s σ H Q I h) fun c s1 e=>?_)
 cases c with
 |true=>exact isTrue_and_nil e
 |false=>exact e
theorem lV(ha:PT X a tA):PW X (.BoolOp .Or [a] pos) tA:=by
 intro wh pins s σ H Q I h
 refine isTrue_or (ck (ha pins s σ H Q I h) fun c s1 e=>?_)
 cases c with
 |false=>exact isTrue_or_nil e
 |true=>exact e
theorem jQ(ha:PT X a tA)(hb:PW X (.BoolOp .And (b::rest) pos) tB'):PW X (.BoolOp .And (a::b::rest) pos) (qy tA tB'):=by
 intro wh pins s σ H Q I h
 refine isTrue_and (ck (ha pins s σ H _ I h) fun c s1 ⟨H1,I1,q1⟩=>?_)
 cases c with
 |true=>exact hb wh pins s1 σ H1 Q I1 q1
 |false=>exact⟨H1,I1,q1⟩
theorem rp(ha:PT X a tA)(hb:PW X (.BoolOp .Or (b::rest) pos) tB'):PW X (.BoolOp .Or (a::b::rest) pos) (Gc tA tB'):=by
 intro wh pins s σ H Q I h
 refine isTrue_or (ck (ha pins s σ H _ I h) fun c s1 ⟨H1,I1,q1⟩=>?_)
 cases c with
 |true=>exact⟨H1,I1,q1⟩
 |false=>exact hb wh pins s1 σ H1 Q I1 q1
theorem uI(ha:PT X a tA):PT X (.UnaryOp .Not a pos) (zo tA):=by
 intro pins s σ H Q I h
 exact isTrue_not (ha pins s σ H (fun c H1=>Q (!c) H1) I h)
noncomputable def FH(ta tb:TE):TE:=fun σ H Q=>ta σ H fun x H1=>∃c,x=.bl c/\if c=true then tb σ H1 Q else Q (.bl false) H1
noncomputable def Ju(ta tb:TE):TE:=fun σ H Q=>ta σ H fun x H1=>∃c,x=.bl c/\if c=true then Q (.bl true) H1 else tb σ H1 Q
theorem F9{op}{t:TE}(h:PE X a t):PE X (.BoolOp op [a] pos) t:=fun pins s σ H Q I hw=>BoolOp_one (h pins s σ H Q I hw)
theorem HX(ha:PE X a ta)(hb:PE X (.BoolOp .And (b::rest) pos) tb):PE X (.BoolOp .And (a::b::rest) pos) (FH ta tb):=by
 intro pins s σ H Q I h
 refine BoolOp_and (ck (ha pins s σ H _ I h) fun v s1 ⟨x,H1,I1,r1,q1⟩=>?_)
 obtain⟨c,rfl,q1⟩:=q1
 cases r1
 refine OO ?_
 cases c with
 |true=>exact hb pins s1 σ H1 Q I1 q1
 |false=>exact⟨.bl false,H1,I1,rfl,q1⟩
theorem Kr(ha:PE X a ta)(hb:PE X (.BoolOp .Or (b::rest) pos) tb):PE X (.BoolOp .Or (a::b::rest) pos) (Ju ta tb):=by
 intro pins s σ H Q I h
 refine BoolOp_or (ck (ha pins s σ H _ I h) fun v s1 ⟨x,H1,I1,r1,q1⟩=>?_)
 obtain⟨c,rfl,q1⟩:=q1
 cases r1
 refine OO ?_
 cases c with
 |false=>exact hb pins s1 σ H1 Q I1 q1
 |true=>exact⟨.bl true,H1,I1,rfl,q1⟩
noncomputable def K7(t:TT)(ta tb:TE):TE:=fun σ H Q=>t σ H fun c H1=>if c=true then ta σ H1 Q else tb σ H1 Q
theorem zd{c:LU}(hc:PT X c tA)(ha:PE X a ta)(hb:PE X b tb):PE X (.IfExp c a b pos) (K7 tA ta tb):=by
 intro pins s σ H Q I h
 refine wpAny_IfExp (ck (hc pins s σ H _ I h) fun d s1 ⟨H1,I1,q1⟩=>?_)
 cases d with
 |true=>exact ha pins s1 σ H1 Q I1 q1
 |false=>exact hb pins s1 σ H1 Q I1 q1
end
noncomputable def aK(K:LO)(H:Hp)(a:LL)(xs:List V):Prop:=
 Rd H a (.lst xs)\/
  ∃(o:LS)(its:Array LM)(n:Nat),K.lookup a=some o/\o.cls=.type "list"/\o.dict=none/\o.data=.seq its n/\its.size<=LW/\bF xs its.toList
noncomputable def gf(K:LO)(H:Hp)(a:LL)(xs:List V):Prop:=
 Rd H a (.tup xs)\/
  ∃(o:LS)(its:Array LM)(n:Nat),K.lookup a=some o/\o.cls=.type "tuple"/\o.data=.seq its n/\its.size<=LW/\bF xs its.toList
noncomputable def Le:LM->Option V
 |.none=>some .non
 |.bool b=>some (.bl b)
 |.int i _=>some (.int i)
 |.str x _=>some (.str x)
 |.bytes b _=>some (.byt b)
 |.float b _=>some (.flt b)
 |.ref a=>some (.ref a)
 |.type n=>some (.ty n)
 |_=>none
theorem RelV.abs{x:V}{u:LM}(r:RelV x u):Le u=some x:=by
 cases x with
 |non=>cases r;rfl
 |bl _=>cases r;rfl
 |int _=>obtain⟨t,rfl⟩:=r;rfl
 |str _=>obtain⟨t,rfl⟩:=r;rfl
 |byt _=>obtain⟨t,rfl⟩:=r;rfl
 |flt _=>obtain⟨t,rfl⟩:=r;rfl
 |ref _=>cases r;rfl
 |ty _=>cases r;rfl
theorem RelV.inj{x y:V}{u:LM}(r:RelV x u)(q:RelV y u):x=y:=MB (r.abs.symm.trans q.abs)
theorem bF.inj:∀{xs ys:List V}{us:List LM},bF xs us->bF ys us->xs=ys
 |_,_,_,.nil,.nil=>rfl
 |_,_,_,.cons r t,.cons r' t'=>by rw[r.inj r',bF.inj t t']
section
variable {X:Cx}{pins:List (LL×LS)}{σ:St}{H:Hp}{s:LN}{a:LL}{xs ys:List V}
theorem aK.of{K:LO}(h:H a=some (.lst xs)):aK K H a xs:=.inl (.inl h)
theorem gf.of{K:LO}(h:H a=some (.tup xs)):gf K H a xs:=.inl (.inl h)
theorem Inv.list(I:Inv X pins σ H s)(h:aK X.K H a xs):∃its:List LM,bF xs its/\PlainL s.heap a its.toArray/\xs.length<=LW:=by
 rcases h with h|⟨o,its,n,hk,hc,hd,hs,hz,r⟩
 ·obtain⟨z,its,n,r,e⟩:=h.ok I.hok
  exact⟨its,r,⟨_,n,e,rfl,rfl,rfl⟩,z⟩
 ·exists its.toList,r,⟨o,n,I.kIn a o hk,hc,hd,by simpa using hs⟩
  have e:=r.length
  simp only[Qv]at e
  omega
theorem Inv.tuple(I:Inv X pins σ H s)(h:gf X.K H a xs):∃its:List LM,bF xs its/\IsTup s.heap a its.toArray/\xs.length<=LW:=by
 rcases h with h|⟨o,its,n,hk,hc,hs,hz,r⟩
 ·obtain⟨z,its,r,p⟩:=h.ok I.hok
  exact⟨its,r,p,z⟩
 ·exists its.toList,r,⟨o,I.kIn a o hk,hc,n,by simpa using hs⟩
  have e:=r.length
  simp only[Qv]at e
  omega
theorem Inv.list_inj(I:Inv X pins σ H s)(h:aK X.K H a xs)(h':aK X.K H a ys):xs=ys:=by
 obtain⟨its,r,⟨o,n,e,_,_,d⟩,_⟩:=I.list h
 obtain⟨its',r',⟨o',n',e',_,_,d'⟩,_⟩:=I.list h'
 rw[e]at e';cases e'
 rw[d]at d'
 injection d' with d1 _
 have:its=its':=by simpa using congrArg Array.toList d1
 subst this
 exact r.inj r'
end
noncomputable abbrev Cx.wish(X:Cx)(E:LM->LN->Prop):Cx:={X with xe:=E}
noncomputable abbrev Cx.nox(X:Cx):Cx:=X.wish fun _ _=>False
theorem Cx.Ok.wish{X:Cx}(ok:X.Ok)(E:LM->LN->Prop):(X.wish E).Ok:=
 ⟨ok.mod,ok.kind,ok.glob,ok.blt,ok.above,ok.inj,ok.has,ok.cab,ok.hd,ok.frames,ok.stk,ok.exf,ok.bs,ok.bsz,ok.noex,ok.exfs,ok.funs,ok.frf⟩
theorem Cx.Ok.unwish{X:Cx}{E:LM->LN->Prop}(ok:(X.wish E).Ok):X.Ok:=
 ⟨ok.mod,ok.kind,ok.glob,ok.blt,ok.above,ok.inj,ok.has,ok.cab,ok.hd,ok.frames,ok.stk,ok.exf,ok.bs,ok.bsz,ok.noex,ok.exfs,ok.funs,ok.frf⟩
section
variable {X:Cx}{pins:List (LL×LS)}{σ:St}{H:Hp}{s:LN}{E:LM->LN->Prop}
theorem Inv.wish(I:Inv X pins σ H s)(E:LM->LN->Prop):Inv (X.wish E) pins σ H s:=⟨I.ok.wish E,I.os,I.bare,I.base,I.loc,I.cell,I.free,I.freeC,I.pin,I.hok,I.len⟩
theorem Inv.unwish(I:Inv (X.wish E) pins σ H s):Inv X pins σ H s:=⟨I.ok.unwish,I.os,I.bare,I.base,I.loc,I.cell,I.free,I.freeC,I.pin,I.hok,I.len⟩
theorem SP.unwish{D:Ends}{f:Flow}{s':LN}(h:SP (X.wish E) pins D f s'):SP X pins D f s':=by
 cases f with
 |next=>obtain⟨σ',H',I,q⟩:=h;exact⟨σ',H',I.unwish,q⟩
 |brk=>obtain⟨σ',H',I,q⟩:=h;exact⟨σ',H',I.unwish,q⟩
 |cont=>obtain⟨σ',H',I,q⟩:=h;exact⟨σ',H',I.unwish,q⟩
 |ret u=>obtain⟨v,σ',H',I,r,q⟩:=h;exact⟨v,σ',H',I.unwish,r,q⟩
theorem vm.nox{st:List LX}{t:TS}(h:vm X.nox st t):vm X st t:=fun pins s σ H D I hw=>
 M3 (h pins s σ H D (I.wish _) hw) (fun _ _ q=>q.unwish) fun _ _ z=>Nc z
end
section
variable {X:Cx}{st:LX}{rest:List LX}{t u:TS}{e:LU}{te:TE}{pos:L8}
noncomputable def bH:TS:=fun D σ H=>D.nx σ H
noncomputable def aF(t u:TS):TS:=fun D σ H=>t {D with nx:=u D} σ H
theorem aX:vm X [] bH:=fun _ _ σ H _ I h=>Pa ⟨σ,H,I,h⟩
theorem ag(h1:PS X st t)(h2:vm X rest u):vm X (st::rest) (aF t u):=by
 intro pins s σ H D I h
 refine wpAny_execs_cons (ck (h1 pins s σ H {D with nx:=u D} I h) fun f s1 q=>?_)
 cases f with
 |next=>
  obtain⟨σ',H',I',q⟩:=q
  exact h2 pins s1 σ' H' D I' q
 |ret v=>exact q
 |brk=>exact q
 |cont=>exact q
theorem ak(h1:PS X st t):vm X [st] t:=by
 intro pins s σ H D I h
 refine wpAny_execs_cons (ck (h1 pins s σ H D I h) fun f s1 q=>?_)
 cases f with
 |next=>exact Pa q
 |ret v=>exact q
 |brk=>exact q
 |cont=>exact q
theorem Inv.quiet{pins:List (LL×LS)}{σ:St}{H:Hp}{s:LN}(I:Inv X pins σ H s):interactive X.env=false:=by simp[interactive,I.ok.kind]
noncomputable def bV(te:TE):TS:=fun D σ H=>te σ H fun _ H1=>D.nx σ H1
theorem bp(he:PE X e te)(hs:swapsWith e none pos.line X.env=pure false:=by rfl):PS X (.Expr e pos) (bV te):=by
 intro pins s σ H D I h
 exact wpAny_Expr_any (ck (he pins s σ H _ I h) fun v s1 ⟨x,H1,I1,r1,q1⟩=>⟨σ,H1,I1,q1⟩) I.quiet hs
noncomputable def bE(te:TE):TS:=fun D σ H=>te σ H D.rt
theorem aJ(he:PE X e te):PS X (.Return (some e) pos) (bE te):=by
 intro pins s σ H D I h
 exact wpAny_Return_some (ck (he pins s σ H _ I h) fun v s1 ⟨x,H1,I1,r1,q1⟩=>⟨x,σ,H1,I1,r1,q1⟩)
noncomputable def bU(c:TT)(t u:TS):TS:=fun D σ H=>c σ H fun b H1=>if b=true then t D σ H1 else u D σ H1
theorem bJ{c:LU}{a b:List LX}{tc:TT}(hc:PT X c tc)(ha:vm X a t)(hb:vm X b u):PS X (.If c a b pos) (bU tc t u):=by
 intro pins s σ H D I h
 refine wpAny_If (ck (hc pins s σ H _ I h) fun d s1 ⟨H1,I1,q1⟩=>?_)
 cases d with
 |true=>exact ha pins s1 σ H1 D I1 q1
 |false=>exact hb pins s1 σ H1 D I1 q1
end
noncomputable abbrev TG:=V->St->Hp->(St->Hp->Prop)->Prop
noncomputable abbrev Iy:=List V->St->Hp->(St->Hp->Prop)->Prop
noncomputable def PG(X:Cx)(target:LU)(t:TG):Prop:=
 ∀(pins:List (LL×LS))(s:LN)(σ:St)(H:Hp)(v:V)(u:LM)(Q:St->Hp->Prop),Inv X pins σ H s->RelV v u->t v σ H Q->
  LP (model X.prog X.w) X.A (assign target X.env u) (fun _ s'=>∃σ' H',Inv X pins σ' H' s'/\Q σ' H') X.xe s
noncomputable def K4(X:Cx)(ts:List LU)(t:Iy):Prop:=
 ∀(pins:List (LL×LS))(s:LN)(σ:St)(H:Hp)(vs:List V)(us:List LM)(Q:St->Hp->Prop),Inv X pins σ H s->bF vs us->t vs σ H Q->
  LP (model X.prog X.w) X.A (assignInOrder ((Pf ts X.env).map (·.2)) us) (fun _ s'=>∃σ' H',Inv X pins σ' H' s'/\Q σ' H') X.xe s
noncomputable abbrev Gi:=V->V->V->Hp->(Hp->Prop)->Prop
noncomputable def KC(X:Cx)(t:Gi):Prop:=
 ∀(pins:List (LL×LS))(s:LN)(σ:St)(H:Hp)(o i v:V)(ov iv u:LM)(Q:Hp->Prop),Inv X pins σ H s->RelV o ov->RelV i iv->RelV v u->t o i v H Q->
  LP (model X.prog X.w) X.A (setItem ov iv u) (fun _ s'=>∃H',Inv X pins σ H' s'/\Q H') X.xe s
noncomputable abbrev Ls:=V->V->Hp->VK->Prop
noncomputable def LF(X:Cx)(op:Operator)(t:Ls):Prop:=
 ∀(pins:List (LL×LS))(s:LN)(σ:St)(H:Hp)(x y:V)(v u:LM)(Q:VK),Inv X pins σ H s->RelV x v->RelV y u->t x y H Q->
  LP (model X.prog X.w) X.A (N7 op v u) (EP X pins σ Q) X.xe s
section
variable {X:Cx}{pos:L8}
noncomputable def au(i:Nat):TG:=fun v σ H Q=>Q (σ.set i (some v)) H
theorem aA{i:Nat}{x:LK}(hN:X.N.Nodup)(hi:X.N[i]?=some x)(hx:Loc X.env.scope x)(hf:X.fn x=true\/X.env.scope.names.lookup x=some .local:=by first|exact .inl rfl|exact .inr rfl|assumption):PG X (.Name x pos) (au i):=by
 intro pins s σ H v u Q I r h
 exact wpAny_assign_Name (ma I hN hi hx r (fun s' I'=>⟨_,H,I',h⟩) hf)
noncomputable def fN:Iy:=fun vs σ H Q=>vs=[]/\Q σ H
noncomputable def bq(t:TG)(u:Iy):Iy:=fun vs σ H Q=>∃v r,vs=v::r/\t v σ H fun σ' H'=>u r σ' H' Q
theorem cA:K4 X [] fN:=by
 intro pins s σ H vs us Q I r h
 obtain⟨e,h⟩:=h
 subst e
 cases r
 exact assignInOrder_nil ⟨σ,H,I,h⟩
theorem aQ{e:LU}{es:List LU}{t:TG}{u:Iy}(h1:PG X e t)(h2:K4 X es u)
  (hs:(Pf (e::es) X.env).map (·.2)=assign e X.env::(Pf es X.env).map (·.2):=by rfl):K4 X (e::es) (bq t u):=by
 intro pins s σ H vs us Q I r h
 obtain⟨v,vr,e1,h⟩:=h
 subst e1
 cases r with
 |cons r rr=>
  rw[hs]
  refine assignInOrder_cons (ck (h1 pins s σ H _ _ _ I r h) fun _ s1 ⟨σ1,H1,I1,q1⟩=>?_)
  exact h2 pins s1 σ1 H1 _ _ Q I1 rr q1
noncomputable def fK(K:LO)(n:Nat)(t:Iy):TG:=fun v σ H Q=>∃a xs,v=.ref a/\gf K H a xs/\xs.length=n/\t xs σ H Q
theorem dq{es:List LU}{k:Nat}{t:Iy}{n:Nat}(hc:X.calm=true)(h:K4 X es t)
  (hn:(Pf es X.env).length=n:=by rfl) (hst:(Pf es X.env).findIdx? (·.1)=none:=by rfl):PG X (.Tuple es k pos) (fK X.K n t):=by
 intro pins s σ H v u Q I r hw
 obtain⟨a,xs,e1,hq,hl,hw⟩:=hw
 subst e1
 cases r
 obtain⟨its,rv,ht,hz⟩:=I.tuple hq
 refine assign_Tuple_tuple (I.ok.hd hc) ht (by simp[hn,<-hl,rv.length]) hst fun h' hx=>?_
 have I1:Inv X pins σ H {s with heap:=h'}:=I.kept (t':=s.toks) fun b o e=>hx b o (Ms (Mi e)) e
 exact h pins _ σ H xs _ Q I1 (by simpa using rv) hw
noncomputable def JH(to ti:TE)(t:Gi):TG:=fun v σ H Q=>to σ H fun o H1=>ti σ H1 fun i H2=>t o i v H2 fun H3=>Q σ H3
theorem JI{o i:LU}{to ti:TE}{t:Gi}(ho:PE X o to)(hi:PE X i ti)(hs:KC X t)
  (ha:∀v,assign (.Subscript o i pos) X.env v=(do
   let ov <-holding [v] (eval o X.env)
   let iv <-holding [v,ov] (eval i X.env)
   standAt pos
   holding [v,ov,iv] (setItem ov iv v)
   release [v,ov,iv] []):=by intro _;rfl):PG X (.Subscript o i pos) (JH to ti t):=by
 intro pins s σ H v u Q I r h
 rw[ha]
 refine LQ (N1 (ck (ho pins s σ H _ I h) fun ov s1 ⟨x,H1,I1,r1,q1⟩=>?_))
 refine LQ (N1 (ck (hi pins s1 σ H1 _ I1 q1) fun iv s2 ⟨y,H2,I2,r2,q2⟩=>?_))
 refine LQ (wpAny_standAt (LQ (N1 (ck (hs pins s2 σ H2 x y v ov iv u _ I2 r1 r2 r q2) fun _ s3 ⟨H3,I3,q3⟩=>?_))))
 exact wpAny_release ⟨σ,H3,I3,q3⟩
noncomputable def bC(te:TE)(g:TG):TS:=fun D σ H=>te σ H fun x H1=>g x σ H1 D.nx
theorem HU{tg e:LU}{te:TE}{g:TG}(he:PE X e te)(hg:PG X tg g)(hs:swapsWithSole [tg] e pos.line X.env=pure false:=by rfl)(hw:swappedStores [tg] e X.env=pure none:=by rfl)
  (h1:(Pf [tg] X.env).map (·.2)=[assign tg X.env]:=by rfl):PS X (.Assign [tg] e pos) (bC te g):=by
 intro pins s σ H D I h
 refine wpAny_Assign_stores (ck (he pins s σ H _ I h) fun v s1 ⟨x,H1,I1,r1,q1⟩=>?_) hs hw
 rw[h1]
 exact ck (hg pins s1 σ H1 x v _ I1 r1 q1) fun _ s2 q=>q
theorem aU{i:Nat}{x:LK}{e:LU}{te:TE}{pos':L8}(hN:X.N.Nodup)(hi:X.N[i]?=some x)(hx:Loc X.env.scope x)(he:PE X e te)(hs:swapsWith e (some (.Name x pos')) pos.line X.env=pure false:=by rfl)(hf:X.fn x=true\/X.env.scope.names.lookup x=some .local:=by first|exact .inl rfl|exact .inr rfl|assumption):
  PS X (.Assign [.Name x pos'] e pos) (bC te (au i)):=by
 intro pins s σ H D I h
 refine wpAny_Assign_Name (ck (he pins s σ H _ I h) fun v s1 ⟨y,H1,I1,r1,q1⟩=>?_) hs
 exact ma I1 hN hi hx r1 (fun s2 I2=>⟨_,H1,I2,q1⟩) hf
noncomputable def BA(i:Nat)(te:TE)(ti:Ls):TS:=fun D σ H=>∃x,σ[i]?=some (some x)/\te σ H fun y H1=>ti x y H1 fun z H2=>D.nx (σ.set i (some z)) H2
theorem yI{i:Nat}{x:LK}{e:LU}{te:TE}{op:Operator}{ti:Ls}{pos':L8}(hN:X.N.Nodup)(hi:X.N[i]?=some x)(hx:Loc X.env.scope x)(he:PE X e te)(ho:LF X op ti)(hf:X.fn x=true\/X.env.scope.names.lookup x=some .local:=by first|exact .inl rfl|exact .inr rfl|assumption):
  PS X (.AugAssign (.Name x pos') op e pos) (BA i te ti):=by
 intro pins s σ H D I h
 obtain⟨v,e1,h⟩:=h
 obtain⟨m,hn,hl⟩:=I.loc
 have vis:Jq X.env.scope x:=by rcases hx with k|k;exact .inl k;exact .inr (.inl k)
 obtain⟨u,r,l⟩:=hl i x v hi e1 vis
 refine wpAny_AugAssign_Name ?_
 have go:LP (model X.prog X.w) X.A (eval e X.env) (fun w s₂=>LP (model X.prog X.w) X.A (N7 op u w) (fun r s₃=>LP (model X.prog X.w) X.A (storeName X.env x r) (fun _=>SP X pins D .next) X.xe s₃) X.xe s₂) X.xe s:=by
  refine ck (he pins s σ H _ I h) fun w s1 ⟨y,H1,I1,r1,q1⟩=>?_
  refine ck (ho pins s1 σ H1 v y u w _ I1 r r1 q1) fun z s2 ⟨zv,H2,I2,r2,q2⟩=>?_
  exact ma I2 hN hi hx r2 (fun s3 I3=>⟨_,H2,I3,q2⟩) hf
 rcases l with⟨hk,hm⟩|⟨hk,c,hc,hcell⟩
 ·exact wpAny_loadName_local I.ok.kind hk hn hm go
 ·rcases hk with hk|hk
  ·exact wpAny_loadName_cell I.ok.kind hk hc hcell go
  ·rcases hx with k|k
   ·have:X.env.scope.names.lookup x=some .free:=hk
    rw[k]at this;cases this
   ·have:X.env.scope.names.lookup x=some .free:=hk
    rw[k]at this;cases this
end
section
variable {X:Cx}{pos:L8}
noncomputable def Bs(c:TT)(tb:TS):TS:=fun D σ H=>∃W:Nat->St->Hp->Prop,(∃m,W m σ H)/\∀m σ H,W m σ H->
 c σ H fun b H1=>if b=true then ∃N:St->Hp->Prop,(∀σ' H',N σ' H'->∃m',m'<m/\W m' σ' H')/\tb {D with nx:=N,ct:=N,bk:=D.nx} σ H1 else D.nx σ H1
theorem zV{c:LU}{body:List LX}{tc:TT}{tb:TS}(hp:PassesOwn (model X.prog X.w) X.A X.env X.xe)(hc:PT X c tc)(hb:vm X body tb):PS X (.While c body [] pos) (Bs tc tb):=by
 intro pins s σ H D I h
 obtain⟨W,⟨m0,w0⟩,turn⟩:=h
 refine wpAny_While (codeAny_whileLoop (fun n s'=>∃σ' H',Inv X pins σ' H' s'/\W n σ' H') ?_ m0 ⟨σ,H,I,w0⟩)
 rintro n s1 ⟨σ1,H1,I1,w1⟩
 refine OR hp (ck (hc pins s1 σ1 H1 _ I1 (turn n σ1 H1 w1)) fun b s2 ⟨H2,I2,q2⟩=>?_)
 cases b with
 |true=>
  obtain⟨N,hN,q2⟩:=q2
  rw[if_pos rfl]
  refine OR hp (ck (hb pins s2 σ1 H2 _ I2 q2) fun f s3 q3=>?_)
  cases f with
  |next=>
   obtain⟨σ3,H3,I3,n3⟩:=q3
   obtain⟨m',hm,w3⟩:=hN σ3 H3 n3
   exact⟨m',hm,σ3,H3,I3,w3⟩
  |cont=>
   obtain⟨σ3,H3,I3,n3⟩:=q3
   obtain⟨m',hm,w3⟩:=hN σ3 H3 n3
   exact⟨m',hm,σ3,H3,I3,w3⟩
  |brk=>exact q3
  |ret v=>exact q3
 |false=>
  rw[if_neg MM]
  exact Pa ⟨σ1,H2,I2,q2⟩
end
structure It where
 go:Nat->Hp->Prop
 yld:Nat->Hp->V->Hp->Prop
 stop:Nat->Hp->Prop
noncomputable def pE(X:Cx)(pins:List (LL×LS))(H:Hp)(b:LL):Prop:=
 H b=none/\b≠X.env.locals/\b∉X.fs/\(b∈X.ex\/X.s₀.heap.objs.size<=b)/\(∀x c,X.env.cells.lookup x=some c->c≠b)/\∀p∈X.pn++pins,p.1≠b
theorem Inv.fpOk{X:Cx}{pins:List (LL×LS)}{σ:St}{H H':Hp}{s:LN}{b:LL}(I:Inv X pins σ H s)(hb:s.heap.objs.size<=b)(hn:H' b=none):pE X pins H' b:=by
 refine⟨hn,Nh (MD I.lt hb),I.nofs hb,.inr (Ma I.sz hb),fun x c e z=>?_,fun p hp z=>?_⟩
 ·obtain⟨v,q⟩:=I.cell x c e
  exact absurd (MD q.lt (by rw[z];exact hb)) (Nk _)
 ·exact absurd (MD (Mi (I.pin p hp).1) (by rw[z];exact hb)) (Nk _)
structure Turn(P:L5)(w:LZ)(K:LO)(tg:LU)(J:It)(fp:List LL)(it:LL)(tn:Nat->LV->Prop):Prop where
 mem:it∈fp
 obj:∀i h,tn i h->∀b∈fp,∃o,h.get? b=some o/\∀v,o.data≠.cell v
 keep:∀i h h',tn i h->(∀b∈fp,∀o,h.get? b=some o->h'.get? b=some o)->tn i h'
 item:∀(X:Cx),X.prog=P->X.w=w->X.K=K->X.calm=true->∀(i:Nat)(pins:List (LL×LS))(s:LN)(σ:St)(H:Hp)(E:LM->LN->Prop),Inv X pins σ H s->(∀b∈fp,pE X pins H b)->tn i s.heap->J.go i H->
  LP (model P w) X.A (M8 (.ref it)) (fun r s1=>∃u,r=some u/\
   LP (model P w) X.A (letOwnedTupleGo tg (.ref it) u) (fun _ s2=>∃x H',Inv X pins σ H' s2/\RelV x u/\J.yld i H x H'/\tn (i+1) s2.heap/\∀b∈fp,H' b=none) E s1) E s
 done:∀(X:Cx),X.prog=P->X.w=w->X.K=K->X.calm=true->∀(i:Nat)(pins:List (LL×LS))(s:LN)(σ:St)(H:Hp)(E:LM->LN->Prop),Inv X pins σ H s->(∀b∈fp,pE X pins H b)->tn i s.heap->J.stop i H->
  LP (model P w) X.A (M8 (.ref it)) (fun r s1=>r=none/\Inv X pins σ H s1) E s
 self:∀(A:Mb)(i:Nat)(s:LN)(Q:LM->LN->Prop)(E:LM->LN->Prop),tn i s.heap->Q (.ref it) s->LP (model P w) A (pyIter (.ref it)) Q E s
noncomputable abbrev TI:=St->Hp->(It->Hp->Prop)->Prop
noncomputable def LG(X:Cx)(pins:List (LL×LS))(σ:St)(tg:LU)(R:It->Hp->Prop)(itv:LM)(s2:LN):Prop:=
 ∃(it:LL)(fp:List LL)(tn:Nat->LV->Prop)(J:It)(H':Hp),itv=.ref it/\Inv X pins σ H' s2/\Turn X.prog X.w X.K tg J fp it tn/\tn 0 s2.heap/\(∀b∈fp,pE X pins H' b)/\R J H'
noncomputable def PI(X:Cx)(tg iter:LU)(wi:TI):Prop:=
 ∀(pins:List (LL×LS))(s:LN)(σ:St)(H:Hp)(R:It->Hp->Prop),Inv X pins σ H s->wi σ H R->
  LP (model X.prog X.w) X.A (eval iter X.env) (fun v s1=>LP (model X.prog X.w) X.A (pyIter v) (LG X pins σ tg R) X.xe s1) X.xe s
theorem zy{M:Model}{A:Mb}{E:LM->LN->Prop}{s:LN}{tg:LU}{it:LL}{u:LM}{o:LS}{n:String}{vs:Array LM}{Q:Unit->LN->Prop}(ho:s.heap.get? it=some o)(hc:o.cls=.type n)(hd:o.data=.fields vs)
  (hn:["enumerate","zip","dict_itemiterator","dict_reverseitemiterator","odict_iterator","itertools.zip_longest","itertools.pairwise"].contains n=false) (hQ:Q () s):LP M A (letOwnedTupleGo tg (.ref it) u) Q E s:=by
 unfold letOwnedTupleGo
 cases tg<;>first
  |exact Mc hQ
  |(cases u<;>first
    |exact Mc hQ
    | (refine LQ (wpAny_load ho ?_)
       rw[hc,hd]
       show LP M A (if(["enumerate","zip","dict_itemiterator","dict_reverseitemiterator","odict_iterator","itertools.zip_longest","itertools.pairwise"].contains n&&vs[0]?==some (MN _))=true then _ else _) Q E s
       rw[if_neg (by intro h;rw[hn,OH]at h;cases h)]
       exact Mc hQ))
noncomputable def CP(K:LO)(a:LL):It:=
 ⟨fun i H=>∃xs x,aK K H a xs/\xs[i]?=some x,fun i H x H'=>H'=H/\∀xs,aK K H a xs->xs[i]?=some x,fun i H=>∃xs,aK K H a xs/\xs.length<=i⟩
noncomputable def En(lo:Int)(n:Nat):It:=⟨fun i _=>i<n,fun i H x H'=>H'=H/\x=.int (lo+i),fun i _=>n<=i⟩
theorem C4{P:L5}{w:LZ}{K:LO}{tg:LU}(a it:LL):Turn P w K tg (CP K a) [it] it (fun i h=>h.IsListIter it a i) where
 mem:=by simp
 obj:=fun i h st b hb=>by
  have e:b=it:=by simpa using hb
  subst e
  obtain⟨o,e,c,d⟩:=st
  exact⟨o,e,fun v z=>by rw[d]at z;cases z⟩
 keep:=fun i h h' st k=>st.at fun o e=>k it (by simp) o e
 item:=by
  intro X hP hw hK hc i pins s σ H E I hf st hg
  subst hP hw hK
  obtain⟨xs,x,hq,hx⟩:=hg
  obtain⟨its,rv,p,hz⟩:=I.list hq
  obtain⟨u,hu,ru⟩:=rv.get hx
  obtain⟨f0,f1,f2,f3,f4,f5⟩:=hf it (by simp)
  refine wpAny_pyNext_list_item st p.isList (x:=u) (by simpa using hu) fun h' st' sb=>?_
  have I1:Inv X pins σ H {s with heap:=h'}:=I.turned (t':=s.toks) (fun b o hb e=>(sb.2 b hb).trans e) f0 f1 f3 f4 f5
  obtain⟨o,e,c,d⟩:=id st'
  exact⟨u,rfl,zy (s:={s with heap:=h'}) e c d (by decide) ⟨x,H,I1,ru,⟨rfl,fun ys hy=>by rw[I.list_inj hy hq];exact hx⟩,st',fun b hb=>(hf b hb).1⟩⟩
 done:=by
  intro X hP hw hK hc i pins s σ H E I hf st hg
  subst hP hw hK
  obtain⟨xs,hq,hx⟩:=hg
  obtain⟨its,rv,p,hz⟩:=I.list hq
  obtain⟨f0,f1,f2,f3,f4,f5⟩:=hf it (by simp)
  have hl:=rv.length
  exact wpAny_pyNext_list_end (I.ok.hd hc) st p.isList (by simp;omega) fun h' eb=>⟨rfl,I.turned (t':=s.toks) (fun b o hb e=>eb b o hb e) f0 f1 f3 f4 f5⟩
 self:=fun _ _ _ _ _ st h=>wpAny_pyIter_listiter st h
theorem By{P:L5}{w:LZ}{K:LO}{tg:LU}(it:LL)(lo:Int)(n:Nat):Turn P w K tg (En lo n) [it] it (fun i h=>IsRangeIter h it (lo+(i:Nat)*1) ((n:Int)-(i:Nat)) 1) where
 mem:=by simp
 obj:=fun i h st b hb=>by
  have e:b=it:=by simpa using hb
  subst e
  exact⟨_,st,fun v z=>by
   have z':Pz _=OY v:=z
   cases z'⟩
 keep:=fun i h h' st k=>k it (by simp) _ st
 item:=by
  intro X hP hw hK hc i pins s σ H E I hf st hg
  subst hP hw hK
  obtain⟨f0,f1,f2,f3,f4,f5⟩:=hf it (by simp)
  have W:=Walks.range (prog:=X.prog) (w:=X.w) (I.ok.hd hc) it lo 1 n
  refine W.item i s _ _ hg st fun v h' tk hv st' kk=>?_
  obtain⟨t,rfl⟩:=hv
  have I1:Inv X pins σ H {s with heap:=h',toks:=tk}:=I.turned (fun b o hb e=>kk b o (by simpa using hb) e) f0 f1 f3 f4 f5
  refine⟨_,rfl,zy (s:={s with heap:=h',toks:=tk}) (n:="range_iterator") st' rfl rfl (by decide) ⟨.int (lo+i),H,I1,⟨t,?_⟩,⟨rfl,rfl⟩,st',fun b hb=>(hf b hb).1⟩⟩
  rw[RP]
 done:=by
  intro X hP hw hK hc i pins s σ H E I hf st hg
  subst hP hw hK
  obtain⟨f0,f1,f2,f3,f4,f5⟩:=hf it (by simp)
  exact wpAny_pyNext_range_end (I.ok.hd hc) st (by have:n<=i:=hg;omega) fun h' eb=>⟨rfl,I.turned (t':=s.toks) (fun b o hb e=>eb b o hb e) f0 f1 f3 f4 f5⟩
 self:=fun _ _ _ _ _ st h=>wpAny_pyIter_rangeiter st h
section
variable {X:Cx}{tg:LU}
noncomputable def cp(K:LO)(tl:TE):TI:=fun σ H R=>tl σ H fun x H1=>∃a,x=.ref a/\(∃xs,aK K H1 a xs)/\R (CP K a) H1
theorem bD{l:LU}{tl:TE}(hl:PE X l tl):PI X tg l (cp X.K tl):=by
 intro pins s σ H R I h
 refine ck (hl pins s σ H _ I h) fun v s1 ⟨x,H1,I1,r1,q1⟩=>?_
 obtain⟨a,e,⟨xs,hq⟩,q⟩:=q1
 subst e
 cases r1
 obtain⟨its,rv,p,hz⟩:=I1.list hq
 refine Qn p.isList ?_
 refine⟨s1.heap.objs.size,[s1.heap.objs.size],_,_,H1,rfl,I1.kept (t':=s1.toks) fun b o e=>Mq _ e,C4 a _,⟨_,Mu _ rfl,rfl,rfl⟩,fun b hb=>?_,q⟩
 have e:b=s1.heap.objs.size:=by simpa using hb
 subst e
 exact I1.fpOk (L0 _) (I1.hok.fresh (L0 _))
theorem AI{pins:List (LL×LS)}{σ:St}{H:Hp}{s:LN}{R:It->Hp->Prop}{E:LM->LN->Prop}{lo hi:Int}{t u v:Tok}{tk:Nat}(I:Inv X pins σ H s)(h1:-(2 ^ 62)<=lo)(h2:lo<2 ^ 62)(h3:-(2 ^ 62)<=hi)(h4:hi<2 ^ 62)
  (q:R (En lo (hi-lo).toNat) H):LP (model X.prog X.w) X.A (pyIter (.ref s.heap.objs.size)) (LG X pins σ tg R) E {s with heap:=s.heap.push {cls:=.type "range",data:=.fields #[.int lo t,.int hi u,.int 1 v]},toks:=tk}:=by
 refine wpAny_pyIter_range (U1 ..) (small_one h1 h2 h3 h4) ?_
 have I1:Inv X pins σ H {s with heap:=s.heap.push {cls:=.type "range",data:=.fields #[.int lo t,.int hi u,.int 1 v]},toks:=tk}:=I.kept fun b o e=>Mq _ e
 refine⟨(s.heap.push {cls:=.type "range",data:=.fields #[.int lo t,.int hi u,.int 1 v]}).objs.size,[(s.heap.push {cls:=.type "range",data:=.fields #[.int lo t,.int hi u,.int 1 v]}).objs.size],_,_,H,rfl,
  I1.kept (t':=tk) fun b o e=>Mq _ e,By _ lo (hi-lo).toNat,?_,fun b hb=>?_,q⟩
 ·have e1:lo+((0:Nat):Int)*1=lo:=by simp
  have e2:(((hi-lo).toNat:Nat):Int)-((0:Nat):Int)=UG lo hi 1:=by rw[rangeSize_one];split<;>omega
  show IsRangeIter _ _ (lo+((0:Nat):Int)*1) ((((hi-lo).toNat:Nat):Int)-((0:Nat):Int)) 1
  rw[e1,e2]
  exact Mu _ rfl
 ·have e:b=(s.heap.push {cls:=.type "range",data:=.fields #[.int lo t,.int hi u,.int 1 v]}).objs.size:=by simpa using hb
  subst e
  exact I1.fpOk (L0 _) (I1.hok.fresh (L0 _))
noncomputable def uW(ta:TA):TI:=fun σ H R=>ta σ H fun vs H1=>∃j:Int,vs=[.int j]/\-(2 ^ 62)<=j/\j<2 ^ 62/\R (En 0 j.toNat) H1
noncomputable def F6(ta:TA):TI:=fun σ H R=>ta σ H fun vs H1=>∃i j:Int,vs=[.int i,.int j]/\(-(2 ^ 62)<=i/\i<2 ^ 62/\-(2 ^ 62)<=j/\j<2 ^ 62)/\R (En i (j-i).toNat) H1
theorem jK{a:LU}{ta:TA}{p pos:L8}(hg:Gl X "range")(hm:X.mg "range"=none)(ha:PA X [a] ta)(hs:L6 [a] X.env=[(false,eval a X.env)]:=by rfl):PI X tg (.Call (.Name "range" p) [a] [] pos) (uW ta):=by
 intro pins s σ H R I h
 refine Call_ (jx I hg hm boot_range (OC (ck (ha pos pins s σ H _ I h) fun us s1 ⟨vs,H1,I1,r1,q1⟩=>?_) hs rfl))
 obtain⟨j,e,q1,q2,q⟩:=q1
 subst e
 cases r1 with
 |cons r rr=>
  cases rr
  obtain⟨t,rfl⟩:=r
  exact call_range_1 (AI I1 (by omega) (by omega) q1 q2 (by simpa using q))
theorem Ds{a b:LU}{ta:TA}{p pos:L8}(hg:Gl X "range")(hm:X.mg "range"=none)(ha:PA X [a,b] ta)(hs:L6 [a,b] X.env=[(false,eval a X.env),(false,eval b X.env)]:=by rfl)(hs2:L6 [b] X.env=[(false,eval b X.env)]:=by rfl):
  PI X tg (.Call (.Name "range" p) [a,b] [] pos) (F6 ta):=by
 intro pins s σ H R I h
 refine Call_ (jx I hg hm boot_range (OC (ck (ha pos pins s σ H _ I h) fun us s1 ⟨vs,H1,I1,r1,q1⟩=>?_) (by rw[hs,hs2]) (by rw[hs2];rfl)))
 obtain⟨i,j,e,⟨q1,q2,q3,q4⟩,q⟩:=q1
 subst e
 cases r1 with
 |cons r rr=>
  cases rr with
  |cons r' rr=>
   cases rr
   obtain⟨t,rfl⟩:=r
   obtain⟨t',rfl⟩:=r'
   exact call_range_2 (AI I1 q1 q2 q3 q4 q)
noncomputable def k7(wi:TI)(g:TG)(tb:TS):TS:=fun D σ H=>wi σ H fun J H1=>∃W:Nat->Nat->St->Hp->Prop,(∃m,W 0 m σ H1)/\∀i m σ H,W i m σ H->
 (J.stop i H/\D.nx σ H)\/(J.go i H/\∃N:St->Hp->Prop,(∀σ' H',N σ' H'->∃m',m'<m/\W (i+1) m' σ' H')/\∀x H',J.yld i H x H'->g x σ H' fun σ2 H2=>tb {D with nx:=N,ct:=N,bk:=D.nx} σ2 H2)
noncomputable def uT(fp:List LL)(h:LV):List (LL×LS):=fp.filterMap fun b=>(h.get? b).map fun o=>(b,o)
theorem j6{fp:List LL}{h:LV}{b:LL}{o:LS}(hb:b∈fp)(e:h.get? b=some o):(b,o)∈uT fp h:=QI.mpr ⟨b,hb,by rw[e];rfl⟩
theorem Ef{fp:List LL}{h:LV}{p:LL×LS}(hp:p∈uT fp h):p.1∈fp/\h.get? p.1=some p.2:=by
 obtain⟨b,hb,e⟩:=QI.mp hp
 cases q:h.get? b with
 |none=>rw[q]at e;cases e
 |some o=>
  rw[q]at e
  have e':(b,o)=p:=MB e
  subst e'
  exact⟨hb,q⟩
theorem Inv.pinned{pins:List (LL×LS)}{σ:St}{H:Hp}{s:LN}{fp:List LL}(I:Inv X pins σ H s)(hf:∀b∈fp,pE X pins H b)(ho:∀b∈fp,∃o,s.heap.get? b=some o/\∀v,o.data≠.cell v):Inv X (pins++uT fp s.heap) σ H s:=
 I.pins_of fun p hp=>(Mp.mp hp).elim (fun z=>I.pin p (NW _ z)) fun z=>by
  obtain⟨hb,e⟩:=Ef z
  obtain⟨f0,f1,f2,_⟩:=hf p.1 hb
  obtain⟨o,e',d⟩:=ho p.1 hb
  rw[e]at e';cases e'
  exact⟨e,f0,f1,f2,d⟩
theorem Inv.unpinned{pins pl:List (LL×LS)}{σ:St}{H:Hp}{s:LN}(I:Inv X (pins++pl) σ H s):Inv X pins σ H s:=I.pins_of fun p hp=>I.pin p (NW _ (Tq _ hp))
theorem eL{iter:LU}{body:List LX}{wi:TI}{g:TG}{tb:TS}{pos:L8}(hp:PassesOwn (model X.prog X.w) X.A X.env X.xe)(hc:X.calm=true)(hi:PI X tg iter wi)(hg:PG X tg g)(hb:vm X body tb)
  (hs:∀x,foldedSetIterable iter X.env x=pure x:=by intro _;rfl):PS X (.For tg iter body [] pos) (k7 wi g tb):=by
 intro pins s σ H D I h
 refine wpAny_For (ck (hi pins s σ H _ I h) fun v s1 h1=>ck h1 fun itv s2 h2=>?_) hs
 obtain⟨it,fp,tn,J,H2,e,I2,T,st2,f2,W,⟨m0,w0⟩,turn⟩:=h2
 subst e
 have stat:∀{H':Hp},(∀b∈fp,H' b=none)->∀b∈fp,pE X pins H' b:=fun hn b hb=>⟨hn b hb,(f2 b hb).2⟩
 refine codeAny_forLoop_any (fun n s'=>∃i σ' H',Inv X pins σ' H' s'/\tn i s'.heap/\(∀b∈fp,H' b=none)/\W i n σ' H') ?_ m0 ⟨0,σ,H2,I2,st2,fun b hb=>(f2 b hb).1,w0⟩
 rintro n s3 ⟨i,σ3,H3,I3,st3,fr3,w3⟩
 rcases turn i n σ3 H3 w3 with⟨stop,qn⟩|⟨go,N,hN,step⟩
 ·refine OR hp (ck (T.done X rfl rfl rfl hc i pins s3 σ3 H3 X.xe I3 (stat fr3) st3 stop) fun r s4 ⟨hr,I4⟩=>?_)
  subst hr
  exact Pa ⟨σ3,H3,I4,qn⟩
 ·refine OR hp (ck (T.item X rfl rfl rfl hc i pins s3 σ3 H3 X.xe I3 (stat fr3) st3 go) fun r s4 ⟨u,hr,h4⟩=>?_)
  subst hr
  refine OR hp (ck h4 fun _ s5 ⟨x,H5,I5,r5,y5,st5,fr5⟩=>?_)
  have I5':=I5.pinned (stat fr5) (T.obj _ _ st5)
  refine OR hp (ck (hg _ s5 σ3 H5 x u _ I5' r5 (step x H5 y5)) fun _ s6 ⟨σ6,H6,I6,q6⟩=>?_)
  refine OR hp (ck (hb _ s6 σ6 H6 _ I6 q6) fun f s7 q7=>?_)
  have again:∀{σ7:St}{H7:Hp},Inv X (pins++uT fp s5.heap) σ7 H7 s7->N σ7 H7->∃m,m<n/\∃i σ' H',Inv X pins σ' H' s7/\tn i s7.heap/\(∀b∈fp,H' b=none)/\W i m σ' H':=fun {σ7 H7} I7 n7=>by
   obtain⟨m',hm,w7⟩:=hN σ7 H7 n7
   refine⟨m',hm,i+1,σ7,H7,I7.unpinned,T.keep _ _ _ st5 fun b hb o e=>(I7.pin (b,o) (NW _ (NW _ (j6 hb e)))).1,fun b hb=>?_,w7⟩
   obtain⟨o,e,d⟩:=T.obj _ _ st5 b hb
   exact(I7.pin (b,o) (NW _ (NW _ (j6 hb e)))).2.1
  cases f with
  |next=>obtain⟨σ7,H7,I7,n7⟩:=q7;exact again I7 n7
  |cont=>obtain⟨σ7,H7,I7,n7⟩:=q7;exact again I7 n7
  |brk=>obtain⟨σ7,H7,I7,q7⟩:=q7;exact⟨σ7,H7,I7.unpinned,q7⟩
  |ret v=>obtain⟨x7,σ7,H7,I7,r7,q7⟩:=q7;exact⟨x7,σ7,H7,I7.unpinned,r7,q7⟩
end
theorem FO{K:LO}{a:LL}{xs:List V}{g:TG}{tb:TS}{D:Ends}{σ:St}{H:Hp}(Pv:Nat->St->Hp->Prop)(h0:Pv 0 σ H)(hl:∀i σ H,i<=xs.length->Pv i σ H->aK K H a xs)
  (hs:∀i x σ H,xs[i]?=some x->Pv i σ H->g x σ H fun σ2 H2=>tb {D with nx:=Pv (i+1),ct:=Pv (i+1),bk:=D.nx} σ2 H2) (hd:∀σ H,Pv xs.length σ H->D.nx σ H):
  ∃W:Nat->Nat->St->Hp->Prop,(∃m,W 0 m σ H)/\∀i m σ H,W i m σ H->
   ((CP K a).stop i H/\D.nx σ H)\/((CP K a).go i H/\∃N:St->Hp->Prop,(∀σ' H',N σ' H'->∃m',m'<m/\W (i+1) m' σ' H')/\∀x H',(CP K a).yld i H x H'->g x σ H' fun σ2 H2=>tb {D with nx:=N,ct:=N,bk:=D.nx} σ2 H2):=by
 exists fun i m σ H=>m=xs.length-i/\i<=xs.length/\Pv i σ H,⟨xs.length,by simp,MK _,h0⟩
 rintro i m σ H ⟨rfl,hi,p⟩
 have q:=hl i σ H hi p
 by_cases hlt:i<xs.length
 ·refine .inr ⟨⟨xs,xs[i],q,by simp[hlt]⟩,Pv (i+1),fun σ' H' p'=>⟨xs.length-(i+1),by omega,rfl,hlt,p'⟩,fun x H' y=>?_⟩
  obtain⟨e,y⟩:=y
  subst e
  exact hs i x σ _ (y xs q) p
 ·have e:i=xs.length:=by omega
  subst e
  exact .inl ⟨⟨xs,q,L0 _⟩,hd σ H p⟩
theorem mJ{lo:Int}{n:Nat}{g:TG}{tb:TS}{D:Ends}{σ:St}{H:Hp}(Pv:Nat->St->Hp->Prop)(h0:Pv 0 σ H)
  (hs:∀i σ H,i<n->Pv i σ H->g (.int (lo+i)) σ H fun σ2 H2=>tb {D with nx:=Pv (i+1),ct:=Pv (i+1),bk:=D.nx} σ2 H2) (hd:∀σ H,Pv n σ H->D.nx σ H):
  ∃W:Nat->Nat->St->Hp->Prop,(∃m,W 0 m σ H)/\∀i m σ H,W i m σ H->
   ((En lo n).stop i H/\D.nx σ H)\/((En lo n).go i H/\∃N:St->Hp->Prop,(∀σ' H',N σ' H'->∃m',m'<m/\W (i+1) m' σ' H')/\∀x H',(En lo n).yld i H x H'->g x σ H' fun σ2 H2=>tb {D with nx:=N,ct:=N,bk:=D.nx} σ2 H2):=by
 exists fun i m σ H=>m=n-i/\i<=n/\Pv i σ H,⟨n,by simp,MK _,h0⟩
 rintro i m σ H ⟨rfl,hi,p⟩
 by_cases hlt:i<n
 ·refine .inr ⟨hlt,Pv (i+1),fun σ' H' p'=>⟨n-(i+1),by omega,rfl,hlt,p'⟩,fun x H' y=>?_⟩
  obtain⟨e,y⟩:=y
  subst e y
  exact hs i σ _ hlt p
 ·have e:i=n:=by omega
  subst e
  exact .inl ⟨L0 _,hd σ H p⟩
noncomputable abbrev R2:=V->V->Hp->VK->Prop
noncomputable def gQ(X:Cx)(f:LM->LM->Sem LM)(r:R2):Prop:=
 ∀(pins:List (LL×LS))(s:LN)(σ:St)(H:Hp)(x y:V)(v u:LM)(Q:VK),Inv X pins σ H s->RelV x v->RelV y u->r x y H Q->
  LP (model X.prog X.w) X.A (f v u) (EP X pins σ Q) X.xe s
noncomputable def Lm(X:Cx)(f:LM->Sem LM)(r:V->Hp->VK->Prop):Prop:=
 ∀(pins:List (LL×LS))(s:LN)(σ:St)(H:Hp)(x:V)(v:LM)(Q:VK),Inv X pins σ H s->RelV x v->r x H Q->
  LP (model X.prog X.w) X.A (f v) (EP X pins σ Q) X.xe s
noncomputable def eu(X:Cx)(f:LM)(r:List V->Hp->VK->Prop):Prop:=
 ∀(pins:List (LL×LS))(s:LN)(σ:St)(H:Hp)(xs:List V)(us:List LM)(Q:VK),Inv X pins σ H s->bF xs us->r xs H Q->
  LP (model X.prog X.w) X.A (call f us) (EP X pins σ Q) X.xe s
noncomputable def aH(r:R2)(ta tb:TE):TE:=fun σ H Q=>ta σ H fun x H1=>tb σ H1 fun y H2=>r x y H2 Q
noncomputable def K6(r:V->Hp->VK->Prop)(ta:TE):TE:=fun σ H Q=>ta σ H fun x H1=>r x H1 Q
noncomputable def rI(C:Int->Int->Prop)(g:Int->Int->V):R2:=fun x y H Q=>∃i j,x=.int i/\y=.int j/\C i j/\Q (g i j) H
noncomputable def AR(g:Int->Int->V):R2:=fun x y H Q=>∃i j,x=.int i/\y=.int j/\Q (g i j) H
noncomputable def rU(g:Int->V):V->Hp->VK->Prop:=fun x H Q=>∃i,x=.int i/\Q (g i) H
section
variable {X:Cx}{a b c:LU}{ta tb tc:TE}{pos:L8}
theorem JJ(ha:PE X a ta)(hb:PE X b tb){pins:List (LL×LS)}{s:LN}{σ:St}{H:Hp}{R:V->V->Hp->Prop}(I:Inv X pins σ H s)
  (h:ta σ H fun x H1=>tb σ H1 fun y H2=>R x y H2) {Q:LM->LN->Prop}{f:LM->LM->Sem LM}
  (hf:∀v u s2 x y H2,Inv X pins σ H2 s2->RelV x v->RelV y u->R x y H2->LP (model X.prog X.w) X.A (f v u) Q X.xe s2):
  LP (model X.prog X.w) X.A (eval a X.env) (fun v s₁=>LP (model X.prog X.w) X.A (eval b X.env) (fun u s₂=>LP (model X.prog X.w) X.A (f v u) Q X.xe s₂) X.xe s₁) X.xe s:=by
 refine ck (ha pins s σ H _ I h) fun v s1 ⟨x,H1,I1,r1,q1⟩=>?_
 refine ck (hb pins s1 σ H1 _ I1 q1) fun u s2 ⟨y,H2,I2,r2,q2⟩=>?_
 exact hf v u s2 x y H2 I2 r1 r2 q2
theorem aC{op:Operator}{r:R2}(ho:gQ X (NA op) r)(ha:PE X a ta)(hb:PE X b tb):PE X (.BinOp a op b pos) (aH r ta tb):=by
 intro pins s σ H Q I h
 exact wpAny_BinOp (JJ ha hb I h fun v u s2 x y H2 I2 rx ry q=>ho pins s2 σ H2 x y v u Q I2 rx ry q)
theorem HC{op:UnaryOp}{r:V->Hp->VK->Prop}(ho:Lm X (unaryOp op) r)(ha:PE X a ta):PE X (.UnaryOp op a pos) (K6 r ta):=by
 intro pins s σ H Q I h
 exact UnaryOp_ (ck (ha pins s σ H _ I h) fun v s1 ⟨x,H1,I1,r1,q1⟩=>ho pins s1 σ H1 x v Q I1 r1 q1)
theorem Kj{f:LM->LM->Sem LM}{C:Int->Int->Prop}{g:Int->Int->Int}
  (rule:∀(i j:Int)(t u:Tok)(s:LN)(Q:LM->LN->Prop)(E:LM->LN->Prop),C i j->Q (.int (g i j) s.toks) {s with toks:=s.toks+1}->LP (model X.prog X.w) X.A (f (.int i t) (.int j u)) Q E s):
  gQ X f (rI C fun i j=>.int (g i j)):=by
 intro pins s σ H x y v u Q I rx ry h
 obtain⟨i,j,rfl,rfl,hc,q⟩:=h
 obtain⟨t,rfl⟩:=rx
 obtain⟨t',rfl⟩:=ry
 exact rule i j t t' s _ _ hc ⟨.int (g i j),H,I.tok _,⟨_,rfl⟩,q⟩
theorem GN{f:LM->LM->Sem LM}{g:Int->Int->Int}
  (rule:∀(i j:Int)(t u:Tok)(s:LN)(Q:LM->LN->Prop)(E:LM->LN->Prop),Q (.int (g i j) s.toks) {s with toks:=s.toks+1}->LP (model X.prog X.w) X.A (f (.int i t) (.int j u)) Q E s):
  gQ X f (AR fun i j=>.int (g i j)):=by
 intro pins s σ H x y v u Q I rx ry h
 obtain⟨i,j,rfl,rfl,q⟩:=h
 obtain⟨t,rfl⟩:=rx
 obtain⟨t',rfl⟩:=ry
 exact rule i j t t' s _ _ ⟨.int (g i j),H,I.tok _,⟨_,rfl⟩,q⟩
theorem GL{f:LM->LM->Sem LM}{g:Int->Int->Bool}
  (rule:∀(i j:Int)(t u:Tok)(s:LN)(Q:LM->LN->Prop)(E:LM->LN->Prop),Q (.bool (g i j)) s->LP (model X.prog X.w) X.A (f (.int i t) (.int j u)) Q E s):
  gQ X f (AR fun i j=>.bl (g i j)):=by
 intro pins s σ H x y v u Q I rx ry h
 obtain⟨i,j,rfl,rfl,q⟩:=h
 obtain⟨t,rfl⟩:=rx
 obtain⟨t',rfl⟩:=ry
 exact rule i j t t' s _ _ ⟨.bl (g i j),H,I,rfl,q⟩
noncomputable def Li(i j:Int):Prop:=0<=j/\j<=1000000/\i.natAbs<2 ^ 64
noncomputable def GC(i j:Int):Prop:=(-(2 ^ 64)<i/\i<2 ^ 64)\/(-(2 ^ 64)<j/\j<2 ^ 64)
theorem GC.ok{i j:Int}(h:GC i j):IntMulOk i j:=by
 rcases h with⟨h1,h2⟩|⟨h1,h2⟩
 ·exact .of_left (intBits_le_64 h1 h2)
 ·exact .of_right (intBits_le_64 h1 h2)
theorem IE:gQ X (NA .Add) (AR fun i j=>.int (i+j)):=GN fun _ _ _ _ _ _ _ q=>add_int q
theorem HR:gQ X (NA .Sub) (AR fun i j=>.int (i-j)):=GN fun _ _ _ _ _ _ _ q=>sub_int q
theorem HY:gQ X (NA .Mod) (rI (fun _ j=>0<j) fun i j=>.int (i%j)):=Kj fun i j _ _ _ _ _ hc q=>by
 have h1:(0:Int)<j:=hc
 exact mod_int' (by omega) (by rw[Int.fmod_eq_emod_of_nonneg i (by omega)];exact q)
theorem Ho:gQ X (N7 .Add) (AR fun i j=>.int (i+j)):=GN fun _ _ _ _ _ _ _ q=>iadd_int q
theorem Gv:gQ X (N7 .Sub) (AR fun i j=>.int (i-j)):=GN fun _ _ _ _ _ _ _ q=>isub_int q
theorem LJ{f:LM->Sem LM}{g:Int->Int}
  (rule:∀(i:Int)(t:Tok)(s:LN)(Q:LM->LN->Prop)(E:LM->LN->Prop),Q (.int (g i) s.toks) {s with toks:=s.toks+1}->LP (model X.prog X.w) X.A (f (.int i t)) Q E s):
  Lm X f (rU fun i=>.int (g i)):=by
 intro pins s σ H x v Q I rx h
 obtain⟨i,rfl,q⟩:=h
 obtain⟨t,rfl⟩:=rx
 exact rule i t s _ _ ⟨.int (g i),H,I.tok _,⟨_,rfl⟩,q⟩
theorem Et:Lm X (unaryOp .USub) (rU fun i=>.int (-i)):=LJ fun _ _ _ _ _ q=>neg_int q
end
noncomputable def KU:V->V->Bool
 |.non,.non=>true | .non,.int _=>true | .int _,.non=>true | .non,.bl _=>true | .bl _,.non=>true | .non,.str _=>true | .str _,.non=>true
 |.int _,.int _=>true | .bl _,.bl _=>true | .str _,.str _=>true | .byt _,.byt _=>true
 |.int _,.str _=>true | .str _,.int _=>true | .bl _,.str _=>true | .str _,.bl _=>true
 |_,_=>false
noncomputable def i4:R2:=fun x y H Q=>KU x y=true/\Q (.bl (decide (x=y))) H
noncomputable def FN:R2:=fun x y H Q=>KU x y=true/\Q (.bl (!decide (x=y))) H
theorem CS{i j:Int}:decide (V.int i=V.int j)=(i==j):=by
 rw[Ng]
 simp
theorem FU{i j:Bool}:decide (V.bl i=V.bl j)=(i==j):=by
 rw[Ng]
 simp
theorem Cr{i j:LK}:decide (V.str i=V.str j)=(i==j):=by
 rw[Ng]
 simp
theorem CN{i j:Array UInt8}:decide (V.byt i=V.byt j)=(i.toList==j.toList):=by
 rw[Ng]
 cases i
 cases j
 simp
section
variable {X:Cx}{a b c:LU}{ta tb tc:TE}{pos:L8}
theorem bR{pins:List (LL×LS)}{σ:St}{H:Hp}{s:LN}{Q:VK}{k k':Bool}(I:Inv X pins σ H s)(q:Q (.bl k) H)(e:k=k'):EP X pins σ Q (.bool k') s:=by
 subst e
 exact⟨.bl k,H,I,rfl,q⟩
theorem cu:gQ X (MG .Eq) i4:=by
 intro pins s σ H x y v u Q I rx ry h
 obtain⟨hs,q⟩:=h
 cases x with
 |non=>
  cases rx
  cases y with
  |non=>cases ry;exact VC (bR I q (by simp))
  |bl j=>cases ry;exact Uv (bR I q (by simp))
  |int j=>obtain⟨t',rfl⟩:=ry;exact UB (bR I q (by simp))
  |str j=>obtain⟨t',rfl⟩:=ry;exact U5 (bR I q (by simp))
  |_=>exact absurd (show false=true from hs) MM
 |bl i=>
  cases rx
  cases y with
  |non=>cases ry;exact Wx (bR I q (by simp))
  |bl j=>cases ry;exact eq_bool (bR I q FU)
  |str j=>obtain⟨t',rfl⟩:=ry;exact UQ (bR I q (by simp))
  |_=>exact absurd (show false=true from hs) MM
 |int i=>
  obtain⟨t,rfl⟩:=rx
  cases y with
  |non=>cases ry;exact UI (bR I q (by simp))
  |int j=>obtain⟨t',rfl⟩:=ry;exact eq_int (bR I q CS)
  |str j=>obtain⟨t',rfl⟩:=ry;exact VZ (bR I q (by simp))
  |_=>exact absurd (show false=true from hs) MM
 |str i=>
  obtain⟨t,rfl⟩:=rx
  cases y with
  |non=>cases ry;exact UY (bR I q (by simp))
  |bl j=>cases ry;exact V2 (bR I q (by simp))
  |int j=>obtain⟨t',rfl⟩:=ry;exact U7 (bR I q (by simp))
  |str j=>obtain⟨t',rfl⟩:=ry;exact eq_str (bR I q Cr)
  |_=>exact absurd (show false=true from hs) MM
 |byt i=>
  obtain⟨t,rfl⟩:=rx
  cases y with
  |byt j=>obtain⟨t',rfl⟩:=ry;exact Vr (bR I q CN)
  |_=>exact absurd (show false=true from hs) MM
 |_=>cases y<;>exact absurd (show false=true from hs) MM
theorem wU:gQ X (MG .NotEq) FN:=by
 intro pins s σ H x y v u Q I rx ry h
 obtain⟨hs,q⟩:=h
 cases x with
 |non=>
  cases rx
  cases y with
  |non=>cases ry;exact Vw (bR I q (by simp))
  |bl j=>cases ry;exact VT (bR I q (by simp))
  |int j=>obtain⟨t',rfl⟩:=ry;exact Vf (bR I q (by simp))
  |str j=>obtain⟨t',rfl⟩:=ry;exact Vs (bR I q (by simp))
  |_=>exact absurd (show false=true from hs) MM
 |bl i=>
  cases rx
  cases y with
  |non=>cases ry;exact Vk (bR I q (by simp))
  |bl j=>cases ry;exact ne_bool (bR I q (congrArg not FU))
  |str j=>obtain⟨t',rfl⟩:=ry;exact V5 (bR I q (by simp))
  |_=>exact absurd (show false=true from hs) MM
 |int i=>
  obtain⟨t,rfl⟩:=rx
  cases y with
  |non=>cases ry;exact Wo (bR I q (by simp))
  |int j=>obtain⟨t',rfl⟩:=ry;exact ne_int (bR I q (congrArg not CS))
  |str j=>obtain⟨t',rfl⟩:=ry;exact Ws (bR I q (by simp))
  |_=>exact absurd (show false=true from hs) MM
 |str i=>
  obtain⟨t,rfl⟩:=rx
  cases y with
  |non=>cases ry;exact Vi (bR I q (by simp))
  |bl j=>cases ry;exact Wn (bR I q (by simp))
  |int j=>obtain⟨t',rfl⟩:=ry;exact UN (bR I q (by simp))
  |str j=>obtain⟨t',rfl⟩:=ry;exact ne_str (bR I q (congrArg not Cr))
  |_=>exact absurd (show false=true from hs) MM
 |byt i=>
  obtain⟨t,rfl⟩:=rx
  cases y with
  |byt j=>obtain⟨t',rfl⟩:=ry;exact Uz (bR I q (congrArg not CN))
  |_=>exact absurd (show false=true from hs) MM
 |_=>cases y<;>exact absurd (show false=true from hs) MM
theorem KJ:gQ X (MG .Lt) (AR fun i j=>.bl (decide (i<j))):=GL fun _ _ _ _ _ _ _ q=>lt_int q
theorem KD:gQ X (MG .LtE) (AR fun i j=>.bl (decide (i<=j))):=GL fun _ _ _ _ _ _ _ q=>le_int q
theorem Ka:gQ X (MG .Gt) (AR fun i j=>.bl (decide (j<i))):=GL fun _ _ _ _ _ _ _ q=>gt_int q
theorem KO:gQ X (MG .GtE) (AR fun i j=>.bl (decide (j<=i))):=GL fun _ _ _ _ _ _ _ q=>ge_int q
theorem D9:gQ X (MG .In) (fun x y H Q=>∃i j,x=.str i/\y=.str j/\Q (.bl (!(OG j i 0 j.length 1).isEmpty)) H):=by
 intro pins s σ H x y v u Q I rx ry h
 obtain⟨i,j,rfl,rfl,q⟩:=h
 obtain⟨t,rfl⟩:=rx
 obtain⟨t',rfl⟩:=ry
 exact in_str (bR I q rfl)
theorem BG:gQ X (MG .Is) (fun x y H Q=>y=.non/\Q (.bl (decide (x=.non))) H):=by
 intro pins s σ H x y v u Q I rx ry h
 obtain⟨rfl,q⟩:=h
 cases ry
 refine is_none_gen (bR I q ?_)
 cases x<;>first
  |(cases rx;rfl)
  |(obtain⟨t,rfl⟩:=rx;rfl)
theorem yx:gQ X (MG .IsNot) (fun x y H Q=>y=.non/\Q (.bl (!decide (x=.non))) H):=by
 intro pins s σ H x y v u Q I rx ry h
 obtain⟨rfl,q⟩:=h
 cases ry
 refine isnot_none_gen (bR I q ?_)
 cases x<;>first
  |(cases rx;rfl)
  |(obtain⟨t,rfl⟩:=rx;rfl)
theorem xJ:gQ X (MG .NotIn) (fun x y H Q=>∃i j,x=.str i/\y=.str j/\Q (.bl (!(!(OG j i 0 j.length 1).isEmpty))) H):=by
 intro pins s σ H x y v u Q I rx ry h
 obtain⟨i,j,rfl,rfl,q⟩:=h
 obtain⟨t,rfl⟩:=rx
 obtain⟨t',rfl⟩:=ry
 exact notIn_str (bR I q rfl)
theorem aO(b:LU){op:CmpOp}(h:op≠.In:=by decide)(h2:op≠.NotIn:=by decide):PR op b=false:=by
 have e1:(op==CmpOp.In)=false:=by cases op<;>first|rfl|exact absurd rfl h
 have e2:(op==CmpOp.NotIn)=false:=by cases op<;>first|rfl|exact absurd rfl h2
 cases b<;>simp[PR,e1,e2]
theorem eC{op:CmpOp}{r:R2}(ho:gQ X (MG op) r)(ha:PE X a ta)(hb:PE X b tb)(hm:PR op b=false):PE X (.Compare a [op] [b] pos) (aH r ta tb):=by
 intro pins s σ H Q I h
 exact wpAny_Compare1 (JJ ha hb I h fun v u s2 x y H2 I2 rx ry q=>ho pins s2 σ H2 x y v u Q I2 rx ry q) hm
noncomputable def aV(t:TE):TT:=fun σ H Q=>t σ H fun x H'=>∃k,x=.bl k/\Q k H'
theorem aD{op:CmpOp}{r:R2}(ho:gQ X (MG op) r)(ha:PE X a ta)(hb:PE X b tb)(hm:PR op b=false):PT X (.Compare a [op] [b] pos) (aV (aH r ta tb)):=by
 intro pins s σ H Q I h
 refine wpAny_isTrue_Compare1 (ck (ha pins s σ H _ I h) fun v s1 ⟨x,H1,I1,r1,q1⟩=>ck (hb pins s1 σ H1 _ I1 q1) fun u s2 ⟨y,H2,I2,r2,q2⟩=>
  ck (ho pins s2 σ H2 x y v u _ I2 r1 r2 q2) fun c s3 ⟨z,H3,I3,r3,k,e,q3⟩=>?_) hm
 subst e
 cases r3
 exact OO ⟨H3,I3,q3⟩
noncomputable def BI(r r':R2)(ta tb tc:TE):TE:=fun σ H Q=>ta σ H fun x H1=>tb σ H1 fun y H2=>r x y H2 fun z H3=>∃k,z=.bl k/\
 (if k=true then tc σ H3 fun w' H4=>r' y w' H4 Q else Q (.bl false) H3)
theorem Fi{op op':CmpOp}{r r':R2}(ho:gQ X (MG op) r)(ho':gQ X (MG op') r')(ha:PE X a ta)(hb:PE X b tb)(hc:PE X c tc)
  (hm:lastMarks [op,op'] [b,c]=false:=by with_unfolding_all rfl):PE X (.Compare a [op,op'] [b,c] pos) (BI r r' ta tb tc):=by
 intro pins s σ H Q I h
 refine Compare_chain (ck (ha pins s σ H _ I h) fun v s1 ⟨x,H1,I1,r1,q1⟩=>chain_link (ck (hb pins s1 σ H1 _ I1 q1) fun u s2 ⟨y,H2,I2,r2,q2⟩=>
  ck (ho pins s2 σ H2 x y v u _ I2 r1 r2 q2) fun d s3 ⟨z,H3,I3,r3,k,e,q3⟩=>?_)) hm
 subst e
 cases r3
 refine OO ?_
 cases k with
 |false=>exact ite_ff ⟨.bl false,H3,I3,rfl,q3⟩
 |true=>exact ite_tt (chain_last (ck (hc pins s3 σ H3 _ I3 q3) fun w' s4 ⟨z',H4,I4,r4,q4⟩=>ho' pins s4 σ H4 y z' u w' Q I4 r2 r4 q4))
theorem qd:(LW:Nat)<2 ^ 63:=by rw[sizeLine_eq];decide
theorem A6:gQ X (NA .Add) (fun x y H Q=>∃i j,x=.str i/\y=.str j/\i.length+j.length<=LW/\Q (.str (i++j)) H):=by
 intro pins s σ H x y v u Q I rx ry h
 obtain⟨i,j,rfl,rfl,hz,q⟩:=h
 obtain⟨t,rfl⟩:=rx
 obtain⟨t',rfl⟩:=ry
 exact add_str (fun t' tk=>⟨.str (i++j),H,I.tok _,⟨_,rfl⟩,q⟩) hz
theorem vals1{x:V}{us:List LM}(r:bF [x] us):∃u,us=[u]/\RelV x u:=by
 cases r with
 |cons r1 r2=>cases r2;exact⟨_,rfl,r1⟩
theorem vals2{x y:V}{us:List LM}(r:bF [x,y] us):∃u w',us=[u,w']/\RelV x u/\RelV y w':=by
 cases r with
 |cons r1 r2=>
  cases r2 with
  |cons r3 r4=>cases r4;exact⟨_,_,rfl,r1,r3⟩
theorem D3(hc:X.calm=true):eu X (.builtin "max") (fun xs H Q=>∃i j,xs=[.int i,.int j]/\Q (.int (if j>i then j else i)) H):=by
 intro pins s σ H xs us Q I r h
 obtain⟨i,j,rfl,q⟩:=h
 obtain⟨u,w',rfl,⟨t,rfl⟩,⟨t',rfl⟩⟩:=vals2 r
 refine max_two_ints (I.ok.hd hc) fun h' tk k=>⟨_,H,I.kept k,?_,q⟩
 by_cases hj:j>i
 ·rw[if_pos hj,if_pos hj];exact⟨_,rfl⟩
 ·rw[if_neg hj,if_neg hj];exact⟨_,rfl⟩
theorem D5(hc:X.calm=true):eu X (.builtin "min") (fun xs H Q=>∃i j,xs=[.int i,.int j]/\Q (.int (if j<i then j else i)) H):=by
 intro pins s σ H xs us Q I r h
 obtain⟨i,j,rfl,q⟩:=h
 obtain⟨u,w',rfl,⟨t,rfl⟩,⟨t',rfl⟩⟩:=vals2 r
 refine min_two_ints (I.ok.hd hc) fun h' tk k=>⟨_,H,I.kept k,?_,q⟩
 by_cases hj:j<i
 ·rw[if_pos hj,if_pos hj];exact⟨_,rfl⟩
 ·rw[if_neg hj,if_neg hj];exact⟨_,rfl⟩
theorem DA:eu X (.type "int") (fun xs H Q=>(∃i,xs=[.int i]/\Q (.int i) H)\/∃k,xs=[.bl k]/\Q (.int (if k then 1 else 0)) H):=by
 intro pins s σ H xs us Q I r h
 rcases h with⟨i,rfl,q⟩|⟨k,rfl,q⟩
 ·obtain⟨u,rfl,t,rfl⟩:=vals1 r
  exact call_int_int ⟨.int i,H,I,⟨_,rfl⟩,q⟩
 ·obtain⟨u,rfl,r1⟩:=vals1 r
  cases r1
  exact call_int_bool ⟨.int (if k then 1 else 0),H,I.tok _,⟨_,rfl⟩,q⟩
end
structure BM(h:LV)(x dx C:LL)(mA:LK->Option LM):Prop where
 obj:h.get? x=some (OE C dx)
 ns:h.Ns1 dx mA
 ne:dx≠x
theorem DC{h:LV}{dx:LL}{mA:LK->Option LM}(n:h.Ns1 dx mA):∃od,h.get? dx=some od/\∀name,Qu name od=some (mA name):=by
 obtain⟨o,es,ep,ho,hd,hk,_,hm⟩:=n
 refine⟨o,ho,fun name=>?_⟩
 have e:=hm name
 unfold nsFind findBy at e
 rw[<-Array.find?_toList]at e
 unfold Qu
 rw[hd]
 dsimp only
 split
 ·rename_i y q
  rw[q]at e
  exact congrArg some e
 ·rename_i q
  rw[q]at e
  have a:es.toList.any (·.refKey)=false:=by
   rw[List.any_eq_false]
   intro y hy
   obtain⟨z,t,hkey⟩:=hk y (SQ.mp hy)
   simp[Va,hkey]
  have a':¬es.toList.any (·.refKey)=true:=by rw[a];exact MM
  rw[if_neg a']
  exact congrArg some e
theorem BM.look{h:LV}{x dx C:LL}{mA:LK->Option LM}(I:BM h x dx C mA):∃od,OZ h x (OE C dx) C (some od)/\∀name,Qu name od=some (mA name):=
 let ⟨od,ho,hl⟩:=DC I.ns
 ⟨od,⟨I.obj,rfl,rfl,ho⟩,hl⟩
section
variable {prog:L5}{w:LZ}{A:Mb}{E:LM->LN->Prop}{s:LN}{K:LO}{x dx C f:LL}{mA:LK->Option LM}{name:LK}{v:LM}
theorem get_map{expr:Bool}{Q:LM->LN->Prop}(X:K.In s.heap)(I:BM s.heap x dx C mA)(hg:Pk K C name=true)(hh:Qs K C=true)
  (ha:M2 K (.ref C) name=some none) (hv:mA name=some v) (hv':Sw v=true) (h:Q v {s with toks:=s.toks+1}):
  LP (model prog w) A (getAttr (.ref x) name expr) Q E s:=by
 obtain⟨od,J,hl⟩:=I.look
 exact VR X J (QX hg).1 (Vc hh ha rfl (by rw[hl,hv])) hv' h
theorem F2{pl:Sem Bool}{Q:LM×List LM->LN->Prop}(X:K.In s.heap)(I:BM s.heap x dx C mA)(hg:Pk K C name=true)
  (hf:M2 K (.ref C) name=some (some (.ref f))) (ht:Qd K (.ref f)=true) (hv:mA name=none) (h:Q (.ref f,[.ref x]) s):
  LP (model prog w) A (Og (.ref x) name pl) Q E s:=by
 obtain⟨od,J,hl⟩:=I.look
 exact Vq X J (QX hg).1 (QX hg).2 hf (beq_iff_eq.mp ht) (by show(Qu name od).map (·.isSome)=some false;rw[hl,hv];rfl) h
theorem GU{ns:List LK}{Q:Unit->LN->Prop}(X:K.In s.heap)(I:BM s.heap x dx C mA)
  (hs:M2 K (.ref C) "__setattr__"=some (some (.builtin "object.__setattr__"))) (hp:Rn K C=true) (ht:Ru K C name=some none) (hh:Qs K C=true)
  (hw:RM mA ns) (hsz:ns.length<=LW)
  (h:∀h',BM h' x dx C (fun y=>if y=name then some v else mA y)->NM dx s.heap h'->Q () {s with heap:=h',toks:=s.toks+2}):
  LP (model prog w) A (setAttr (.ref x) name v) Q E s:=by
 obtain⟨od,J,hl⟩:=I.look
 refine UZ X J hs (Wr (s:={s with toks:=s.toks+1}) (r:=none) X J hp ht fun b=>?_)
 obtain⟨cd,hc,hd'⟩:=V3 hh
 have hx:s.heap.get? x=some ⟨.ref C,some dx,.plain,#[]⟩:=I.obj
 refine LQ (Mc (LQ (LQ (wpAny_loadPart hx (LQ (VM (s:={s with toks:=s.toks+1}) (UO X hc) ?_))))))
 rw[hd']
 refine Mc (a:=some dx) (LQ (Mc (LQ ?_)))
 refine wpAny_nsSet1 (s:={s with toks:=s.toks+1}) I.ns fun h' hn2 hs2=>?_
 obtain⟨oD,esD,epD,hoD,hdD,hcD⟩:=hn2.count (UK name v hw)
 refine LQ (wpAny_lookBehind hoD (by rw[hdD];exact pastItsLine_dict (Ma hcD (by rw[MW];omega))) ?_)
 exact Mc (h _ ⟨(hs2.2 _ (Mm I.ne)).trans I.obj,hn2,I.ne⟩ hs2)
theorem Ez{R:Result->LN->Prop}{vs:List LM}{kw:List (LK×LM)}(X:K.In s.heap)(hm:P4 K C=true)
  (hi:M2 K (.ref C) "__init__"=some (some (.ref f))) (hf:QO K (.ref f)=some (.type "function"))
  (h:NL (model prog w) (A.under (.builtin "type.__call__" ⟨.ref C::vs,kw⟩)) (.call (.ref f) ⟨.ref (s.heap.objs.size+1)::vs,kw⟩) (Uy (s.heap.objs.size+1) R)
   {s with heap:=(s.heap.push Of).push (OE C s.heap.objs.size)}):
  NL (model prog w) A (.call (.ref C) ⟨vs,kw⟩) R s:=by
 obtain⟨hh,g,d,t,os⟩:=s
 exact U8 (V4 X hm) (VI X hi) (fun self=>Wg X self hf) (.inl rfl) h
end
noncomputable def bZ(f:LK)(v:V):List (LK×V)->List (LK×V)
 |[]=>[(f,v)]
 |(g,x)::r=>if g=f then(g,v)::r else(g,x)::bZ f v r
theorem rn(f g:LK)(v:V):∀fs:List (LK×V),(bZ f v fs).lookup g=if g=f then some v else fs.lookup g
 |[]=>by
  show Np g [(f,v)]=_
  by_cases h:g=f
  ·have hb:(g==f)=true:=beq_iff_eq.mpr h
   simp only[Np,hb,if_pos h]
  ·have hb:(g==f)=false:=beq_eq_false_iff_ne.mpr h
   simp only[Np,hb,if_neg h]
 |(k,x)::r=>by
  have ih:=rn f g v r
  rw[show bZ f v ((k,x)::r)=(if k=f then(k,v)::r else(k,x)::bZ f v r)from rfl]
  by_cases hk:k=f
  ·rw[if_pos hk]
   by_cases h:g=k
   ·have hb:(g==k)=true:=beq_iff_eq.mpr h
    simp only[Np,hb,if_pos (h.trans hk)]
   ·have hb:(g==k)=false:=beq_eq_false_iff_ne.mpr h
    simp only[Np,hb,if_neg (fun e:g=f=>h (e.trans hk.symm))]
  ·rw[if_neg hk]
   by_cases h:g=k
   ·have hb:(g==k)=true:=beq_iff_eq.mpr h
    simp only[Np,hb,if_neg (fun e:g=f=>hk (h.symm.trans e))]
   ·have hb:(g==k)=false:=beq_eq_false_iff_ne.mpr h
    simp only[Np,hb]
    exact ih
theorem qR(f:LK)(v:V):∀fs:List (LK×V),f∈(bZ f v fs).map (·.1)/\∀g,g∈fs.map (·.1)->g∈(bZ f v fs).map (·.1)
 |[]=>⟨by simp[bZ],fun g h=>by simp at h⟩
 |(k,x)::r=>by
  obtain⟨i1,i2⟩:=qR f v r
  rw[show bZ f v ((k,x)::r)=(if k=f then(k,v)::r else(k,x)::bZ f v r)from rfl]
  by_cases hk:k=f
  ·rw[if_pos hk]
   subst hk
   exact⟨by simp,fun g h=>by simpa using h⟩
  ·rw[if_neg hk]
   refine⟨?_,fun g h=>?_⟩
   ·rw[MQ]
    exact MU _ i1
   ·rw[MQ]at h ⊢
    rcases L9.mp h with e|e
    ·exact L9.mpr (.inl e)
    ·exact MU _ (i2 g e)
theorem rG(f:LK)(v:V):∀fs:List (LK×V),(bZ f v fs).length<=fs.length+1
 |[]=>by simp[bZ]
 |(k,x)::r=>by
  have ih:=rG f v r
  rw[show bZ f v ((k,x)::r)=(if k=f then(k,v)::r else(k,x)::bZ f v r)from rfl]
  by_cases hk:k=f
  ·rw[if_pos hk,MW,MW];omega
  ·rw[if_neg hk,MW,MW];omega
theorem mi.some_of{v:V}{o:Option LM}(r:mi (some v) o):∃u,o=some u/\RelV v u:=by
 cases o with
 |none=>exact(show False from r).elim
 |some u=>exact⟨u,rfl,r⟩
theorem mi.none_of{o:Option LM}(r:mi none o):o=none:=by
 cases o with
 |none=>rfl
 |some u=>exact(show False from r).elim
theorem Eg{v:V}{u:LM}(r:RelV v u):Sw u=true:=by
 cases v with
 |non=>cases(show u=M5 from r);rfl
 |bl b=>cases(show u=Om b from r);rfl
 |int i=>obtain⟨t,e⟩:=(show ∃t,u=NX i t from r);cases e;rfl
 |str x=>obtain⟨t,e⟩:=(show ∃t,u=OI x t from r);cases e;rfl
 |byt b=>obtain⟨t,e⟩:=(show ∃t,u=T4 b t from r);cases e;rfl
 |flt b=>obtain⟨t,e⟩:=(show ∃t,u=Uq b t from r);cases e;rfl
 |ref a=>cases(show u=Mj a from r);rfl
 |ty n=>cases(show u=Rr n from r);rfl
section
variable {P:L5}{w:LZ}{H H':Hp}{h h':LV}{a C dx:LL}{fs fs':List (LK×V)}
theorem ye(hok:mZ P w H h)(e:H a=some (.ins C dx fs)):∃mA,BM h a dx C mA/\(∀f,mi (fs.lookup f) (mA f))/\RM mA (fs.map (·.1))/\fs.length<=1000/\H dx=some (.own a):=by
 obtain⟨d,z,ne,ob,mA,n,r,q⟩:=(show cF P w H h a (.ins C dx fs)from hok a _ e)
 exact⟨mA,⟨ob,n,ne⟩,r,q,z,d⟩
end
structure jb(K:LO)(C:LL):Prop where
 pg:Pk K C ML=true
 hd:Qs K C=true
 po:Rn K C=true
 sa:M2 K (.ref C) "__setattr__"=some (some (.builtin "object.__setattr__"))
theorem jb.get{K:LO}{C:LL}(c:jb K C)(f:LK):Pk K C f=true:=c.pg
noncomputable def c7(K:LO)(C:LL)(f:LK):Prop:=M2 K (.ref C) f=some none
theorem c7.taker{K:LO}{C:LL}{f:LK}(n:c7 K C f):Ru K C f=some none:=by
 unfold Ru
 rw[show M2 K (.ref C) f=some none from n]
 rfl
structure C2(K:LO)(C:LL)(m:LK)(f:LL):Prop where
 at_:M2 K (.ref C) m=some (some (.ref f))
 fn:Qd K (.ref f)=true
 kp:NK K (.ref f)=true
section
variable {X:Cx}{pins:List (LL×LS)}{σ:St}{H:Hp}{s:LN}{a C dx:LL}{fs:List (LK×V)}{f:LK}{v:V}{A:Mb}{E:LM->LN->Prop}
theorem uH{b:Bool}{Q:LM->LN->Prop}(I:Inv X pins σ H s)(e:H a=some (.ins C dx fs))(c:jb X.K C)(n:c7 X.K C f)(l:fs.lookup f=some v)
  (h:∀u s',Inv X pins σ H s'->RelV v u->Q u s'):LP (model X.prog X.w) A (getAttr (.ref a) f b) Q E s:=by
 obtain⟨mA,O,r,_,_,_⟩:=ye I.hok e
 obtain⟨u,hu,ru⟩:=mi.some_of (v:=v) (o:=mA f) (by rw[<-l];exact r f)
 exact get_map I.kIn O (c.get f) c.hd n hu (Eg ru) (h u _ (I.tok _) ru)
theorem oq{m:LK}{g:LL}{pl:Sem Bool}{Q:LM×List LM->LN->Prop}(I:Inv X pins σ H s)(e:H a=some (.ins C dx fs))(c:jb X.K C)(k:C2 X.K C m g)(l:fs.lookup m=none)
  (h:Q (.ref g,[.ref a]) s):LP (model X.prog X.w) A (Og (.ref a) m pl) Q E s:=by
 obtain⟨mA,O,r,_,_,_⟩:=ye I.hok e
 have hn:mA m=none:=mi.none_of (by rw[<-l];exact r m)
 exact F2 I.kIn O (c.get m) k.at_ k.fn hn h
theorem vk{y:V}{u:LM}{Q:Unit->LN->Prop}(I:Inv X pins σ H s)(e:H a=some (.ins C dx fs))(c:jb X.K C)(n:c7 X.K C f)(hl:fs.length<1000)(ry:RelV y u)
  (h:∀s',Inv X pins σ (upd H a (.ins C dx (bZ f y fs))) s'->Q () s'):LP (model X.prog X.w) A (setAttr (.ref a) f u) Q E s:=by
 obtain⟨mA,O,r,wi,_,ho⟩:=ye I.hok e
 have hz:(fs.map (·.1)).length<=LW:=by rw[Md,sizeLine_eq];omega
 refine GU I.kIn O c.sa c.po n.taker c.hd wi hz fun h' O' sb=>h _ ?_
 have hd:∃o,h'.get? dx=some o:=let ⟨o,_,_,e',_⟩:=O'.ns;⟨o,e'⟩
 refine I.write (x:=a) (e:=dx) (by rw[e];exact NV) (.inr ho) (fun b q hb z=>(sb.2 b hb).trans z) hd ?_
 refine⟨by rw[aq O.ne];exact ho,?_,O.ne,O'.obj,_,O'.ns,fun g=>?_,fun g hg=>?_⟩
 ·have:=rG f y fs;omega
 ·show mi ((bZ f y fs).lookup g) (if g=f then some u else mA g)
  rw[rn]
  by_cases q:g=f
  ·rw[if_pos q,if_pos q];exact ry
  ·rw[if_neg q,if_neg q];exact r g
 ·by_cases q:g=f
  ·rw[q];exact(qR f y fs).1
  ·refine(qR f y fs).2 g (wi g fun z=>hg ?_)
   show(if g=f then some u else mA g)=none
   rw[if_neg q];exact z
theorem Inv.made(I:Inv X pins σ H s):Inv X pins σ (upd (upd H s.heap.objs.size (.own (s.heap.objs.size+1))) (s.heap.objs.size+1) (.ins C s.heap.objs.size []))
  {s with heap:=(s.heap.push Of).push (OE C s.heap.objs.size)}:=by
 have e1:(s.heap.push Of).get? s.heap.objs.size=some Of:=Mu s.heap rfl
 have e2:((s.heap.push Of).push (OE C s.heap.objs.size)).get? (s.heap.objs.size+1)=some (OE C s.heap.objs.size):=by
  have:=Mu (s.heap.push Of) (o:=OE C s.heap.objs.size) rfl
  rwa [Nl]at this
 have e3:(s.heap.push Of).Ns s.heap.objs.size (fun _=>none):=⟨Of,#[],_,e1,rfl,(fun e he=>absurd he (by simp)),fun _=>rfl⟩
 have I1:=I.laid (a:=s.heap.objs.size) (o:=.own (s.heap.objs.size+1)) (h':=s.heap.push Of) (t':=s.toks) (fun b u q=>Mq _ q) (L0 _) ⟨_,e1⟩
 refine I1.laid (a:=s.heap.objs.size+1) (o:=.ins C s.heap.objs.size []) (t':=s.toks) (fun b u q=>Mq _ q) (O4 (Nl _ _)) ?_
 have ne:s.heap.objs.size≠s.heap.objs.size+1:=Ms (P6 _)
 refine⟨by rw[aq ne,ao],MK _,ne,e2,fun _=>none,(U0 e3).at fun o q=>Mq _ q,fun _=>NV,fun y hy=>absurd rfl hy⟩
theorem GQ{prog:L5}{w:LZ}{env:Mo}{e:LU}{f:LK}{pos:L8}{s:LN}{Q:LM->LN->Prop}(hb:OU e f env (eval e env)=eval e env)
  (h:LP (model prog w) A (eval e env) (fun o s₁=>LP (model prog w) A (getAttr o f true) Q E s₁) E s):LP (model prog w) A (eval (.Attribute e f pos) env) Q E s:=
 Attribute_any_ h (by rw[arm_eval_Attribute,hb])
end
noncomputable def cZ(K:LO)(ta:TE)(f:LK):TE:=fun σ H Q=>ta σ H fun x H1=>∃a C dx fs v,x=.ref a/\H1 a=some (.ins C dx fs)/\jb K C/\c7 K C f/\fs.lookup f=some v/\Q v H1
noncomputable def qG(K:LO)(ta tv:TE)(f:LK):TS:=fun D σ H=>tv σ H fun y H1=>ta σ H1 fun x H2=>∃a C dx fs,x=.ref a/\H2 a=some (.ins C dx fs)/\jb K C/\c7 K C f/\fs.length<1000/\
 D.nx σ (upd H2 a (.ins C dx (bZ f y fs)))
noncomputable def Ih(X:Cx)(op:Operator)(rd:V->V->Hp->VK->Prop):Prop:=
 ∀(pins:List (LL×LS))(s:LN)(σ:St)(H:Hp)(x y:V)(u v:LM)(Q:VK),Inv X pins σ H s->RelV x u->RelV y v->rd x y H Q->LP (model X.prog X.w) X.A (N7 op u v) (EP X pins σ Q) X.xe s
noncomputable def i0(K:LO)(ta tv:TE)(rd:V->V->Hp->VK->Prop)(f:LK):TS:=fun D σ H=>ta σ H fun x H1=>∃a C dx fs v,x=.ref a/\H1 a=some (.ins C dx fs)/\jb K C/\c7 K C f/\fs.lookup f=some v/\
 tv σ H1 fun y H2=>rd v y H2 fun z H3=>∃dx' fs',H3 a=some (.ins C dx' fs')/\fs'.length<1000/\D.nx σ (upd H3 a (.ins C dx' (bZ f z fs')))
section
variable {X:Cx}{o e value:LU}{f:LK}{pos pos' tpos:L8}{ta tv:TE}
theorem bG(he:PE X e ta)(hb:OU e f X.env (eval e X.env)=eval e X.env):PE X (.Attribute e f pos) (cZ X.K ta f):=by
 intro pins s σ H Q I h
 refine GQ hb (ck (he pins s σ H _ I h) fun u s1 ⟨x,H1,I1,rx,a,C,dx,fs,v,ex,ea,c,n,l,q⟩=>?_)
 subst ex
 obtain rfl:u=Mj a:=rx
 exact uH I1 ea c n l fun u' s2 I2 ru=>⟨v,H1,I2,ru,q⟩
theorem iM(ha:PE X o ta)(hv:PE X value tv)(hs:swapsWith value (some (.Attribute o f pos')) pos.line X.env=pure false):PS X (.Assign [.Attribute o f pos'] value pos) (qG X.K ta tv f):=by
 intro pins s σ H D I h
 refine plainObj_wpAny_Assign_Attribute (ck (hv pins s σ H _ I h) fun u s1 ⟨y,H1,I1,ry,q⟩=>ck (ha pins s1 σ H1 _ I1 q) fun ov s2 ⟨x,H2,I2,rx,a,C,dx,fs,ex,ea,c,n,l,q2⟩=>?_) hs
 subst ex
 obtain rfl:ov=Mj a:=rx
 exact vk I2 ea c n l ry fun s3 I3=>⟨σ,_,I3,q2⟩
theorem ib{op:Operator}{rd:V->V->Hp->VK->Prop}(ha:PE X o ta)(hv:PE X value tv)(hop:Ih X op rd):PS X (.AugAssign (.Attribute o f tpos) op value pos) (i0 X.K ta tv rd f):=by
 intro pins s σ H D I h
 refine wpAny_AugAssign_AttributeAny (ck (ha pins s σ H _ I h) fun ov s1 ⟨x,H1,I1,rx,a,C,dx,fs,v,ex,ea,c,n,l,q⟩=>?_)
 subst ex
 obtain rfl:ov=Mj a:=rx
 refine uH I1 ea c n l fun u s2 I2 ru=>ck (hv pins s2 σ H1 _ I2 q) fun w3 s3 ⟨y,H2,I3,ry,q3⟩=>ck (hop pins s3 σ H2 v y u w3 _ I3 ru ry q3) fun w4 s4 ⟨z,H3,I4,rz,dx',fs',ea',l',q4⟩=>?_
 exact vk I4 ea' c n l' rz fun s5 I5=>⟨σ,_,I5,q4⟩
noncomputable def CZ:V->V->Hp->VK->Prop:=fun x y H Q=>∃i j,x=.int i/\y=.int j/\Q (.int (i+j)) H
noncomputable def KY:V->V->Hp->VK->Prop:=fun x y H Q=>∃i j,x=.int i/\y=.int j/\Q (.int (i-j)) H
theorem uR:Ih X .Add CZ:=by
 rintro pins s σ H x y u v Q I rx ry ⟨i,j,rfl,rfl,q⟩
 obtain⟨t,rfl⟩:=(show ∃t,u=NX i t from rx)
 obtain⟨t',rfl⟩:=(show ∃t',v=NX j t' from ry)
 exact VU ⟨.int (i+j),H,I.tok _,⟨_,rfl⟩,q⟩
theorem HW:Ih X .Sub KY:=by
 rintro pins s σ H x y u v Q I rx ry ⟨i,j,rfl,rfl,q⟩
 obtain⟨t,rfl⟩:=(show ∃t,u=NX i t from rx)
 obtain⟨t',rfl⟩:=(show ∃t',v=NX j t' from ry)
 exact U6 ⟨.int (i-j),H,I.tok _,⟨_,rfl⟩,q⟩
theorem HD{pl:Sem Bool}{m:LK}{apos:L8}{args:List LU}{pins:List (LL×LS)}{s:LN}{σ:St}{H:Hp}{Q:LM->LN->Prop}{te:TE}(he:PE X e te)(I:Inv X pins σ H s)
  (h:te σ H fun x H1=>∃a C dx fs g,x=.ref a/\H1 a=some (.ins C dx fs)/\jb X.K C/\C2 X.K C m g/\fs.lookup m=none/\
   ∀s1,Inv X pins σ H1 s1->LP (model X.prog X.w) X.A (callWith pos (.ref g) [.ref a] (MA pos (L6 args X.env)) (NZ pos (NT [] X.env))) Q X.xe s1)
  (ht:eval (.Call (.Attribute e m apos) args [] pos) X.env=(do
   let ov <-eval e X.env
   standAt apos.atName
   let (f,first) <-holding [ov] (Og ov m pl)
   callWith pos f first (MA pos (L6 args X.env)) (NZ pos (NT [] X.env)))):
  LP (model X.prog X.w) X.A (eval (.Call (.Attribute e m apos) args [] pos) X.env) Q X.xe s:=by
 refine QF (pl:=pl) (ck (he pins s σ H _ I h) fun u s1 ⟨x,H1,I1,rx,a,C,dx,fs,g,ex,ea,c,k,l,q⟩=>?_) ht
 subst ex
 obtain rfl:u=Mj a:=rx
 exact oq I1 ea c k l (q s1 I1)
end
section
variable {X:Cx}{pins:List (LL×LS)}{σ:St}{H:Hp}{s:LN}{A:Mb}{E:LM->LN->Prop}{Q:LM->LN->Prop}{c:LM}{b:Bool}
end
structure cS(k:Nat)(A:Mb):Prop where
 hd:A.handled=none
 dp:A.depth+3*k+5<recursionLimit
 un:A.units+16*k+200<cLine
theorem cS.mono{j k:Nat}{A:Mb}(r:cS k A)(h:j<=k):cS j A:=⟨r.hd,by have:=r.dp;omega,by have:=r.un;omega⟩
theorem cS.deeper{k:Nat}{A:Mb}(r:cS (k+1) A)(env:Mo):cS k (A.deeper env):=
 ⟨r.hd,by have:=r.dp;show A.depth+1+3*k+5<_;omega,by have:=r.un;show A.units+3+16*k+200<_;omega⟩
theorem A1{A:Mb}{C:LL}{us:List LM}{kw:List (LK×LM)}:(A.under (.builtin "type.__call__" ⟨.ref C::us,kw⟩)).depth=A.depth+1:=by
 first|rfl|simp[RG,Code.weight,Code.isCreation,Code.isGuard,Code.isCaller,SM,RD,guardIds]
theorem A3{A:Mb}{C:LL}{us:List LM}{kw:List (LK×LM)}:(A.under (.builtin "type.__call__" ⟨.ref C::us,kw⟩)).units=A.units+1:=by
 first|rfl|simp[RG,Code.cUnits,SM,RD]
theorem cS.make{k:Nat}{A:Mb}(r:cS (k+1) A)(C:LL)(us:List LM)(kw:List (LK×LM)):cS k (A.under (.builtin "type.__call__" ⟨.ref C::us,kw⟩)):=
 ⟨r.hd,by have:=r.dp;rw[A1];omega,by have:=r.un;rw[A3];omega⟩
theorem cS.depth{k:Nat}{A:Mb}(r:cS k A):A.depth<recursionLimit:=by have:=r.dp;omega
theorem cS.units{k:Nat}{A:Mb}(r:cS k A):A.units+64<cLine:=by have:=r.un;omega
noncomputable def ay:TA:=fun _ H Q=>Q [] H
noncomputable def af(ta:TE)(tr:TA):TA:=fun σ H Q=>ta σ H fun x H1=>tr σ H1 fun xs H2=>Q (x::xs) H2
section
variable {X:Cx}{e:LU}{es:List LU}{te:TE}{t:TA}{pos:L8}
theorem ah:PA X [] ay:=fun _ _ _ _ H Q I h=>QW ⟨[],H,I,.nil,h⟩
theorem aa(ha:PE X e te)(hr:PA X es t)(hs:L6 (e::es) X.env=(false,eval e X.env)::L6 es X.env:=by rfl):PA X (e::es) (af te t):=by
 intro pos pins s σ H Q I h
 rw[hs]
 show LP _ _ (spliced ((false,eval e X.env)::MA pos (L6 es X.env))) _ _ s
 refine Rg (ck (ha pins s σ H _ I h) fun u s1 ⟨x,H1,I1,r1,q1⟩=>?_)
 exact ck (hr pos pins s1 σ H1 _ I1 q1) fun us s2 ⟨xs,H2,I2,r2,q2⟩=>⟨x::xs,H2,I2,.cons r1 r2,q2⟩
noncomputable def gY(t:TA):TE:=fun σ H Q=>t σ H fun xs H1=>xs.length<=LW/\∀p,H1 p=none->Q (.ref p) (upd H1 p (.tup xs))
noncomputable def cW(t:TA):TE:=fun σ H Q=>t σ H fun xs H1=>xs.length<=LW/\∀p,H1 p=none->Q (.ref p) (upd H1 p (.lst xs))
theorem cP{x1}(h:PA X es t):PE X (.Tuple es x1 pos) (gY t):=by
 intro pins s σ H Q I hq
 refine wpAny_Tuple_spliced (ck (h pos pins s σ H _ I hq) fun us s1 ⟨xs,H1,I1,r,z,q⟩=>⟨by rw[<-r.length];exact z,?_⟩)
 have hf:H1 s1.heap.objs.size=none:=I1.hok.fresh (L0 _)
 refine⟨.ref s1.heap.objs.size,upd H1 s1.heap.objs.size (.tup xs),I1.laid (t':=s1.toks) (fun b u e=>Mq _ e) (L0 _) ?_,rfl,q _ hf⟩
 exact⟨z,us,r,⟨_,Mu _ rfl,rfl,_,rfl⟩⟩
theorem bI(h:PA X es t):PE X (.List es pos) (cW t):=by
 intro pins s σ H Q I hq
 refine wpAny_List_spliced (ck (h pos pins s σ H _ I hq) fun us s1 ⟨xs,H1,I1,r,z,q⟩=>⟨by rw[<-r.length];exact z,?_⟩)
 have hf:H1 s1.heap.objs.size=none:=I1.hok.fresh (L0 _)
 refine⟨.ref s1.heap.objs.size,upd H1 s1.heap.objs.size (.lst xs),I1.laid (t':=s1.toks) (fun b u e=>Mq _ e) (L0 _) ?_,rfl,q _ hf⟩
 exact⟨z,us,0,r,Mu _ rfl⟩
end
noncomputable abbrev Sp:=List V->Hp->VK->XK->Prop
noncomputable abbrev El:=List Mo->Hp->LN->XK->LM->LN->Prop
structure BN(P:L5)(w:LZ)(K:LO)(mg:LK->Option LM)(base:LV)(A:Mb)(outer:List Mo)(s:LN)(H:Hp):Prop where
 frames:A.frames=some outer
 mod:Mod K mg base
 bs:∀b o,base.get? b=some o->s.heap.get? b=some o/\H b=none
 bsz:base.objs.size<=s.heap.objs.size
 funs:s.heap.FunFrames base outer
 frf:∀b∈xO outer,H b=none
 hok:mZ P w H s.heap
 bare:N2 s.gens
noncomputable def CE(outer:List Mo)(P:L5)(w:LZ)(H:Hp)(s:LN)(Q:VK)(u:LM)(s':LN):Prop:=
 ∃v H',s'.os=s.os/\N2 s'.gens/\Un (xO outer) [] H H' s.heap s'.heap/\mZ P w H' s'.heap/\RelV v u/\Q v H'
noncomputable def CR(CX:El)(outer:List Mo)(P:L5)(w:LZ)(H:Hp)(s:LN)(Q:VK)(E:XK)(r:Result)(s':LN):Prop:=
 match r with
 |.ok (.ret u)=>CE outer P w H s Q u s'
 |.ok _=>False
 |.error e=>CX outer H s E e s'
structure k8(P:L5)(w:LZ)(K:LO)(mg:LK->Option LM)(base:LV)(CX:El)(k:Nat)(f:LL)(fd:Nv)(ps:List LK)(sp:Sp):Prop where
 len:∀vs H Q E,sp vs H Q E->vs.length=ps.length
 run:∀(A:Mb)(outer:List Mo)(s:LN)(H:Hp)(args:Args)(us:List LM)(vs:List V)(Q:VK)(E:XK),cS k A->BN P w K mg base A outer s H->BindsTo s fd args (ps.zip us)->bF vs us->sp vs H Q E->
  NL (model P w) A (.call (.ref f) args) (CR CX outer P w H s Q E) s
theorem BN.make{P:L5}{w:LZ}{K:LO}{mg:LK->Option LM}{base:LV}{A:Mb}{outer:List Mo}{s:LN}{H:Hp}(e:BN P w K mg base A outer s H)(C:LL)(us:List LM)(kw:List (LK×LM)):
  BN P w K mg base (A.under (.builtin "type.__call__" ⟨.ref C::us,kw⟩)) outer s H:=⟨by first|exact e.frames|(simpa[RG,Code.envs,RD,pushEnvs]using e.frames),e.mod,e.bs,e.bsz,e.funs,e.frf,e.hok,e.bare⟩
section
variable {X:Cx}{pins:List (LL×LS)}{σ:St}{H:Hp}{s s':LN}
theorem Inv.env0(I:Inv X pins σ H s):BN X.prog X.w X.K X.mg X.base X.A X.stack s H:=
 ⟨I.ok.frames,I.ok.mod,I.bs,Ma I.ok.bsz I.sz,I.stack,I.stkFree,I.hok,I.bare⟩
theorem Inv.after{Q:VK}{u:LM}(I:Inv X pins σ H s)(h:CE X.stack X.prog X.w H s Q u s'):EP X pins σ Q u s':=by
 obtain⟨v,H',os,bare,un,hok,r,q⟩:=h
 obtain⟨hh,g,d,t,os'⟩:=s'
 obtain rfl:os'=s.os:=os
 exact⟨v,H',I.call (h':=hh) (g':=g) (d':=d) (t':=t) (ch:=[]) un hok bare (fun b z=>absurd z (by simp)),r,q⟩
end
noncomputable def a9(sp:Sp)(dvs:List V)(E:XK)(t:TA):TE:=fun σ H Q=>t σ H fun vs H1=>sp (vs++dvs) H1 Q E
noncomputable def b9(C:LL)(m:LK)(sp:Sp)(dvs:List V)(E:XK)(ta:TE)(t:TA):TE:=fun σ H Q=>ta σ H fun x H1=>∃a dx fs,x=.ref a/\H1 a=some (.ins C dx fs)/\fs.lookup m=none/\
 t σ H1 fun vs H2=>sp (x::(vs++dvs)) H2 Q E
noncomputable def CB(C:LL)(sp:Sp)(dvs:List V)(E:XK)(t:TA):TE:=fun σ H Q=>t σ H fun vs H1=>∀x dx,H1 x=none->H1 dx=none->dx≠x->
 sp (.ref x::(vs++dvs)) (upd (upd H1 dx (.own x)) x (.ins C dx [])) (fun v H2=>v=.non/\Q (.ref x) H2) E
noncomputable def Binds(K:LO)(fd:Nv)(ps:List LK)(ds:List LM):Prop:=
 ∀(s:LN)(us:List LM),K.In s.heap->(us++ds).length=ps.length->BindsTo s fd ⟨us,[]⟩ (ps.zip (us++ds))
theorem Binds.all{K:LO}{fd:Nv}{ps:List LK}(h:∀us:List LM,us.length=ps.length->bindArgs fd ⟨us,[]⟩=pure (ps.zip us)):Binds K fd ps []:=fun s us _ hl=>by
 rw[O8]at hl ⊢
 exact .of_eq (h us hl)
noncomputable def j7(CX:El)(X:Cx)(E:XK):Prop:=∀(pins:List (LL×LS))(σ:St)(H:Hp)(s:LN)(e:LM)(s':LN),Inv X pins σ H s->CX X.stack H s E e s'->X.xe e s'
section
variable {X:Cx}{CX:El}{k:Nat}{f C:LL}{fd:Nv}{ps:List LK}{sp:Sp}{dvs:List V}{ds:List LM}{E:XK}{x m:LK}{p pos apos:L8}{e o:LU}{es:List LU}{ta:TE}{t:TA}
theorem AW{pins:List (LL×LS)}{σ:St}{H:Hp}{s:LN}{Q:VK}{us:List LM}{vs:List V}(F:k8 X.prog X.w X.K X.mg X.base CX k f fd ps sp)(hr:cS k X.A)(hb:Binds X.K fd ps ds)(hd:bF dvs ds)(hx:j7 CX X E)
  (I:Inv X pins σ H s) (r:bF vs us) (h:sp (vs++dvs) H Q E):LP (model X.prog X.w) X.A (call (.ref f) us) (EP X pins σ Q) X.xe s:=by
 have r2:bF (vs++dvs) (us++ds):=r.append hd
 have hl:(us++ds).length=ps.length:=by rw[<-r2.length];exact F.len _ _ _ _ h
 refine wpAny_call (codeAny_mono (F.run X.A X.stack s H ⟨us,[]⟩ (us++ds) (vs++dvs) Q E hr I.env0 (hb s us I.kIn hl) r2 h) fun r s' hq=>?_)
 cases r with
 |error e=>exact hx pins σ H s e s' I hq
 |ok fl=>
  cases fl with
  |ret u=>exact I.after hq
  |next=>exact Nc hq
  |brk=>exact Nc hq
  |cont=>exact Nc hq
theorem yG(F:k8 X.prog X.w X.K X.mg X.base CX k f fd ps sp)(hr:cS k X.A)(hg:Gl X x)(hm:X.mg x=some (.ref f))(hk:NK X.K (.ref f)=true)(hb:Binds X.K fd ps ds)(hd:bF dvs ds)(hx:j7 CX X E)
  (ha:PA X (e::es) t) (hdb:(x==("__debug__":LK))=false:=by decide) (he:L6 (e::es) X.env=(false,eval e X.env)::L6 es X.env:=by rfl) (hpl:(MA pos (L6 es X.env)).any (·.1)=false:=by rfl):
  PE X (.Call (.Name x p) (e::es) [] pos) (a9 sp dvs E t):=by
 intro pins s σ H Q I h
 refine Pu (mM I hg hm ?_ hdb)
 refine Rb (h₀:=X.base) I.ok.mod.kin hk (ck (ha pos pins s σ H _ I h) fun us s1 ⟨vs,H1,I1,r,q⟩=>⟨I1.kIn,?_⟩) he hpl
 exact AW F hr hb hd hx I1 r q
theorem yA{pl:Sem Bool}(he:PE X o ta)(c:jb X.K C)(hm:C2 X.K C m f)(F:k8 X.prog X.w X.K X.mg X.base CX k f fd ps sp)(hr:cS k X.A)(hb:Binds X.K fd ps ds)(hd:bF dvs ds)(hx:j7 CX X E)(ha:PA X (e::es) t)
  (hst:L6 (e::es) X.env=(false,eval e X.env)::L6 es X.env:=by rfl) (hpl:(MA pos (L6 es X.env)).any (·.1)=false:=by rfl)
  (ht:eval (.Call (.Attribute o m apos) (e::es) [] pos) X.env=(do
   let ov <-eval o X.env
   standAt apos.atName
   let (f,first) <-holding [ov] (Og ov m pl)
   callWith pos f first (MA pos (L6 (e::es) X.env)) (NZ pos (NT [] X.env))):=by rfl):
  PE X (.Call (.Attribute o m apos) (e::es) [] pos) (b9 C m sp dvs E ta t):=by
 intro pins s σ H Q I h
 refine QF (pl:=pl) (ck (he pins s σ H _ I h) fun u s1 ⟨x,H1,I1,rx,a,dx,fs,ex,ea,l,q⟩=>?_) ht
 subst ex
 obtain rfl:u=Mj a:=rx
 refine oq I1 ea c hm l ?_
 refine Rb (first:=[.ref a]) (h₀:=X.base) I.ok.mod.kin hm.kp (ck (ha pos pins s1 σ H1 _ I1 q) fun us s2 ⟨vs,H2,I2,r,q2⟩=>⟨I2.kIn,?_⟩) hst hpl
 exact AW (us:=.ref a::us) (vs:=.ref a::vs) F hr hb hd hx I2 (.cons rfl r) q2
theorem EH{pl:Sem Bool}(he:PE X o ta)(c:jb X.K C)(hm:C2 X.K C m f)(F:k8 X.prog X.w X.K X.mg X.base CX k f fd ps sp)(hr:cS k X.A)(hb:Binds X.K fd ps ds)(hd:bF dvs ds)(hx:j7 CX X E)
  (ht:eval (.Call (.Attribute o m apos) [] [] pos) X.env=(do
   let ov <-eval o X.env
   standAt apos.atName
   let (f,first) <-holding [ov] (Og ov m pl)
   callWith pos f first (MA pos (L6 [] X.env)) (NZ pos (NT [] X.env))):=by rfl):
  PE X (.Call (.Attribute o m apos) [] [] pos) (b9 C m sp dvs E ta ay):=by
 intro pins s σ H Q I h
 refine QF (pl:=pl) (ck (he pins s σ H _ I h) fun u s1 ⟨x,H1,I1,rx,a,dx,fs,ex,ea,l,q⟩=>?_) ht
 subst ex
 obtain rfl:u=Mj a:=rx
 refine oq I1 ea c hm l ?_
 exact RW (first:=[.ref a]) I1.kIn hm.kp (AW (us:=[.ref a]) (vs:=[.ref a]) F hr hb hd hx I1 (.cons rfl .nil) q)
structure Mk(K:LO)(C f:LL):Prop where
 makes:P4 K C=true
 init:M2 K (.ref C) "__init__"=some (some (.ref f))
 fn:Qd K (.ref f)=true
 kp:NK K (.ref C)=true
theorem Es{pins:List (LL×LS)}{σ:St}{H:Hp}{s:LN}{Q:VK}{us:List LM}{vs:List V}(M:Mk X.K C f)(F:k8 X.prog X.w X.K X.mg X.base CX k f fd ps sp)(hr:cS (k+1) X.A)(hb:Binds X.K fd ps ds)(hd:bF dvs ds)
  (hx:j7 CX X E) (I:Inv X pins σ H s) (r:bF vs us)
  (h:∀x dx,H x=none->H dx=none->dx≠x->sp (.ref x::(vs++dvs)) (upd (upd H dx (.own x)) x (.ins C dx [])) (fun v H2=>v=.non/\Q (.ref x) H2) E):
  LP (model X.prog X.w) X.A (call (.ref C) us) (EP X pins σ Q) X.xe s:=by
 have hq:=h (s.heap.objs.size+1) s.heap.objs.size (I.hok.fresh (Nq _)) (I.hok.fresh (L0 _)) (Ms (P6 _))
 have I2:=Inv.made (C:=C) I
 have r2:bF (V.ref (s.heap.objs.size+1)::(vs++dvs)) (Mj (s.heap.objs.size+1)::(us++ds)):=.cons rfl (r.append hd)
 have hl:(Mj (s.heap.objs.size+1)::us++ds).length=ps.length:=by
  have e:=r2.length
  rw[F.len _ _ _ _ hq]at e
  exact e.symm
 refine wpAny_call (Ez (f:=f) I.kIn M.makes M.init (beq_iff_eq.mp M.fn) (codeAny_mono (F.run _ X.stack _ _ ⟨Mj (s.heap.objs.size+1)::us,[]⟩ (Mj (s.heap.objs.size+1)::(us++ds)) _ _ E (hr.make C us [])
  (I2.env0.make C us []) (hb _ (Mj (s.heap.objs.size+1)::us) I2.kIn hl) r2 hq) fun r s' hq'=>?_))
 cases r with
 |error e=>exact hx pins σ _ _ e s' I2 hq'
 |ok fl=>
  cases fl with
  |ret u=>
   obtain⟨v,H',I3,rv,ev,q3⟩:=I2.after hq'
   subst ev
   exact⟨rv,⟨V.ref (s.heap.objs.size+1),H',I3,rfl,q3⟩⟩
  |next=>exact Nc hq'
  |brk=>exact Nc hq'
  |cont=>exact Nc hq'
theorem EN(M:Mk X.K C f)(F:k8 X.prog X.w X.K X.mg X.base CX k f fd ps sp)(hr:cS (k+1) X.A)(hg:Gl X x)(hm:X.mg x=some (.ref C))(hb:Binds X.K fd ps ds)(hd:bF dvs ds)(hx:j7 CX X E)
  (hdb:(x==("__debug__":LK))=false:=by decide):PE X (.Call (.Name x p) [] [] pos) (CB C sp dvs E ay):=by
 intro pins s σ H Q I h
 refine Pu (mM I hg hm ?_ hdb)
 exact RW I.kIn M.kp (Es (us:=[]) M F hr hb hd hx I .nil h)
end
section
variable {X:Cx}{CX:El}{k:Nat}{f C:LL}{fd:Nv}{ps ks:List LK}{sp:Sp}{E:XK}{x m:LK}{p pos apos kpos:L8}{e o:LU}{es:List LU}{kws:List Keyword}{te ta:TE}{t tk:TA}{nm:Option LK}
variable {g:List LM->List LM->List LM}{gV:List V->List V->List V}
end
structure aG(N P:List LK)(sc:MP):Prop where
 kind:sc.kind=.function
 co:sc.isCoroutine=false
 gen:sc.isGenerator=false
 nd:N.Nodup
 pre:N.take P.length=P
 par:∀x∈P,sc.names.lookup x=some .local\/sc.names.lookup x=some .cell
 nofree:∀y∈sc.names,y.2≠.free
theorem wI{Nj:LK->Option MZ}{x:LK}:∀{binds:List (LK×LM)}{m:LK->Option LM},(∀v,(x,v)∉binds)->bindL Nj binds m x=m x
 |[],_,_=>rfl
 |(n,v)::r,m,h=>by
  unfold bindL
  rw[wI fun w hw=>h w (MU _ hw)]
  split
  ·have:x≠n:=by rintro rfl;exact h v Nd
   simp[this]
  ·rfl
theorem xw{Nj:LK->Option MZ}{x:LK}:∀{binds:List (LK×LM)}{m:LK->Option LM},(∀v,(x,v)∉binds)->bindC Nj binds m x=m x
 |[],_,_=>rfl
 |(n,v)::r,m,h=>by
  unfold bindC
  rw[xw fun w hw=>h w (MU _ hw)]
  split
  ·rfl
  ·have:x≠n:=by rintro rfl;exact h v Nd
   simp[this]
theorem xj{Nj:LK->Option MZ}{x:LK}{v:LM}:∀{P:List LK}{vs:List LM}{i:Nat}{m:LK->Option LM},P.Nodup->P[i]?=some x->vs[i]?=some v->Nj x=some .local->
  bindL Nj (P.zip vs) m x=some v
 |[],_,_,_,_,h,_,_=>by simp at h
 |_::_,[],_,_,_,_,h,_=>by simp at h
 |p::P,w::vs,0,m,nd,h1,h2,hk=>by
  simp at h1 h2;subst h1;subst h2
  show bindL Nj ((p,w)::P.zip vs) m p=_
  unfold bindL
  rw[wI fun v hv=>(MJ.mp nd).1 (Q4 hv).1,if_pos hk]
  simp
 |p::P,w::vs,i+1,m,nd,h1,h2,hk=>by
  show bindL Nj ((p,w)::P.zip vs) m x=_
  unfold bindL
  exact xj (i:=i) (MJ.mp nd).2 (by simpa using h1) (by simpa using h2) hk
theorem xy{Nj:LK->Option MZ}{x:LK}{v:LM}:∀{P:List LK}{vs:List LM}{i:Nat}{m:LK->Option LM},P.Nodup->P[i]?=some x->vs[i]?=some v->Nj x≠some .local->
  bindC Nj (P.zip vs) m x=some v
 |[],_,_,_,_,h,_,_=>by simp at h
 |_::_,[],_,_,_,_,h,_=>by simp at h
 |p::P,w::vs,0,m,nd,h1,h2,hk=>by
  simp at h1 h2;subst h1;subst h2
  show bindC Nj ((p,w)::P.zip vs) m p=_
  unfold bindC
  rw[xw fun v hv=>(MJ.mp nd).1 (Q4 hv).1,if_neg hk]
  simp
 |p::P,w::vs,i+1,m,nd,h1,h2,hk=>by
  show bindC Nj ((p,w)::P.zip vs) m x=_
  unfold bindC
  exact xy (i:=i) (MJ.mp nd).2 (by simpa using h1) (by simpa using h2) hk
noncomputable def start(N:List LK)(vs:List V):St:=vs.map some++Qf (N.length-vs.length) none
noncomputable def cj(CX:El)(P:L5)(w:LZ)(K:LO)(mg:LK->Option LM)(base:LV)(N:List LK)(qual:LK)(scope:MP)(f:LL)(cd:LM)(A:Mb)(outer:List Mo)(s:LN)(H:Hp)(E:XK):Cx where
 prog:=P
 w:=w
 K:=K
 mg:=mg
 base:=base
 A:=A.deeper (MY qual scope s.heap.objs.size f cd)
 N:=N
 s₀:=s
 H₀:=H
 env:=MY qual scope s.heap.objs.size f cd
 outer:=outer
 stack:=MY qual scope s.heap.objs.size f cd::outer
 ex:=[]
 calm:=true
 fn:=fun _=>true
 pn:=[]
 xe:=fun e s'=>LP (model P w) (A.deeper (MY qual scope s.heap.objs.size f cd)) (leaving (MY qual scope s.heap.objs.size f cd) e) (fun _ s''=>CX outer H s E e s'') (fun e' s''=>CX outer H s E e' s'') s'
theorem zE{sc:MP}{n:Nat}{x:LK}(h:sc.names.lookup x=some .cell):∃c,(MT n sc.names []).lookup x=some c:=by
 have q:=Th sc.names n [] (.inl h)
 exact Rp.mp q
theorem DM{CX:El}{P:L5}{w:LZ}{K:LO}{mg:LK->Option LM}{base:LV}{N ps:List LK}{qual:LK}{scope:MP}{f:LL}{cd:LM}{A:Mb}{outer:List Mo}{s s1:LN}{H:Hp}{E:XK}{us:List LM}{vs:List V}
  (S:aG N ps scope) (hd:A.handled=none) (e0:BN P w K mg base A outer s H) (hl:vs.length=ps.length) (r:bF vs us)
  (x:InCallC s s.heap.objs.size (bindL (MY qual scope s.heap.objs.size f cd).kindOf (ps.zip us) fun _=>none) (MT (s.heap.objs.size+1) scope.names []) (bindC (MY qual scope s.heap.objs.size f cd).kindOf (ps.zip us) fun _=>none) s1):
  Inv (cj CX P w K mg base N qual scope f cd A outer s H E) [] (start N vs) H s1:=by
 have hpl:ps.length<=N.length:=by have:=congrArg OQ S.pre;rw[MS]at this;omega
 obtain⟨h1,tk,rfl,hk⟩:=x.done
 have noA:∀b:LL,b∉(cj CX P w K mg base N qual scope f cd A outer s H E).ex:=fun b z=>absurd (show b∈([]:List LL)from z) (by simp)
 refine⟨⟨e0.mod,S.kind,rfl,rfl,L0 _,fun y z c h1 h2=>?_,fun y hy=>?_,fun y c _ h=>?_,fun _=>hd,Around.frames_deeper e0.frames,.inr ⟨rfl,rfl⟩,fun b z=>absurd z (noA b),e0.bs,e0.bsz,fun b _ _=>noA b,fun b z=>absurd z (noA b),e0.funs,e0.frf⟩,
  rfl,e0.bare,Un.kept hk,⟨_,x.toInCall.ns,fun i y v h1 h2 h3=>?_⟩,fun y c h=>⟨_,x.cell y c h⟩,e0.hok.fresh (L0 _),fun y c h=>?_,fun p hp=>absurd (show p∈([]:List (LL×LS))from hp) (by simp),e0.hok.kept hk,?_⟩
 ·exact name_of_addr x.apart (Px h1) (Px h2)
 ·have hy:scope.names.lookup y=some .cell\/scope.names.lookup y=some .free:=hy
  rcases hy with hy|hy
  ·exact zE hy
  ·exact absurd rfl (S.nofree _ (Px hy))
 ·exact NU (x.above y c (Px h))
 ·have hi:i<vs.length:=by
   unfold start at h2
   by_cases hi:i<vs.length
   ·exact hi
   ·rw[Oa (by simpa using hi)]at h2
    rw[List.getElem?_replicate]at h2
    split at h2<;>cases h2
  have ha:vs[i]?=some v:=by
   unfold start at h2
   rw[N4 (by simpa using hi),MO]at h2
   cases e:vs[i]? with
   |none=>rw[e]at h2;cases h2
   |some a=>rw[e]at h2;cases h2;rfl
  obtain⟨u,hu,rv⟩:=r.get ha
  have hp:ps[i]?=some y:=by
   rw[<-S.pre,R3 (by omega)];exact h1
  have ndP:ps.Nodup:=by rw[<-S.pre];exact S.nd.sublist (List.take_sublist _ _)
  exists u,rv
  rcases S.par y (Nr hp)with k|k
  ·exact .inl ⟨k,xj ndP hp hu k⟩
  ·obtain⟨c,e⟩:=zE (n:=s.heap.objs.size+1) k
   refine .inr ⟨.inl k,c,e,?_⟩
   have q:=x.cell y c e
   rw[xy ndP hp hu (by show scope.names.lookup y≠_;rw[k];decide)]at q
   exact q
 ·exact e0.hok.fresh (NU (x.above y c (Px h)))
 ·unfold start
  show _=N.length
  rw[MR,Md,List.length_replicate]
  omega
theorem HM{CX:El}{P:L5}{w:LZ}{K:LO}{mg:LK->Option LM}{base:LV}{k:Nat}{f:LL}{name qual:LK}{params:Arguments}{body:List LX}{scope:MP}{dV kV doc pm cdv ct oc:LM}{an od:Option LL}
  {osl:Array (Option LM)}{N ps:List LK}{sp:Sp} (lk:K.lookup f=some ⟨oc,od,.func (N8 name qual params body scope dV kV doc pm an cdv ct),osl⟩) (hcd:PQ K cdv qual=true) (S:aG N ps scope)
  (len:∀vs H Q E,sp vs H Q E->vs.length=ps.length)
  (hbody:∀(A:Mb)(outer:List Mo)(s:LN)(H:Hp)(vs:List V)(Q:VK)(E:XK),cS k (A.deeper (MY qual scope s.heap.objs.size f cdv))->sp vs H Q E->
   ∃t,vm (cj CX P w K mg base N qual scope f cdv A outer s H E) body t/\t {nx:=fun _ H'=>Q .non H',rt:=Q} (start N vs) H):
  k8 P w K mg base CX (k+1) f (N8 name qual params body scope dV kV doc pm an cdv ct) ps sp:=by
 refine⟨len,fun A outer s H args us vs Q E hr e0 hb r hsp=>?_⟩
 have hl:=len _ _ _ _ hsp
 have KX:K.In s.heap:=e0.mod.kin.keeps fun b o e=>(e0.bs b o e).1
 have lim:s.heap.NoLimit:=e0.mod.nolimit.keeps fun b o e=>(e0.bs b o e).1
 have hkind:∀y∈ps.zip us,scope.names.lookup y.1=some .local\/(scope.names.lookup y.1=some .cell/\((MT (s.heap.objs.size+1) scope.names []).lookup y.1).isSome=true):=fun ⟨n,v⟩ hy=>by
  rcases S.par n (Q4 hy).1 with q|q
  ·exact .inl q
  ·exact .inr ⟨q,Th _ _ _ (.inl q)⟩
 refine codeAny_call_function hr.depth (KX _ _ lk) rfl S.co S.gen rfl (VN KX hcd) (hb _ _ _ _ ?_)
 refine wpAny_newFunctionEnv_cells S.kind hkind fun env he s1 x=>?_
 subst he
 refine⟨lim.keeps x.toInCall.keep,codeAny_func ?_⟩
 obtain⟨t,ht,hq⟩:=hbody A outer s H vs Q E (hr.deeper _) hsp
 have I:Inv (cj CX P w K mg base N qual scope f cdv A outer s H E) [] (start N vs) H s1:=DM S hr.hd e0 hl r x
 refine M3 (ht [] s1 (start N vs) H _ I hq) (fun fl s' hs=>?_) fun e s' hs=>hs
 have fin:∀{σ':St}{H':Hp}{v:V}{u:LM},Inv (cj CX P w K mg base N qual scope f cdv A outer s H E) [] σ' H' s'->RelV v u->Q v H'->CE outer P w H s Q u s':=
  fun {σ' H' v u} J rv q=>⟨v,H',J.os,J.bare,J.base,J.hok,rv,q⟩
 cases fl with
 |ret u=>
  obtain⟨v,σ',H',J,rv,q⟩:=hs
  exact fin J rv q
 |next=>
  obtain⟨σ',H',J,q⟩:=hs
  exact fin (v:=V.non) (u:=M5) J rfl q
 |brk=>
  obtain⟨_,_,_,q⟩:=hs
  exact Nc q
 |cont=>
  obtain⟨_,_,_,q⟩:=hs
  exact Nc q
section
variable {X:Cx}{x:LK}{p pos:L8}{e:LU}{es:List LU}{t:TA}{id T:String}{r:List V->Hp->VK->Prop}
noncomputable def gs(r:List V->Hp->VK->Prop)(t:TA):TE:=fun σ H Q=>t σ H fun vs H1=>r vs H1 Q
theorem a8(hc:eu X (.builtin id) r)(hg:Gl X x)(hm:X.mg x=none)(hv:O2 x=some (.builtin id))(ha:PA X (e::es) t)(hn:x≠"__name__":=by decide)(hdb:(x==("__debug__":LK))=false:=by decide)
  (he:L6 (e::es) X.env=(false,eval e X.env)::L6 es X.env:=by rfl) (hpl:(MA pos (L6 es X.env)).any (·.1)=false:=by rfl):PE X (.Call (.Name x p) (e::es) [] pos) (gs r t):=by
 intro pins s σ H Q I h
 refine Pu (jx I hg hm hv ?_ hn hdb)
 exact U4 (ck (ha pos pins s σ H _ I h) fun us s1 ⟨vs,H1,I1,r1,q1⟩=>hc pins s1 σ H1 vs us Q I1 r1 q1) he hpl
theorem c9(hc:eu X (.type T) r)(hg:Gl X x)(hm:X.mg x=none)(hv:O2 x=some (.type T))(ha:PA X (e::es) t)(hn:x≠"__name__":=by decide)(hdb:(x==("__debug__":LK))=false:=by decide)
  (he:L6 (e::es) X.env=(false,eval e X.env)::L6 es X.env:=by rfl) (hpl:(MA pos (L6 es X.env)).any (·.1)=false:=by rfl):PE X (.Call (.Name x p) (e::es) [] pos) (gs r t):=by
 intro pins s σ H Q I h
 refine Pu (jx I hg hm hv ?_ hn hdb)
 exact OC (ck (ha pos pins s σ H _ I h) fun us s1 ⟨vs,H1,I1,r1,q1⟩=>hc pins s1 σ H1 vs us Q I1 r1 q1) he hpl
end
end L2
namespace HT
open PySem PyProof.Rows
section
open PySem.SeqAt
open PySem.AutoSeq1 (wpAny_loadPart')
open PySem.MeetsSeq PySem.MeetsSeq2 PySem.MeetsSeq3
end
section
variable {prog:L5}{w:LZ}{A:Mb}{E:LM->LN->Prop}{s:LN}
noncomputable def vC(n d:Nat):Option Int->Nat
 |none=>d
 |some v=>if v<0 then(v+(n:Int)).toNat else min v.toNat n
theorem Fc(n d:Nat):vC n d none=d:=rfl
theorem sP(n d k:Nat):vC n d (some (k:Int))=min k n:=by
 show(if(k:Int)<0 then((k:Int)+(n:Int)).toNat else min (k:Int).toNat n)=min k n
 rw[if_neg (by omega),QN]
end
end HT
namespace L2
open PySem PySem.Spec PyProof.Rows
noncomputable abbrev TO:=St->Hp->(Option Int->Hp->Prop)->Prop
noncomputable def PO(X:Cx)(e:Option LU)(t:TO):Prop:=
 ∀(pins:List (LL×LS))(s:LN)(σ:St)(H:Hp)(Q:Option Int->Hp->Prop),Inv X pins σ H s->t σ H Q->
  LP (model X.prog X.w) X.A (evalPart e X.env) (fun u s'=>∃o H',Inv X pins σ H' s'/\IsPart u o/\Q o H') X.xe s
noncomputable def dm:TO:=fun _ H Q=>Q none H
noncomputable def ff(t:TE):TO:=fun σ H Q=>t σ H fun x H1=>∃i,x=.int i/\Q (some i) H1
theorem intsAre_of{ns:List Int}:∀{us:List LM},bF (ns.map V.int) us->OB us ns:=by
 induction ns with
 |nil=>intro us r;rw[Pl]at r;cases r;exact .nil
 |cons n ns ih=>
  intro us r
  rw[MQ]at r
  cases r with
  |cons r1 r2=>
   obtain⟨t,e⟩:=r1
   subst e
   exact .cons n t (ih r2)
section
variable {X:Cx}{e:LU}{te:TE}{lo hi:Option LU}{tl th:TO}{pos p2:L8}
theorem gd:PO X none dm:=by
 intro pins s σ H Q I h
 rw[evalPart_none]
 exact Mc ⟨none,H,I,.none,h⟩
theorem dE(h:PE X e te):PO X (some e) (ff te):=by
 intro pins s σ H Q I hw
 rw[evalPart_some]
 refine ck (h pins s σ H _ I hw) fun u s1 ⟨x,H1,I1,r1,q1⟩=>?_
 obtain⟨i,rfl,q⟩:=q1
 obtain⟨t,rfl⟩:=r1
 exact⟨some i,H1,I1,.int i t,q⟩
noncomputable def Lx(X:Cx)(r:V->Option Int->Option Int->Hp->VK->Prop):Prop:=
 ∀(pins:List (LL×LS))(s:LN)(σ:St)(H:Hp)(x:V)(v vl vu:LM)(lo hi:Option Int)(sl:LL)(Q:VK),Inv X pins σ H s->RelV x v->s.heap.IsSliceOf sl vl vu .none->IsPart vl lo->IsPart vu hi->r x lo hi H Q->
  ∃T id,Pt (.type T) "__getitem__"=pure (some (.builtin id))/\s.TypeIs v T/\LP (model X.prog X.w) X.A (getItem v (.ref sl)) (EP X pins σ Q) X.xe s
noncomputable def zB(r:V->Option Int->Option Int->Hp->VK->Prop)(te:TE)(tl th:TO):TE:=fun σ H Q=>te σ H fun x H1=>tl σ H1 fun l H2=>th σ H2 fun u H3=>r x l u H3 Q
theorem dv{r:V->Option Int->Option Int->Hp->VK->Prop}(hr:Lx X r)(he:PE X e te)(hl:PO X lo tl)(hu:PO X hi th):PE X (.Subscript e (.Slice lo hi none p2) pos) (zB r te tl th):=by
 intro pins s σ H Q I h
 refine Subscript_ (ck (he pins s σ H _ I h) fun v s1 ⟨x,H1,I1,r1,q1⟩=>?_)
 refine wpAny_Slice (ck (hl pins s1 σ H1 _ I1 q1) fun vl s2 ⟨l,H2,I2,pl,q2⟩=>ck (hu pins s2 σ H2 _ I2 q2) fun vu s3 ⟨u,H3,I3,pu,q3⟩=>?_)
 rw[evalPart_none]
 refine Mc ?_
 have I4:Inv X pins σ H3 {s3 with heap:=s3.heap.push {cls:=.type "slice",data:=.fields #[vl,vu,.none]}}:=I3.kept (t':=s3.toks) fun b ob q=>Mq _ q
 obtain⟨T,id,hT,ht,hg⟩:=hr pins {s3 with heap:=s3.heap.push {cls:=.type "slice",data:=.fields #[vl,vu,.none]}} σ H3 x v vl vu l u s3.heap.objs.size Q I4 r1 (Vz ..) pl pu q3
 show LP (model X.prog X.w) X.A (subscriptTail e (.Slice lo hi none p2) v (.ref s3.heap.objs.size)) (EP X pins σ Q) X.xe {s3 with heap:=s3.heap.push {cls:=.type "slice",data:=.fields #[vl,vu,.none]}}
 exact tail_any (ops:=[.ref s3.heap.objs.size,v]) ht hT hg (by with_unfolding_all rfl)
noncomputable def ng(xs:List V)(lo hi:Option Int):List V:=(xs.drop (HT.vC xs.length 0 lo)).take (HT.vC xs.length xs.length hi-HT.vC xs.length 0 lo)
theorem zl(xs:List V)(lo hi:Option Int):(ng xs lo hi).length<=xs.length:=by
 unfold ng
 rw[MS,Oh]
 omega
end
noncomputable def HJ(n:Nat)(i:Int):Option Nat:=if 0<=i then(if i<n then some i.toNat else none)else if -(n:Int)<=i then some (i+n).toNat else none
noncomputable def Cm{α:Type}(xs:List α)(i:Int):Option α:=(HJ xs.length i).bind fun j=>xs[j]?
theorem Cs{n:Nat}{i:Int}{j:Nat}(h:HJ n i=some j):seqIndex? i n=some j/\j<n/\-(n:Int)<=i/\i<n:=by
 unfold HJ at h
 by_cases h0:0<=i
 ·rw[if_pos h0]at h
  by_cases h1:i<n
  ·rw[if_pos h1]at h
   have e:i.toNat=j:=MB h
   exact⟨by rw[seqIndex_of h0 h1,e],by omega,by omega,h1⟩
  ·rw[if_neg h1]at h;cases h
 ·rw[if_neg h0]at h
  by_cases h1:-(n:Int)<=i
  ·rw[if_pos h1]at h
   have e:(i+n).toNat=j:=MB h
   exact⟨by rw[seqIndex_neg (by omega) h1,e],by omega,h1,by omega⟩
  ·rw[if_neg h1]at h;cases h
theorem yM{α:Type}{xs:List α}{i:Int}{v:α}(h:Cm xs i=some v):∃j,seqIndex? i xs.length=some j/\xs[j]?=some v/\j<xs.length/\-(xs.length:Int)<=i/\i<xs.length:=by
 unfold Cm at h
 cases e:HJ xs.length i with
 |none=>rw[e]at h;cases h
 |some j=>
  rw[e]at h
  obtain⟨h1,h2,h3,h4⟩:=Cs e
  exact⟨j,h1,h,h2,h3,h4⟩
theorem az{α:Type}{xs:List α}{j:Nat}{v:α}(h:xs[j]?=some v):Cm xs (j:Int)=some v:=by
 have hj:j<xs.length:=(Mx.mp h).1
 have e:HJ xs.length (j:Int)=some j:=by
  unfold HJ
  rw[if_pos (by omega),if_pos (by omega)];simp
 unfold Cm;rw[e];exact h
noncomputable def G5(b:LU):Prop:=∀o i,subscripted b false o i=operate [o,i] (getItem o i)
noncomputable def K5(X:Cx)(r:R2):Prop:=
 ∀(value slice:LU)(pins:List (LL×LS))(s:LN)(σ:St)(H:Hp)(x y:V)(v u:LM)(Q:VK),Inv X pins σ H s->RelV x v->RelV y u->r x y H Q->
  subscripted slice false v u=operate [v,u] (getItem v u)->LP (model X.prog X.w) X.A (subscriptTail value slice v u) (EP X pins σ Q) X.xe s
noncomputable def K9(X:Cx)(id:String)(r:V->List V->Hp->VK->Prop):Prop:=
 ∀(pins:List (LL×LS))(s:LN)(σ:St)(H:Hp)(x:V)(xs:List V)(v:LM)(us:List LM)(Q:VK),Inv X pins σ H s->RelV x v->bF xs us->r x xs H Q->
  LP (model X.prog X.w) X.A (call (.builtin id) (v::us)) (EP X pins σ Q) X.xe s
section
variable {X:Cx}{a b:LU}{ta tb:TE}{pos:L8}
theorem aM{r:R2}(hr:K5 X r)(ha:PE X a ta)(hb:PE X b tb)(hs:G5 b):PE X (.Subscript a b pos) (aH r ta tb):=by
 intro pins s σ H Q I h
 exact Subscript_ (JJ ha hb I h fun v u s2 x y H2 I2 rx ry q=>hr a b pins s2 σ H2 x y v u Q I2 rx ry q (hs _ _))
noncomputable def bO(K:LO):R2:=fun x y H Q=>∃p xs i v,x=.ref p/\y=.int i/\aK K H p xs/\Cm xs i=some v/\Q v H
noncomputable def iY(K:LO):R2:=fun x y H Q=>∃p xs i v,x=.ref p/\y=.int i/\gf K H p xs/\Cm xs i=some v/\Q v H
noncomputable def Al:R2:=fun x y H Q=>∃z i c,x=.str z/\y=.int i/\z.length<=LW/\Cm z.cps.toList i=some c/\Q (.str ⟨#[c]⟩) H
theorem aE:K5 X (bO X.K):=by
 intro value slice pins s σ H x y v u Q I rx ry h hs
 obtain⟨p,xs,i,z,rfl,rfl,hq,he,q⟩:=h
 cases rx
 obtain⟨t,rfl⟩:=ry
 obtain⟨its,r,pl,hz⟩:=I.list hq
 obtain⟨j,h1,h2,h3,h4,h5⟩:=yM he
 obtain⟨w,ew,rw'⟩:=r.get h2
 have hl:=r.length
 have hn:=qd
 have fin:EP X pins σ Q w s:=⟨z,H,I,rw',q⟩
 by_cases h0:0<=i
 ·have hj:i.toNat=j:=by
   rw[seqIndex_of h0 h5]at h1
   exact MB h1
  exact item_listR pl.isList h0 (by omega) (by rw[hj];simpa using ew) fin hs
 ·have hj:(i+(its.toArray.size:Int)).toNat=j:=by
   rw[seqIndex_neg (by omega) h4]at h1
   rw[MC,<-hl]
   exact MB h1
  exact subscriptTail_builtinR (x:=w) pl.isList.typeIs slot_list_getitem.lookup
   (wpAny_getItem_list_neg (Q:=fun r s'=>r=w/\EP X pins σ Q r s') pl.isList (by omega) (by rw[MC]<;>omega) (by omega) (by rw[hj];simpa using ew) ⟨rfl,fin⟩) hs
theorem dn:K5 X (iY X.K):=by
 intro value slice pins s σ H x y v u Q I rx ry h hs
 obtain⟨p,xs,i,z,rfl,rfl,hq,he,q⟩:=h
 cases rx
 obtain⟨t,rfl⟩:=ry
 obtain⟨its,r,pl,hz⟩:=I.tuple hq
 obtain⟨j,h1,h2,h3,h4,h5⟩:=yM he
 obtain⟨w,ew,rw'⟩:=r.get h2
 have hl:=r.length
 have hn:=qd
 have fin:EP X pins σ Q w s:=⟨z,H,I,rw',q⟩
 exact subscriptTail_builtinR (x:=w) pl.typeIs slot_tuple_getitem.lookup
  (getItem_tuple (j:=j) (Q:=fun r s'=>r=w/\EP X pins σ Q r s') pl (by omega) (by omega) (by rw[MC,<-hl];exact h1) (by simpa using ew) ⟨rfl,fin⟩) hs
theorem ud:K5 X Al:=by
 intro value slice pins s σ H x y v u Q I rx ry h hs
 obtain⟨z,i,c,rfl,rfl,hz,he,q⟩:=h
 obtain⟨t,rfl⟩:=rx
 obtain⟨t',rfl⟩:=ry
 obtain⟨j,h1,h2,h3,h4,h5⟩:=yM he
 have hl:z.cps.toList.length=z.length:=by simp[SK]
 rw[hl]at h1 h4 h5
 have hn:=qd
 exact tail_any (typeIs_str s z t) slot_str_getitem.lookup (getItem_str (c:=c) (by
  have e1:decide (i < -(2 ^ 63:Int))=false:=decide_eq_false (by omega)
  have e2:decide (i≥2 ^ 63)=false:=decide_eq_false (by omega)
  rw[e1,e2,Bool.or_false]) (by rw[h1];simpa using h2) ⟨.str ⟨#[c]⟩,H,I.tok _,⟨_,rfl⟩,q⟩) hs
theorem B4(its:List LM)(n j:Nat)(u:LM):OL (·.setIfInBounds j u) {cls:=.type "list",data:=.seq its.toArray n}={cls:=.type "list",data:=.seq (its.set j u).toArray n}:=by
 simp[OL]
theorem Inv.lst{pins:List (LL×LS)}{σ:St}{H:Hp}{s:LN}{p:LL}{xs:List V}(I:Inv X pins σ H s)(h:H p=some (.lst xs)):
  ∃(its:List LM)(n:Nat),bF xs its/\s.heap.get? p=some {cls:=.type "list",data:=.seq its.toArray n}/\xs.length<=LW:=by
 obtain⟨z,its,n,r,e⟩:=I.hok p _ h
 exact⟨its,n,r,e,z⟩
theorem Inv.lstUpd{pins:List (LL×LS)}{σ:St}{H:Hp}{s:LN}{p:LL}{xs ys:List V}{its its':List LM}{n n':Nat}{f:LS->LS}(I:Inv X pins σ H s)(h:H p=some (.lst xs))
  (ho:s.heap.get? p=some {cls:=.type "list",data:=.seq its.toArray n}) (hf:f {cls:=.type "list",data:=.seq its.toArray n}={cls:=.type "list",data:=.seq its'.toArray n'}) (r:bF ys its') (hz:ys.length<=LW) (t:Nat):
  Inv X pins σ (upd H p (.lst ys)) {s with heap:=s.heap.update p f,toks:=t}:=by
 have e:(s.heap.update p f).get? p=some {cls:=.type "list",data:=.seq its'.toArray n'}:=by
  rw[Q2 f ho (by rw[hf]<;>rfl),hf]
 refine I.write (x:=p) (e:=p) (by rw[h];trivial) (.inl rfl) (fun b u hb q=>(N9 _ _ (Mm hb)).trans q) ⟨_,e⟩ ?_
 exact⟨hz,its',n',r,e⟩
noncomputable def FC:V->V->V->Hp->(Hp->Prop)->Prop:=fun o i v H Q=>∃p xs k j,o=.ref p/\i=.int k/\H p=some (.lst xs)/\HJ xs.length k=some j/\Q (upd H p (.lst (xs.set j v)))
theorem set_list:KC X FC:=by
 intro pins s σ H o i v ov iv u Q I ro ri rv h
 obtain⟨p,xs,k,j,rfl,rfl,hp,hj,q⟩:=h
 cases ro
 obtain⟨t,rfl⟩:=ri
 obtain⟨its,n,r,ho,hz⟩:=I.lst hp
 obtain⟨h1,h2,h3,h4⟩:=Cs hj
 have hl:=r.length
 have hn:=qd
 have I':Inv X pins σ (upd H p (.lst (xs.set j v))) {s with heap:=s.heap.update p (OL (·.setIfInBounds j u))}:=
  I.lstUpd hp ho (B4 its n j u) (r.set rv j) (by rw[SJ];exact hz) s.toks
 by_cases h0:0<=k
 ·have hk:k.toNat=j:=by
   rw[seqIndex_of h0 h4]at h1
   exact MB h1
  exact Wh ho h0 (by omega) (by rw[MC,<-hl];exact h4) (by rw[hk];exact⟨_,I',q⟩)
 ·have hk:(k+(its.toArray.size:Int)).toNat=j:=by
   rw[seqIndex_neg (by omega) h3]at h1
   rw[MC,<-hl]
   exact MB h1
  exact V8 ho (by omega) (by rw[MC,<-hl];exact h3) (by omega) (by rw[hk];exact⟨_,I',q⟩)
theorem yY(lo hi:Option Int)(n:Nat):(OK lo hi none n).1=((HT.vC n 0 lo:Nat):Int)/\(OK lo hi none n).2.1=((HT.vC n n hi:Nat):Int)/\(OK lo hi none n).2.2=1:=by
 refine⟨?_,?_,rfl⟩
 ·cases lo with
  |none=>simp[OK,HT.vC]
  |some i=>
   simp only[OK,HT.vC,Ui,show(1:Int)>0 by decide,if_true]
   by_cases h:i<0
   ·simp only[h,if_true]<;>omega
   ·simp only[h,if_false]<;>omega
 ·cases hi with
  |none=>simp[OK,HT.vC]
  |some i=>
   simp only[OK,HT.vC,Ui,show(1:Int)>0 by decide,if_true]
   by_cases h:i<0
   ·simp only[h,if_true]<;>omega
   ·simp only[h,if_false]<;>omega
theorem wq(its:List LM)(lo hi:Option Int):slicePick its.toArray lo hi none=((its.drop (HT.vC its.length 0 lo)).take (HT.vC its.length its.length hi-HT.vC its.length 0 lo)).toArray:=by
 obtain⟨h1,h2,h3⟩:=yY lo hi its.toArray.size
 unfold slicePick
 rw[h1,h2,h3]
 simp only[sliceRange_one,pick_run,MC]<;>rfl
noncomputable def Bh(K:LO):V->Option Int->Option Int->Hp->VK->Prop:=fun x lo hi H Q=>∃a xs,x=.ref a/\aK K H a xs/\∀p,H p=none->Q (.ref p) (upd H p (.lst (ng xs lo hi)))
theorem sS:Lx X (Bh X.K):=by
 intro pins s σ H x v vl vu lo hi sl Q I rx hs pl pu h
 obtain⟨a,xs,rfl,hx,q⟩:=h
 cases rx
 obtain⟨its,r,ht,hz⟩:=I.list hx
 have hlen:=r.length
 refine⟨"list",_,slot_list_getitem.lookup,ht.isList.typeIs,?_⟩
 refine wpAny_getItem_list_slice ht.isList hs pl pu .none (by simp) ?_ (by rw[MC]<;>omega)
 rw[wq,<-hlen]
 refine⟨.ref s.heap.objs.size,_,I.laid (t':=s.toks) (o:=.lst (ng xs lo hi)) (fun b ob q=>Mq _ q) (L0 _) ?_,rfl,q _ (I.hok.fresh (L0 _))⟩
 exact⟨Ma (zl xs lo hi) hz,_,0,(r.drop (HT.vC xs.length 0 lo)).take (HT.vC xs.length xs.length hi-HT.vC xs.length 0 lo),Mu _ rfl⟩
noncomputable def nV:V->Bool
 |.non=>true
 |.bl _=>true
 |.int _=>true
 |.str _=>true
 |_=>false
noncomputable def HA:V->V->Bool
 |.non,.non=>true
 |.bl a,.bl b=>a==b
 |.bl a,.int b=>(if a then 1 else 0)==b
 |.int a,.bl b=>a==(if b then 1 else 0)
 |.int a,.int b=>a==b
 |.str a,.str b=>a==b
 |_,_=>false
theorem Ip{A:Mb}{s:LN}{y x:V}{u v:LM}(ry:RelV y u)(rx:RelV x v)(fy:nV y=true)(fx:nV x=true):So A s u v (HA y x):=by
 cases y with
 |non=>
  cases ry
  cases x with
  |non=>cases rx;exact UL _
  |bl b=>cases rx;exact UA b
  |int b=>obtain⟨t,rfl⟩:=rx;exact UX b t
  |str b=>obtain⟨t,rfl⟩:=rx;exact Wq b t
  |_=>exact absurd (show false=true from fx) MM
 |bl a=>
  cases ry
  cases x with
  |non=>cases rx;exact VD a
  |bl b=>cases rx;exact Ve a b
  |int b=>obtain⟨t,rfl⟩:=rx;exact V6 a b t
  |str b=>obtain⟨t,rfl⟩:=rx;exact Wl a b t
  |_=>exact absurd (show false=true from fx) MM
 |int a=>
  obtain⟨t',rfl⟩:=ry
  cases x with
  |non=>cases rx;exact Ux a t'
  |bl b=>cases rx;exact VA a t' b
  |int b=>obtain⟨t,rfl⟩:=rx;exact VB a t' b t
  |str b=>obtain⟨t,rfl⟩:=rx;exact Sv a t' b t
  |_=>exact absurd (show false=true from fx) MM
 |str a=>
  obtain⟨t',rfl⟩:=ry
  cases x with
  |non=>cases rx;exact Vt a t'
  |bl b=>cases rx;exact VW a t' b
  |int b=>obtain⟨t,rfl⟩:=rx;exact Us a t' b t
  |str b=>obtain⟨t,rfl⟩:=rx;exact UM a t' b t
  |_=>exact absurd (show false=true from fx) MM
 |_=>exact absurd (show false=true from fy) MM
noncomputable def yd(x:V)(u:LM):Bool:=match u with
 |.none=>HA .non x
 |.bool b=>HA (.bl b) x
 |.int i _=>HA (.int i) x
 |.str z _=>HA (.str z) x
 |_=>false
theorem AX{x y:V}{u:LM}(r:RelV y u)(f:nV y=true):yd x u=HA y x:=by
 cases y with
 |non=>cases r;rfl
 |bl b=>cases r;rfl
 |int i=>obtain⟨t,rfl⟩:=r;rfl
 |str z=>obtain⟨t,rfl⟩:=r;rfl
 |_=>exact absurd (show false=true from f) MM
theorem o9{x:V}:∀{xs:List V}{us:List LM},bF xs us->xs.all nV=true->us.any (yd x)=xs.any fun y=>HA y x
 |_,_,.nil,_=>rfl
 |y::xs,u::us,.cons r t,f=>by
  rw[Tr,ND]at f
  rw[Od,Od,AX r f.1,o9 t f.2]
theorem jG{A:Mb}{s:LN}{x:V}{v:LM}(rx:RelV x v)(fx:nV x=true):∀{xs:List V}{us:List LM},bF xs us->xs.all nV=true->∀u∈us,So A s u v (yd x u)
 |_,_,.nil,_=>fun u hu=>by cases hu
 |y::xs,u::us,.cons r t,f=>fun u' hu=>by
  rw[Tr,ND]at f
  rcases L9.mp hu with rfl|hu
  ·rw[AX r f.1];exact Ip r rx f.1 fx
  ·exact jG rx fx t f.2 u' hu
noncomputable def JR(x:V)(xs:List V):Bool:=xs.any fun y=>HA y x
noncomputable def AS(K:LO)(neg:Bool):R2:=fun x y H Q=>∃p xs,y=.ref p/\(aK K H p xs\/gf K H p xs)/\nV x=true/\xs.all nV=true/\Q (.bl (if neg then !JR x xs else JR x xs)) H
theorem fW:gQ X (MG .In) (AS X.K false):=by
 intro pins s σ H x y v u Q I rx ry h
 obtain⟨p,xs,rfl,hq,fx,fs,q⟩:=h
 cases ry
 rcases hq with hq|hq
 ·obtain⟨its,r,pl,hz⟩:=I.list hq
  refine SeqAt.in_listAt (yd x) pl.isList (fun w hw=>jG rx fx r fs w (by simpa using hw)) ⟨.bl _,H,I,rfl,?_⟩
  rw[show its.toArray.any (yd x)=its.any (yd x) by simp,o9 r fs]
  exact q
 ·obtain⟨its,r,pl,hz⟩:=I.tuple hq
  refine SeqAt.in_tupleAt (yd x) pl (fun w hw=>jG rx fx r fs w (by simpa using hw)) ⟨.bl _,H,I,rfl,?_⟩
  rw[show its.toArray.any (yd x)=its.any (yd x) by simp,o9 r fs]
  exact q
theorem kl:gQ X (MG .NotIn) (AS X.K true):=by
 intro pins s σ H x y v u Q I rx ry h
 obtain⟨p,xs,rfl,hq,fx,fs,q⟩:=h
 cases ry
 rcases hq with hq|hq
 ·obtain⟨its,r,pl,hz⟩:=I.list hq
  refine SeqAt.notIn_listAt (yd x) pl.isList (fun w hw=>jG rx fx r fs w (by simpa using hw)) ⟨.bl _,H,I,rfl,?_⟩
  rw[show its.toArray.any (yd x)=its.any (yd x) by simp,o9 r fs]
  exact q
 ·obtain⟨its,r,pl,hz⟩:=I.tuple hq
  refine SeqAt.notIn_tupleAt (yd x) pl (fun w hw=>jG rx fx r fs w (by simpa using hw)) ⟨.bl _,H,I,rfl,?_⟩
  rw[show its.toArray.any (yd x)=its.any (yd x) by simp,o9 r fs]
  exact q
theorem cQ:eu X (.builtin "len") (fun xs H Q=>∃p ys,xs=[.ref p]/\(aK X.K H p ys\/gf X.K H p ys)/\Q (.int ys.length) H):=by
 intro pins s σ H xs us Q I r h
 obtain⟨p,ys,rfl,hq,q⟩:=h
 obtain⟨u,rfl,rx⟩:=vals1 r
 cases rx
 have hn:=qd
 rcases hq with hq|hq
 ·obtain⟨its,r',pl,hz⟩:=I.list hq
  have hlen:=r'.length
  exact Calls.call_len_list pl.isList (by simp only[MC]<;>omega) ⟨.int ys.length,H,I.tok _,⟨s.toks+1,by rw[MC,hlen]⟩,q⟩
 ·obtain⟨its,r',pl,hz⟩:=I.tuple hq
  have hlen:=r'.length
  exact len_tuple pl (by simp only[MC]<;>omega) ⟨.int ys.length,H,I.tok _,⟨s.toks+1,by rw[MC,hlen]⟩,q⟩
theorem yD:eu X (.builtin "len") (fun xs H Q=>∃z,xs=[.str z]/\z.length<=LW/\Q (.int z.length) H):=by
 intro pins s σ H xs us Q I r h
 obtain⟨z,rfl,hz,q⟩:=h
 obtain⟨u,rfl,t,rfl⟩:=vals1 r
 have hn:=qd
 exact len_str (by omega) ⟨.int z.length,H,I.tok _,⟨_,rfl⟩,q⟩
theorem yJ:eu X (.type "list") (fun xs H Q=>∃p ys,xs=[.ref p]/\(aK X.K H p ys\/gf X.K H p ys)/\∀l,H l=none->Q (.ref l) (upd H l (.lst ys))):=by
 intro pins s σ H xs us Q I r h
 obtain⟨p,ys,rfl,hq,q⟩:=h
 obtain⟨u,rfl,rx⟩:=vals1 r
 cases rx
 have fin:∀(its:List LM),bF ys its->ys.length<=LW->∀(h':LV)(c':Nat),(∀b o',s.heap.get? b=some o'->h'.get? b=some o')->
   h'.get? s.heap.objs.size=some {cls:=.type "list",dict:=none,data:=.seq its.toArray c',slots:=#[]}->EP X pins σ Q (.ref s.heap.objs.size) {s with heap:=h'}:=fun its r' hz h' c' kp e=>
  ⟨.ref s.heap.objs.size,_,I.laid (t':=s.toks) kp (L0 _) (show cF X.prog X.w _ h' _ (.lst ys)from⟨hz,its,c',r',e⟩),rfl,q _ (I.hok.fresh (L0 _))⟩
 rcases hq with hq|hq
 ·obtain⟨its,r',pl,hz⟩:=I.list hq
  have hlen:=r'.length
  obtain⟨o,ho,hc,n,hd⟩:=pl.isList
  exact call_list_seq p (.inl rfl) ho hc hd (fun h' c' kp e=>fin its r' hz h' c' kp e) (by simp only[MC]<;>omega)
 ·obtain⟨its,r',pl,hz⟩:=I.tuple hq
  have hlen:=r'.length
  obtain⟨o,ho,hc,n,hd⟩:=pl
  exact call_list_seq p (.inr rfl) ho hc hd (fun h' c' kp e=>fin its r' hz h' c' kp e) (by simp only[MC]<;>omega)
noncomputable def Hi(K:LO)(T:String)(x:V)(H:Hp):Prop:=match x with
 |.str _=>T="str"
 |.int _=>T="int"
 |.ref p=>(T="list"/\∃xs,aK K H p xs)\/(T="tuple"/\∃o,K.lookup p=some o/\o.cls=.type "tuple"/\o.dict=none)\/
   (T="dict"/\((∃kvs,H p=some (.dK kvs))\/∃kvs,H p=some (.dT kvs)))\/(T="set"/\∃S n,H p=some (.set S n))
 |_=>False
theorem EW{pins:List (LL×LS)}{σ:St}{H:Hp}{s:LN}{T:String}{x:V}{v:LM}(I:Inv X pins σ H s)(r:RelV x v)(ty:Hi X.K T x H):
  s.TypeIs v T/\∀a,v=.ref a->∃ob,s.heap.get? a=some ob/\ob.dict=none:=by
 cases x with
 |str z=>
  obtain⟨t,rfl⟩:=r
  cases(show T="str" from ty)
  exact⟨typeIs_str s z t,fun _ e=>nomatch e⟩
 |int i=>
  obtain⟨t,rfl⟩:=r
  cases(show T="int" from ty)
  exact⟨typeIs_int s i t,fun _ e=>nomatch e⟩
 |ref p=>
  cases r
  rcases ty with⟨rfl,xs,hq⟩|⟨rfl,o,hk,hc,hd⟩|⟨rfl,hk⟩|⟨rfl,S,n,hk⟩
  ·obtain⟨its,_,pl,_⟩:=I.list hq
   refine⟨pl.isList.typeIs,fun a e=>?_⟩
   cases e
   obtain⟨o,n,e,c,hd,_⟩:=pl
   exact⟨o,e,hd⟩
  ·refine⟨⟨o,I.kIn p o hk,hc⟩,fun a e=>?_⟩
   cases e
   exact⟨o,I.kIn _ o hk,hd⟩
  ·have z:∃o,s.heap.get? p=some o/\o.ExactDict:=by
    rcases hk with⟨kvs,hk⟩|⟨kvs,hk⟩
    ·obtain⟨_,_,_,_,o,_,_,e,ex,_⟩:=I.hok p _ hk
     exact⟨o,e,ex⟩
    ·obtain⟨_,_,_,_,o,_,_,e,ex,_⟩:=I.hok p _ hk
     exact⟨o,e,ex⟩
   obtain⟨o,e,ex⟩:=z
   refine⟨⟨o,e,ex.1⟩,fun a e2=>?_⟩
   cases e2
   exact⟨o,e,ex.2.1⟩
  ·obtain⟨o,_,_,_,e,ex,_⟩:=I.hok p _ hk
   refine⟨⟨o,e,ex.1⟩,fun a e2=>?_⟩
   cases e2
   exact⟨o,e,ex.2.1⟩
 |_=>exact Nc ty
noncomputable def C5(K:LO)(T:String)(r:V->List V->Hp->VK->Prop)(to:TE):TE:=fun σ H Q=>to σ H fun x H1=>Hi K T x H1/\r x [] H1 Q
noncomputable def yW(K:LO)(T:String)(r:V->List V->Hp->VK->Prop)(to:TE)(t:TA):TE:=fun σ H Q=>to σ H fun x H1=>Hi K T x H1/\t σ H1 fun xs H2=>r x xs H2 Q
variable {o e:LU}{es:List LU}{to:TE}{t:TA}{name:LK}{apos cpos:L8}{T id:String}{r:V->List V->Hp->VK->Prop}
theorem xD(pa:PlainAttrs T)(slot:Slot T name id)(hty:typeOf (.builtin id)=pure (.type "method_descriptor"))(hm:K9 X id r)(ho:PE X o to)
  (hbase:OU o name X.env (eval o X.env)=eval o X.env:=by rfl) (hline:(apos.endLine==cpos.line)=true:=by rfl):PE X (.Call (.Attribute o name apos) [] [] cpos) (C5 X.K T r to):=by
 intro pins s σ H Q I h
 refine wpAny_Call_method0_late hbase hline (ck (ho pins s σ H _ I h) fun v s1 ⟨x,H1,I1,r1,ty,q1⟩=>?_)
 obtain⟨h1,h2⟩:=EW I1 r1 ty
 exact⟨T,id,pa,slot,hty,h1,h2,Py rfl (Q8 (hm pins s1 σ H1 x [] v [] Q I1 r1 .nil q1))⟩
theorem gA(pa:PlainAttrs T)(slot:Slot T name id)(hty:typeOf (.builtin id)=pure (.type "method_descriptor"))(hm:K9 X id r)(ho:PE X o to)(ha:PA X (e::es) t)
  (hbase:OU o name X.env (eval o X.env)=eval o X.env:=by rfl)
  (hfew:((MA cpos (L6 (e::es) X.env)).all (fun x=>!x.1)&&(NZ cpos (NT [] X.env)).all (fun x=>x.1.isSome)
   && decide ((e::es).length+([]:List Keyword).length+(if([]:List Keyword).isEmpty then 0 else 1)<30))=true:=by rfl)
  (hline:(apos.endLine==cpos.line)=true:=by rfl) (hs:L6 (e::es) X.env=(false,eval e X.env)::L6 es X.env:=by rfl) (hplain:(MA cpos (L6 es X.env)).any (·.1)=false:=by rfl):
  PE X (.Call (.Attribute o name apos) (e::es) [] cpos) (yW X.K T r to t):=by
 intro pins s σ H Q I h
 refine wpAny_Call_method_late hbase hfew hline rfl (ck (ho pins s σ H _ I h) fun v s1 ⟨x,H1,I1,r1,ty,q1⟩=>?_)
 obtain⟨h1,h2⟩:=EW I1 r1 ty
 exists T,id,pa,slot,hty,h1,h2
 have hA:=ha cpos pins s1 σ H1 _ I1 q1
 rw[hs]at hA ⊢
 refine Py (by show(false || (MA cpos (L6 es X.env)).any (·.1))=false;rw[hplain]<;>rfl) (Ro ?_)
 exact ck hA fun us s2 ⟨vs,H2,I2,r2,q2⟩=>hm pins s2 σ H2 x vs v us Q I2 r1 r2 q2
end
noncomputable def HL(X:Cx)(id:String)(r:V->List V->Hp->VK->Prop):Prop:=
 ∀(pins:List (LL×LS))(s:LN)(σ:St)(H:Hp)(x:V)(xs:List V)(v:LM)(us:List LM)(Q:VK),Inv X pins σ H s->RelV x v->bF xs us->r x xs H Q->
  LP (model X.prog X.w) X.A (call (.builtin id) (v::us)) (EP X pins σ Q) X.xe s
theorem bF.one:∀{x:V}{us:List LM},bF [x] us->∃u,us=[u]/\RelV x u
 |_,_,.cons r .nil=>⟨_,rfl,r⟩
theorem bF.zero:∀{us:List LM},bF [] us->us=[]
 |_,.nil=>rfl
theorem bF.dropLast{xs:List V}{us:List LM}(h:bF xs us):bF xs.dropLast us.dropLast:=by
 induction h with
 |nil=>exact .nil
 |cons r t ih=>
  cases t with
  |nil=>exact .nil
  |cons q t'=>exact .cons r ih
theorem bF.eraseIdx:∀{xs:List V}{us:List LM}(i:Nat),bF xs us->bF (xs.eraseIdx i) (us.eraseIdx i)
 |_,_,_,.nil=>.nil
 |_,_,0,.cons _ t=>t
 |_,_,i+1,.cons r t=>.cons r (bF.eraseIdx i t)
theorem Bk{α:Type}(l:List α):l.eraseIdx (l.length-1)=l.dropLast:=by
 induction l with
 |nil=>rfl
 |cons a r ih=>
  cases r with
  |nil=>rfl
  |cons b r=>
   have e:(a::b::r).length-1=((b::r).length-1)+1:=by
    have h1:(a::b::r).length=r.length+2:=rfl
    have h2:(b::r).length=r.length+1:=rfl
    omega
   rw[e,Rl,ih]
   all_goals rfl
theorem qF{α:Type}:∀(l:List α)(i:Nat),(l.eraseIdx i).length<=l.length
 |[],_=>L0 _
 |_::_,0=>Nq _
 |_::r,i+1=>Nat.succ_le_succ (qF r i)
section
variable {X:Cx}{pins:List (LL×LS)}{σ:St}{H:Hp}{s:LN}{l b:LL}{xs ys zs:List V}
theorem Inv.lset{its its':List LM}{n:Nat}{f:Array LM->Array LM}{t':Nat}(I:Inv X pins σ H s)(hH:H l=some (.lst xs))
  (e:s.heap.get? l=some {cls:=.type "list",data:=.seq its.toArray n}) (hf:f its.toArray=its'.toArray) (hv:bF ys its') (hz:ys.length<=LW):
  Inv X pins σ (upd H l (.lst ys)) {s with heap:=s.heap.update l (OL f),toks:=t'}:=by
 have q:=VE e f
 rw[hf]at q
 refine I.write (x:=l) (e:=l) (by rw[hH];exact trivial) (.inl rfl) (fun b' u hb hu=>(N9 s.heap (OL f) (Mm hb)).trans hu) ⟨_,q⟩ ?_
 exact⟨hz,its',_,hv,q⟩
theorem Inv.lnew{its:List LM}{t':Nat}(I:Inv X pins σ H s)(hv:bF ys its)(hz:ys.length<=LW):
  Inv X pins σ (upd H s.heap.objs.size (.lst ys)) {s with heap:=s.heap.push {cls:=.type "list",data:=.seq its.toArray},toks:=t'}:=
 I.laid (fun _ _ q=>Mq _ q) (L0 _) ⟨hz,its,0,hv,Mu _ rfl⟩
theorem Inv.fresh(I:Inv X pins σ H s):H s.heap.objs.size=none:=I.hok.fresh (L0 _)
theorem Inv.lstM(I:Inv X pins σ H s)(hH:H l=some (.lst xs)):xs.length<=LW/\∃(its:List LM)(n:Nat),bF xs its/\xs.length=its.length/\s.heap.get? l=some {cls:=.type "list",data:=.seq its.toArray n}:=by
 obtain⟨z,its,n,r,e⟩:=I.hok l _ hH
 exact⟨z,its,n,r,r.length,e⟩
theorem EL{n:Nat}(h:n<=LW):QV n=false:=by
 unfold QV
 exact decide_eq_false (by omega)
end
section
variable {X:Cx}
noncomputable def fZ:V->List V->Hp->VK->Prop:=fun x vs H Q=>∃l xs y,x=.ref l/\vs=[y]/\H l=some (.lst xs)/\xs.length<LW/\Q .non (upd H l (.lst (xs++[y])))
theorem dX:HL X "list.append" fZ:=by
 intro pins s σ H x vs v us Q I rx rv h
 obtain⟨l,xs,y,rfl,rfl,hH,hz,q⟩:=h
 cases rx
 obtain⟨u,rfl,ru⟩:=rv.one
 obtain⟨z,its,n,r,hl,e⟩:=I.lstM hH
 refine N3 Oj ⟨_,e,rfl⟩ F.entry_list_append (F.args_list_append_2 _ _) (PySem.list_append l its.toArray n u (by rw[MC];omega)) ⟨e,?_⟩
 refine⟨.non,_,I.lset (its':=its++[u]) hH e (by simp) (r.append (.cons ru .nil)) ?_,rfl,q⟩
 rw[MR,Ou]
 omega
noncomputable def yy:V->List V->Hp->VK->Prop:=fun x vs H Q=>∃l b xs zs,x=.ref l/\vs=[.ref b]/\H l=some (.lst xs)/\H b=some (.lst zs)/\xs.length+zs.length<=LW/\Q .non (upd H l (.lst (xs++zs)))
theorem xh:HL X "list.extend" yy:=by
 intro pins s σ H x vs v us Q I rx rv h
 obtain⟨l,b,xs,zs,rfl,rfl,hH,hB,hz,q⟩:=h
 cases rx
 obtain⟨u,rfl,ru⟩:=rv.one
 cases ru
 obtain⟨z,its,n,r,hl,e⟩:=I.lstM hH
 obtain⟨z2,its2,n2,r2,hl2,e2⟩:=I.lstM hB
 have hsz:its.toArray.size+its2.toArray.size<=LW:=by rw[MC,MC];omega
 have hlong:¬(!its.toArray.isEmpty&&QV (its.toArray.size+its2.toArray.size))=true:=by
  rw[EL hsz,RT]
  exact MM
 refine N3 Ra ⟨_,e,rfl⟩ F.entry_list_extend (F.args_list_extend_2 _ _)
  (Wa l its.toArray n b its2.toArray n2 hlong (by rw[MC];omega) (by omega)) ⟨e,e2,?_⟩
 refine⟨.non,_,I.lset (its':=its++its2) hH e (by simp) (r.append r2) ?_,rfl,q⟩
 rw[MR]
 omega
noncomputable def Lk:V->List V->Hp->VK->Prop:=fun x vs H Q=>∃l xs y,x=.ref l/\vs=[]/\H l=some (.lst xs)/\xs[xs.length-1]?=some y/\Q y (upd H l (.lst xs.dropLast))
theorem Lu:HL X "list.pop" Lk:=by
 intro pins s σ H x vs v us Q I rx rv h
 obtain⟨l,xs,y,rfl,rfl,hH,hy,q⟩:=h
 cases rx
 have hus:=rv.zero
 subst hus
 obtain⟨z,its,n,r,hl,e⟩:=I.lstM hH
 obtain⟨u,hu,ru⟩:=r.get hy
 have hy':its.toArray[its.toArray.size-1]?=some u:=by
  show its.toArray[its.length-1]?=some u
  rw[<-P2,<-hl]
  exact hu
 refine N3 Qz ⟨_,e,rfl⟩ R7 (F.args_list_pop_1 _) (UJ l its.toArray n u hy' (by rw[MC];omega)) ⟨e,?_⟩
 refine⟨y,_,I.lset (its':=its.dropLast) hH e ?_ r.dropLast ?_,ru,q⟩
 ·show its.toArray.eraseIdxIfInBounds (its.toArray.size-1)=its.dropLast.toArray
  rw[MC,QL,Bk]
 ·rw[List.length_dropLast]
  omega
noncomputable def BL:V->List V->Hp->VK->Prop:=fun x vs H Q=>∃l xs i k y,x=.ref l/\vs=[.int i]/\H l=some (.lst xs)/\-(2 ^ 63)<=i/\i<2 ^ 63/\seqIndex? i xs.length=some k/\xs[k]?=some y/\Q y (upd H l (.lst (xs.eraseIdx k)))
theorem z9:HL X "list.pop" BL:=by
 intro pins s σ H x vs v us Q I rx rv h
 obtain⟨l,xs,i,k,y,rfl,rfl,hH,h1,h2,hk,hy,q⟩:=h
 cases rx
 obtain⟨u,rfl,ru⟩:=rv.one
 obtain⟨t,rfl⟩:=ru
 obtain⟨z,its,n,r,hl,e⟩:=I.lstM hH
 obtain⟨w,hw,rw'⟩:=r.get hy
 refine N3 Qz ⟨_,e,rfl⟩ R7 (F.args_list_pop_2 _ _)
  (Wt l its.toArray n i t k w (fitsIndex_both h1 h2) (by rw[MC,<-hl];exact hk) (by rw[<-P2];exact hw) (by rw[MC];omega)) ⟨e,?_⟩
 refine⟨y,_,I.lset (its':=its.eraseIdx k) hH e ?_ (r.eraseIdx k) ?_,rw',q⟩
 ·show its.toArray.eraseIdxIfInBounds k=(its.eraseIdx k).toArray
  rw[QL]
 ·have:=qF xs k
  omega
noncomputable def A5:V->List V->Hp->VK->Prop:=fun x vs H Q=>∃l xs,x=.ref l/\vs=[]/\H l=some (.lst xs)/\Q .non (upd H l (.lst []))
theorem zc:HL X "list.clear" A5:=by
 intro pins s σ H x vs v us Q I rx rv h
 obtain⟨l,xs,rfl,rfl,hH,q⟩:=h
 cases rx
 have hus:=rv.zero
 subst hus
 obtain⟨z,its,n,r,hl,e⟩:=I.lstM hH
 refine N3 RA ⟨_,e,rfl⟩ F.entry_list_clear (F.args_list_clear_1 _) (US l its.toArray n (by rw[MC];omega)) ⟨e,?_⟩
 exact⟨.non,_,I.lset (its':=[]) (ys:=[]) hH e rfl .nil (MK _),rfl,q⟩
noncomputable def vw:R2:=fun x y H Q=>∃l b xs zs,x=.ref l/\y=.ref b/\H l=some (.lst xs)/\H b=some (.lst zs)/\xs.length+zs.length<=LW/\∀p,H p=none->Q (.ref p) (upd H p (.lst (xs++zs)))
theorem oH:gQ X (NA .Add) vw:=by
 intro pins s σ H x y v u Q I rx ry h
 obtain⟨l,b,xs,zs,rfl,rfl,hH,hB,hz,q⟩:=h
 cases rx
 cases ry
 obtain⟨z,its,n,r,hl,e⟩:=I.lstM hH
 obtain⟨z2,its2,n2,r2,hl2,e2⟩:=I.lstM hB
 refine UC e e2 ?_ (by rw[MC,MC];omega)
 have ea:its.toArray++its2.toArray=(its++its2).toArray:=by simp
 rw[ea]
 exact⟨.ref _,_,I.lnew (t':=s.toks) (r.append r2) (by rw[MR];omega),rfl,q _ I.fresh⟩
end
section
variable {prog:L5}{w:LZ}{A:Mb}{E:LM->LN->Prop}{s:LN}
end
section
variable {X:Cx}
end
end L2
namespace Att
open PySem PySem.W PySem.Calls PyProof.Rows
theorem si{P:Params}{h:LV}:∀(ns:List Int)(vs:List LM),WellAll P h vs (ns.map TN)->OB vs ns:=by
 intro ns
 induction ns with
 |nil=>
  intro vs w
  rw[Pl]at w
  cases w
  exact .nil
 |cons n ns ih=>
  intro vs w
  rw[MQ]at w
  cases w with
  |cons a b=>
   cases a
   exact .cons _ _ (ih _ b)
theorem DL{l:OpenLaw}{n:Nat}(hn:l.most=some n){P:Params}{h:LV}{args:List WData}{vals:List LM}
  (hpre:l.row.toRowW.claim.pre args=true) (hwl:WellAll P h vals args):
  ∃a vs ns,vals=[Mj a]/\args=[WData.list (ns.map TN)]/\h.get? a=some {cls:=.type "list",data:=.seq vs.toArray}/\OB vs ns/\ns.length<=n:=by
 have hsh:WShape.hasAll [] args [.list .int]=true:=(pre_splitW hpre).1
 have hc:l.pre.holds [] {args:=args}=true:=(pre_splitW hpre).2
 obtain⟨d,r,rfl,h1,h2⟩:=hasAllW_cons hsh
 obtain rfl:=hasAllW_nil h2
 obtain⟨xs,rfl,h3⟩:=hasW_list h1
 obtain⟨ns,rfl⟩:=items_int h3
 have hlen:ns.length<=n:=by
  unfold VP at hc
  have h4:(WTm.not (.lt (.lit (.int (n:Int))) (.len (.arg 0)))).holds [] {args:=[.list (ns.map .int)]}=true:=by
   have h4:=(holds_andW hc).1
   rw[hn]at h4
   exact h4
  have h5:=condW_of h4 (w_not (w_lt w_lit (w_len_list (w_arg rfl))))
  rw[Md]at h5
  refine Sx fun q=>?_
  have q':(n:Int)<((ns.length:Nat):Int):=by omega
  first
   |(rw[decide_eq_true q']at h5;exact absurd h5 (by decide))
   |(simp at h5;omega)
 cases hwl with
 |cons w1 w2=>
  cases w2
  cases w1 with
  |list ho hall=>exact⟨_,_,ns,rfl,rfl,ho,si ns _ hall,hlen⟩
theorem DP(l:OpenLaw)(args:List WData):l.row.toRowW.claim.post args (.bool true) args=true:=
 postW_of (r:=l.row.toRowW) (X:=(true==true))
  (show Uc [] (.bool true) .bool=true by first|rfl|decide|simp[Uc,WShape.arms,WShape.armsAll])
  (show(WTm.eq .res (.lit (.bool true))).value [] {args:=args,res:=some (.bool true),after:=args}=some (.bool (true==true))from w_eq_bool (w_res rfl) w_lit) rfl
theorem Ai{l:OpenLaw}{n:Nat}{q:L5}{loose:List LK}{XP:(LK->Option LM)->LV->Prop}{YP:LZ->LV->Prop}{d:DefRec}
  (hn:l.most=some n) (hdf:d.params.defaults=[])
  (call:∀(w:LZ)(s₀ s₁:LN)(mg mb:LK->Option LM)(fa:LL)(o:LS)(pm cd doc:LM)(a:LL)(vs:List LM)(ns:List Int),
   Ground q loose [] XP w s₀ mg mb s₁.heap->YP w s₁.heap->
   s₁.heap.get? fa=some o->o.data=.func (docDef d.name d.params d.body d.scope pm cd doc)->s₁.heap.CodeRec cd d.name->mg d.name=some (.ref fa)->
   s₁.heap.get? a=some {cls:=.type "list",data:=.seq vs.toArray}->OB vs ns->ns.length<=n->s₁.gens=#[]->
   NL (model l.prog w) callerA (.call (.ref fa) ⟨[.ref a],[]⟩) (fun r s'=>r=.ok (.ret (.bool true))/\OldK s₁.heap s'.heap/\s'.os=s₁.os/\N2 s'.gens) s₁):
  WalkO q loose XP YP l.row.toRowW d [] (fun f vs=>QG f vs):=by
 intro w s₀ s₁ mg mb G Y fa o pm cd doc dV kV ho hd hcd hD hmg hg args vals as hpre hlay hrd hwl hlo
 obtain rfl:dV=.none:=Dflts.none hD hdf
 obtain rfl:kV=.none:=Dflts.noKw hD
 obtain⟨a,vs,ns,rfl,rfl,hobj,hints,hlen⟩:=DL hn hpre hwl
 refine enter_call (codeAny_mono (call w s₀ s₁ mg mb fa o pm cd doc a vs ns G Y ho (fd_plain hd) hcd hmg hobj hints hlen hg) fun r s' hq=>?_)
 obtain⟨rfl,h2,h3,h4⟩:=hq
 exact⟨.inl ⟨.bool true,.bool true,[],rfl,fun _=>rfl,.bool true,DP l _,fun _=>⟨UH,fun _ hm=>(nomatch hm)⟩⟩,h2,h3,h4⟩
section
variable {prog:L5}{w:LZ}{A:Mb}{E:LM->LN->Prop}{s:LN}{K:Frag}
end
end Att
namespace L2
open PySem PySem.Spec PyProof.Rows
theorem qU:∀{vs:List LM}{ns:List Int},OB vs ns->bF (ns.map V.int) vs
 |_,_,.nil=>.nil
 |_,_,.cons n t h=>.cons ⟨t,rfl⟩ (qU h)
noncomputable def II(H:Hp):Prop:=∀b,H b=none\/∃o xs,H b=some (.frz o (.lst xs))
theorem Fq{P:L5}{w:LZ}{K:LO}{mg mb:LK->Option LM}{CX:El}{k:Nat}{fa a:LL}{fd:Nv}{x:LK}{sp:Sp}{s₁:LN}{vs:List LM}{ns:List Int}
  (KX:K.In s₁.heap) (hns:s₁.heap.Ns MF mg) (hb:s₁.heap.Ns builtinsNs mb) (hbb:∀x:LK,x≠"__name__"->mb x=O2 x) (hlim:s₁.heap.NoLimit) (hg:s₁.gens=#[])
  (ha:s₁.heap.get? a=some {cls:=.type "list",data:=.seq vs.toArray}) (hi:OB vs ns) (hl:ns.length<=LW) (hr:cS k callerA)
  (F:∀base:LV,K.In base->base.Ns MF mg->k8 P w K mg base CX k fa fd [x] sp) (hbind:∀(s:LN)(u:LM),BindsTo s fd ⟨[u],[]⟩ [(x,u)])
  (hsp:∀H:Hp,II H->aK K H a (ns.map V.int)->sp [.ref a] H (fun v _=>v=.bl true) fun _ _ _=>False)
  (hCX:∀H e s',CX [] H s₁ (fun _ _ _=>False) e s'->False):
  NL (model P w) callerA (.call (.ref fa) ⟨[.ref a],[]⟩) (fun r s'=>r=.ok (.ret (.bool true))/\OldK s₁.heap s'.heap/\s'.os=s₁.os/\N2 s'.gens) s₁:=by
 have rv:=qU hi
 have lenV:=hi.length
 have core:∀H:Hp,II H->aK K H a (ns.map V.int)->mZ P w H s₁.heap->(∀b,H b≠none->b=a)->(H a≠none->K.lookup a=none)->
   NL (model P w) callerA (.call (.ref fa) ⟨[.ref a],[]⟩) (fun r s'=>r=.ok (.ret (.bool true))/\OldK s₁.heap s'.heap/\s'.os=s₁.os/\N2 s'.gens) s₁:=by
  intro H hO hS hok hA hK
  have base_of:∀{b:LL}{o:LS},s₁.heap.get? b=some o->H b=none->(yV s₁.heap H).get? b=some o:=fun e n=>Eu e n
  have noA:∀{b:LL}{o:LS}{es:Array NN}{ep:Nat},s₁.heap.get? b=some o->o.data=.dict es ep->H b=none:=fun {b o es ep} e d=>by
   cases q:H b with
   |none=>rfl
   |some u=>
    have e':b=a:=hA b (by rw[q];simp)
    subst e'
    rw[ha]at e;cases e
    have d':RI vs.toArray _=Data.dict es ep:=d
    cases d'
  have nsK:∀{b:LL}{m:LK->Option LM},s₁.heap.Ns b m->(yV s₁.heap H).Ns b m:=fun {b m} ⟨o,es,ep,e,d,r⟩=>⟨o,es,ep,base_of e (noA e d),d,r⟩
  have hKb:K.In (yV s₁.heap H):=fun b o e=>base_of (KX b o e) (by
   cases q:H b with
   |none=>rfl
   |some u=>
    have e':b=a:=hA b (by rw[q];simp)
    subst e'
    rw[hK (by rw[q];simp)]at e;cases e)
  have hM:Mod K mg (yV s₁.heap H):=⟨hKb,nsK hns,⟨mb,nsK hb,hbb⟩,let ⟨mc,h1,h2⟩:=hlim;⟨mc,nsK h1,h2⟩⟩
  have e0:BN P w K mg (yV s₁.heap H) callerA [] s₁ H:=⟨rfl,hM,fun b o e=>GB e,O4 (DQ _ _),trivial,fun b hb=>absurd (show b∈([]:List LL)from hb) (by simp),hok,.of_eq hg⟩
  refine codeAny_mono ((F _ hKb (nsK hns)).run callerA [] s₁ H ⟨[.ref a],[]⟩ [.ref a] [.ref a] _ _ hr e0 (hbind s₁ (.ref a)) (.cons rfl .nil) (hsp H hO hS)) fun r s' h=>?_
  cases r with
  |error e=>exact(hCX H e s' h).elim
  |ok fl=>
   cases fl with
   |next=>exact Nc h
   |brk=>exact Nc h
   |cont=>exact Nc h
   |ret u=>
    obtain⟨v,H',os,bare,un,hok',r',q⟩:=h
    have q':v=.bl true:=q
    subst q'
    obtain rfl:u=Om true:=r'
    refine⟨rfl,OldK.of_keep fun b o e=>?_,os,bare⟩
    cases q:H b with
    |none=>exact un.keep b o e q (by intro z;exact absurd (show b∈([]:List LL)from z) (by simp)) (by simp)
    |some u=>
     rcases hO b with z|⟨ob,xs,z⟩
     ·rw[q]at z;cases z
     ·have z2:=un.frzs b ob _ z
      obtain⟨e1,_⟩:=hok b _ z
      obtain⟨e2,_⟩:=hok' b _ z2
      rw[e]at e1;cases e1
      exact e2
 cases hk:K.lookup a with
 |some o=>
  have e:=KX a o hk
  rw[ha]at e
  cases e
  refine core (fun _=>none) (fun _=>.inl rfl) (.inr ⟨_,vs.toArray,_,hk,rfl,rfl,rfl,by rw[MC,lenV];exact hl,by simpa using rv⟩) (fun b u z=>by have z':(none:Option HO)=some u:=z;cases z') (fun b z=>absurd rfl z) fun z=>absurd rfl z
 |none=>
  refine core (fun b=>if b=a then some (.frz {cls:=.type "list",data:=.seq vs.toArray} (.lst (ns.map V.int)))else none) (fun b=>?_) (.inl (.inr ⟨{cls:=.type "list",data:=.seq vs.toArray},if_pos rfl⟩)) (fun b u z=>?_) (fun b z=>?_) fun _=>hk
  ·by_cases hb:b=a
   ·exact .inr ⟨_,_,if_pos hb⟩
   ·exact .inl (if_neg hb)
  ·by_cases hb:b=a
   ·have z':=(if_pos hb).symm.trans z
    cases z'
    subst hb
    exact⟨ha,by rw[Md];exact hl,vs,_,rv,ha⟩
   ·have z':=(if_neg hb).symm.trans z
    cases z'
  ·by_cases hb:b=a
   ·exact hb
   ·exact absurd (if_neg hb) z
noncomputable abbrev wW{K:LO}{h:LV}(_:K.In h):LO:=K
theorem Hq{l:Ud}{n k:Nat}{q:L5}{loose:List LK}{XP:(LK->Option LM)->LV->Prop}{YP:LZ->LV->Prop}{d:DefRec}{K:Params->LO}{CX:LZ->El}{sp:LZ->Sp}{x:LK}
  (hn:l.most=some n) (hn2:n<=LW) (hdf:d.params.defaults=[]) (hr:cS k callerA)
  (hY:∀(w:LZ)(h:LV),YP w h->(K w.params).In h)
  (F:∀(w:LZ)(mg:LK->Option LM)(fa:LL)(h:LV),(K w.params).In h->h.Ns MF mg->mg d.name=some (.ref fa)->
   ∃fd:Nv,(∀(s:LN)(u:LM),BindsTo s fd ⟨[u],[]⟩ [(x,u)])/\
    ∀base:LV,(K w.params).In base->base.Ns MF mg->k8 l.prog w (K w.params) mg base (CX w) k fa fd [x] (sp w))
  (hsp:∀(w:LZ)(H:Hp)(a:LL)(ns:List Int),ns.length<=n->II H->aK (K w.params) H a (ns.map V.int)->sp w [.ref a] H (fun v _=>v=.bl true) fun _ _ _=>False)
  (hCX:∀(w:LZ)(H:Hp)(s:LN)(e:LM)(s':LN),CX w [] H s (fun _ _ _=>False) e s'->False):
  Tc q loose XP YP l.row.toRowW d [] (fun f vs=>QG f vs):=by
 refine Att.Ai hn hdf fun w s₀ s₁ mg mb fa o pm cd doc a vs ns G Y ho hd hcd hmg hobj hints hlen hg=>?_
 have KX:=hY w _ Y
 obtain⟨fd,hb,hF⟩:=F w mg fa _ KX G.T.g hmg
 exact Fq KX G.T.g G.T.b G.T.builtins G.T.nolimit hg hobj hints (Ma hlen hn2) hr hF hb (fun H hO hS=>hsp w H a ns hlen hO hS) fun H e s'=>hCX w H s₁ e s'
noncomputable def inClass(s:LX)(j:Nat):LX:=match s with
 |.ClassDef _ _ _ body _ _ _ _ _ _ _=>body.getD j (.Pass ⟨0,0,0,0⟩)
 |_=>.Pass ⟨0,0,0,0⟩
noncomputable def j5(s:LX):Arguments:=match s with
 |.FunctionDef _ a _ _ _ _ _ _ _ _=>a
 |_=>{posonlyargs:=[],args:=[],vararg:=none,kwonlyargs:=[],kw_defaults:=[],kwarg:=none,defaults:=[]}
noncomputable def df(s:LX):List LX:=match s with
 |.FunctionDef _ _ b _ _ _ _ _ _ _=>b
 |_=>[]
noncomputable def ax(s:LX):MP:=match s with
 |.FunctionDef _ _ _ _ _ _ sc _ _ _=>sc
 |_=>{kind:=.function,names:=[],isGenerator:=false,isCoroutine:=false}
noncomputable abbrev qK:El:=fun _ _ _ _ _ _=>False
noncomputable abbrev E0:XK:=fun _ _ _=>False
theorem Cp{X:Cx}:j7 qK X E0:=fun _ _ _ _ _ _ _ h=>h.elim
structure Jb(K:LO)(x qual:LK)(st:LX)(f:LL)(fd:Nv):Prop where
 ex:∃(oc:LM)(od:Option LL)(kV doc pm:LM)(an:Option LL)(cdv ct:LM)(osl:Array (Option LM)),
  fd=N8 x qual (j5 st) (df st) (ax st) .none kV doc pm an cdv ct/\K.lookup f=some ⟨oc,od,.func fd,osl⟩/\PQ K cdv qual=true
 kp:NK K (.ref f)=true
section
variable {P:L5}{w:LZ}{K:LO}{mg:LK->Option LM}{base:LV}
theorem Jb.ok{x qual:LK}{st:LX}{f:LL}{fd:Nv}{N ps:List LK}{k:Nat}{sp:Sp}(F:Jb K x qual st f fd)(S:aG N ps (ax st))(len:∀vs H Q E,sp vs H Q E->vs.length=ps.length)
  (hbody:∀(cdv:LM)(A:Mb)(outer:List Mo)(s:LN)(H:Hp)(vs:List V)(Q:VK)(E:XK),cS k (A.deeper (MY qual (ax st) s.heap.objs.size f cdv))->sp vs H Q E->
   ∃t,vm (cj qK P w K mg base N qual (ax st) f cdv A outer s H E).nox (df st) t/\t {nx:=fun _ H'=>Q .non H',rt:=Q} (start N vs) H):k8 P w K mg base qK (k+1) f fd ps sp:=by
 obtain⟨oc,od,kV,doc,pm,an,cdv,ct,osl,rfl,lk,hcd⟩:=F.ex
 refine HM lk hcd S len fun A outer s H vs Q E hr hsp=>?_
 obtain⟨t,h,q⟩:=hbody cdv A outer s H vs Q E hr hsp
 exact⟨t,h.nox,q⟩
theorem Fp{x qual:LK}{st:LX}{f:LL}{oc:LM}{od an:Option LL}{osl:Array (Option LM)}{kV doc pm cdv ct:LM}(l:K.lookup f=some ⟨oc,od,.func (N8 x qual (j5 st) (df st) (ax st) .none kV doc pm an cdv ct),osl⟩)
  (c:PQ K cdv qual=true) (k:NK K (.ref f)=true):Jb K x qual st f (N8 x qual (j5 st) (df st) (ax st) .none kV doc pm an cdv ct):=⟨⟨oc,od,kV,doc,pm,an,cdv,ct,osl,rfl,l,c⟩,k⟩
end
theorem eP{A:Mb}{k:Nat}(hr:cS k A):A.units+1<cLine:=Q9 (Nat.add_le_add_left (by decide:1<=64) _) hr.units
theorem Dr{n:Nat}(h:n<=1000):n<LW:=Q9 h (by decide)
section
variable {X:Cx}
theorem pv(i:Nat){x:LK}{pos:L8}(hN:X.N[i]?=some x:=by rfl)(hv:Jq X.env.scope x:=by first|exact LR rfl|exact NP (LR rfl)|exact NP (NP rfl))(hd:(x==("__debug__":LK))=false:=by decide)
  (hcd:(x==("__classdict__":LK))=false:=by decide):PE X (.Name x pos) (ae i):=Jg hN hv hd hcd
end
theorem Ft{A B:Prop}(h:B):if false=true then A else B:=by
 rw[if_neg MM]
 exact h
theorem CY{A B:Prop}(h:A):if true=true then A else B:=by
 rw[if_pos rfl]
 exact h
theorem GR{c A B:Prop}[Decidable c](h1:c->A)(h2:¬c->B):if c then A else B:=by
 by_cases h:c
 ·rw[if_pos h]
  exact h1 h
 ·rw[if_neg h]
  exact h2 h
theorem uU{c A B:Prop}[Decidable c](hc:c)(h:B):if(!decide c)=true then A else B:=by
 rw[decide_eq_true hc]
 exact Ft h
noncomputable def av(H H':Hp):Prop:=∀b o,H b=some o->H' b=some o
theorem av.refl(H:Hp):av H H:=fun _ _ h=>h
theorem av.trans{H H1 H2:Hp}(a:av H H1)(b:av H1 H2):av H H2:=fun c o h=>b c o (a c o h)
theorem av.free{H H':Hp}(e:av H H'){l:LL}(h:H' l=SG):H l=SG:=by
 cases q:H l with
 |none=>rfl
 |some o=>
  rw[e l o q]at h
  cases h
theorem av.seq{K:LO}{H H':Hp}{a:LL}{xs:List V}(e:av H H')(h:aK K H a xs):aK K H' a xs:=by
 rcases h with(h|⟨o,h⟩)|h
 ·exact .inl (.inl (e _ _ h))
 ·exact .inl (.inr ⟨o,e _ _ h⟩)
 ·exact .inr h
section
variable {prog:L5}{w:LZ}{A:Mb}{R:Result->LN->Prop}{s:LN}
theorem yg{elt target iter:LU}{ifs:List LU}{scope:MP}{pos:L8}{it acc:LM}{env:Mo}(I:Nat->LN->Prop)
  (turn:∀n s,I n s->LP (model prog w) A (M8 it) (fun r s₁=>match r with
   |none=>R (.ok .next) s₁
   |some v=>LP (model prog w) A (letOwnedTupleGo target it v) (fun _ s₀=>LP (model prog w) A (assign target env v) (fun _ s₂=>
     LP (model prog w) A (forIn ifs true fun c r=>if r=true then do let ok <-isTrue c env (eval c env);pure (O3 ok)else pure (O3 r)) (fun ok s₃=>
      if ok=true then LP (model prog w) A (eval elt env) (fun x s₄=>
       LP (model prog w) A (call (.builtin "list.append") [acc,x]) (fun _ s₅=>∃m,m<n/\I m s₅) (fun _ _=>False) s₄) (fun _ _=>False) s₃
      else ∃m,m<n/\I m s₃) (fun _ _=>False) s₂) (fun _ _=>False) s₀) (fun _ _=>False) s₁) (fun _ _=>False) s)
  (n:Nat) (h:I n s):
  NL (model prog w) A (.compLoop (.ListComp elt [⟨target,iter,ifs,0⟩] scope pos) 0 it acc env) R s:=by
 refine codeAny_loop rfl I (fun n s hI=>?_) n h
 show LP _ A ((compTurn (.ListComp elt [⟨target,iter,ifs,0⟩] scope pos) 0 it acc env).onRaise (fun x=>do noteFrame x env;theTreesLotGoes x)) _ _ s
 refine wpAny_noted ?_
 rw[compTurn_list]
 refine LQ (wpAny_standAt (LQ (M3 (turn n s hI) (fun r s₁ h₁=>?_) fun _ _ h'=>h'.elim)))
 cases r with
 |none=>exact Mc h₁
 |some v=>
  refine LQ (M3 h₁ (fun _ s₀ h₀=>?_) fun _ _ h'=>h'.elim)
  refine LQ (M3 h₀ (fun _ s₂ h₂=>LQ (M3 h₂ (fun ok s₃ h₃=>?_) fun _ _ h'=>h'.elim)) fun _ _ h'=>h'.elim)
  cases ok with
  |false=>exact Mc ⟨rfl,h₃⟩
  |true=>
   exact LQ (LQ (M3 h₃ (fun x s₄ h₄=>LQ (M3 h₄ (fun _ s₅ h₅=>Mc (Mc ⟨rfl,h₅⟩)) fun _ _ h'=>h'.elim)) fun _ _ h'=>h'.elim))
end
noncomputable def bh(env:Mo):List (LK×MZ)->List (LK×LL)->List (LK×LL)
 |[],acc=>acc
 |(x,k)::r,acc=>if k==.free then bh env r ((x,(env.cells.lookup x).getD 0)::acc)else bh env r acc
theorem kT{scope:MP}{env:Mo}(h:∀x∈scope.names,x.2=.free->∃c,env.cells.lookup x.1=some c):closureFor scope env=pure (bh env scope.names []):=by
 have all:∀(names:List (LK×MZ))(acc:List (LK×LL)),(∀x∈names,x.2=.free->∃c,env.cells.lookup x.1=some c)->
   (forIn names acc fun (x:LK×MZ) (r:List (LK×LL))=>(if(x.2==NJ)=true then do let a <-cellOf env x.1;pure (O3 ((x.1,a)::r))else pure (O3 r):Sem (ForInStep (List (LK×LL)))))=pure (bh env names acc):=by
  intro names
  induction names with
  |nil=>intro acc _;rfl
  |cons x r ih=>
   intro acc hx
   obtain⟨n,k⟩:=x
   have hr:=fun y hy=>hx y (MU _ hy)
   rw[Pr]
   unfold bh
   by_cases hk:(k==NJ)=true
   ·obtain⟨c,hc⟩:=hx (n,k) Nd (by simpa using hk)
    have hc':env.cells.lookup n=some c:=hc
    have e1:cellOf env n=pure c:=by unfold cellOf;rw[hc']
    simp only[hk,if_true,e1,pure_bind,hc',Option.getD_some]
    exact ih _ hr
   ·simp only[hk,Ov,if_false,pure_bind]
    exact ih _ hr
 have:=all scope.names [] h
 simp only[closureFor]
 first
  |exact this
  |(refine QQ ?_ (this);rfl)
  |(rw[show(forIn scope.names ([]:List (LK×LL)) _:Sem _)=_ from this];rfl)
theorem j9{env:Mo}:∀(names:List (LK×MZ))(acc:List (LK×LL))(x:LK)(c:LL),(x,c)∈bh env names acc->((x,NJ)∈names/\c=(env.cells.lookup x).getD 0)\/(x,c)∈acc
 |[],_,_,_,h=>.inr h
 |(y,k)::r,acc,x,c,h=>by
  unfold bh at h
  split at h
  ·rename_i hk
   have hk:k=.free:=by simpa using hk
   rcases j9 r _ x c h with⟨h1,h2⟩|h1
   ·exact .inl ⟨MU _ h1,h2⟩
   ·rcases L9.mp h1 with e|h1
    ·cases e;subst hk;exact .inl ⟨Nd,rfl⟩
    ·exact .inr h1
  ·rcases j9 r _ x c h with⟨h1,h2⟩|h1
   ·exact .inl ⟨MU _ h1,h2⟩
   ·exact .inr h1
theorem jW{env:Mo}:∀(names:List (LK×MZ))(acc:List (LK×LL))(p:LK×LL),p∈acc->p∈bh env names acc
 |[],_,_,h=>h
 |(y,k)::r,acc,p,h=>by
  unfold bh
  split
  ·exact jW r _ p (MU _ h)
  ·exact jW r _ p h
theorem jX{env:Mo}:∀(names:List (LK×MZ))(acc:List (LK×LL))(x:LK),(x,NJ)∈names->(x,(env.cells.lookup x).getD 0)∈bh env names acc
 |[],_,_,h=>nomatch h
 |(y,k)::r,acc,x,h=>by
  unfold bh
  rcases L9.mp h with e|h
  ·cases e
   rw[if_pos (by rfl)]
   exact jW r _ _ Nd
  ·split
   ·exact jX r _ x h
   ·exact jX r _ x h
theorem mem_lookup{α:Type}:∀{l:List (LK×α)}{x:LK}{c:α},(x,c)∈l->∃d,l.lookup x=some d
 |(k,v)::r,x,c,h=>by
  rw[NH]
  cases hb:x==k with
  |true=>exact⟨v,rfl⟩
  |false=>
   rcases L9.mp h with e|h
   ·cases e;simp at hb
   ·exact mem_lookup h
theorem kQ{env:Mo}{names:List (LK×MZ)}{x:LK}{c:LL}(h:(bh env names []).lookup x=some c)(hh:∀y∈names,y.2=.free->∃c,env.cells.lookup y.1=some c):
  (x,NJ)∈names/\env.cells.lookup x=some c:=by
 rcases j9 names [] x c (mem_of_lookup h)with⟨h1,h2⟩|h1
 ·obtain⟨d,hd⟩:=hh _ h1 rfl
  have hd':env.cells.lookup x=some d:=hd
  rw[hd']at h2
  exact⟨h1,by rw[h2];exact hd'⟩
 ·exact nomatch h1
theorem nP{env:Mo}{names:List (LK×MZ)}{x:LK}(hx:(x,NJ)∈names)(hh:∀y∈names,y.2=.free->∃c,env.cells.lookup y.1=some c):
  ∃c,(bh env names []).lookup x=some c/\env.cells.lookup x=some c:=by
 obtain⟨d,hd⟩:=mem_lookup (jX names [] x hx)
 exact⟨d,hd,(kQ hd hh).2⟩
theorem pZ:∀(names:List (LK×MZ))(n:Nat)(acc:List (LK×LL))(x:LK),(x,Nm)∉names->(MT n names acc).lookup x=acc.lookup x
 |[],_,_,_,_=>rfl
 |(y,k)::r,n,acc,x,h=>by
  unfold MT
  have hr:(x,Nm)∉r:=fun z=>h (MU _ z)
  split
  ·rename_i hk
   have hk:k=.cell:=by simpa using hk
   rw[pZ r _ _ x hr,NH]
   cases hb:x==y with
   |true=>
    have e:x=y:=by simpa using hb
    exact absurd Nd (by subst e;subst hk;exact h)
   |false=>rfl
  ·exact pZ r n acc x hr
theorem xK:∀(names:List (LK×MZ))(n:Nat)(acc:List (LK×LL))(x:LK),(x,Nm)∈names->∃c,n<=c/\(MT n names acc).lookup x=some c
 |[],_,_,_,h=>nomatch h
 |(y,k)::r,n,acc,x,h=>by
  unfold MT
  by_cases hr:(x,Nm)∈r
  ·split
   ·obtain⟨c,h1,h2⟩:=xK r (n+1) ((y,n)::acc) x hr
    exact⟨c,by omega,h2⟩
   ·exact xK r n acc x hr
  ·have e:(x,Nm)=(y,k):=(L9.mp h).resolve_right hr
   injection e with e1 e2
   subst e1
   subst e2
   rw[if_pos (by rfl),pZ r _ _ x hr,NH]
   simp
theorem Er:∀(names:List (LK×MZ))(h:LV)(acc:List (LK×LL))(x:LK)(c:LL),(MT h.objs.size names acc).lookup x=some c->(Ow h names).IsCell c none\/acc.lookup x=some c
 |[],_,_,_,_,h=>.inr h
 |(y,k)::r,h,acc,x,c,e=>by
  unfold MT at e
  unfold Ow
  by_cases hk:(k==Nm)=true
  ·rw[if_pos hk]at e ⊢
   have e':(MT (h.push {cls:=.type "cell",data:=.cell none}).objs.size r ((y,h.objs.size)::acc)).lookup x=some c:=by rw[Nl];exact e
   rcases Er r _ _ x c e' with q|q
   ·exact .inl q
   ·rw[NH]at q
    cases hb:x==y with
    |true=>
     rw[hb]at q
     have q':h.objs.size=c:=MB q
     subst q'
     exact .inl ((show(h.push {cls:=.type "cell",data:=.cell none}).IsCell h.objs.size none from⟨_,Mu _ rfl,rfl⟩).keeps (pushCells_keeps _ _))
    |false=>rw[hb]at q;exact .inr q
  ·rw[if_neg hk]at e ⊢
   exact Er r h acc x c e
theorem Bu:∀(names:List (LK×MZ))(n:Nat)(acc:List (LK×LL)),(∀x c,acc.lookup x=some c->c<n)->(∀x y c,acc.lookup x=some c->acc.lookup y=some c->x=y)->
  ∀x y c,(MT n names acc).lookup x=some c->(MT n names acc).lookup y=some c->x=y
 |[],_,_,_,h=>h
 |(z,k)::r,n,acc,h1,h2=>by
  unfold MT
  split
  ·refine Bu r (n+1) _ (fun x c e=>?_) fun x y c e e'=>?_
   ·rw[NH]at e
    cases hb:x==z with
    |true=>rw[hb]at e;exact(MB e)▸P6 n
    |false=>rw[hb]at e;exact Qw (h1 x c e)
   ·rw[NH]at e e'
    cases hb:x==z with
    |true=>
     rw[hb]at e
     have ec:n=c:=MB e
     cases hb':y==z with
     | true => have a : x = z := by simpa using hb
               have b:y=z:=by simpa using hb'
               rw[a,b]
     |false=>rw[hb']at e';exact absurd (h1 y c e') (by rw[<-ec];exact Nk n)
    |false=>
     rw[hb]at e
     cases hb':y==z with
     |true=>
      rw[hb']at e'
      have ec:n=c:=MB e'
      exact absurd (h1 x c e) (by rw[<-ec];exact Nk n)
     |false=>rw[hb']at e';exact h2 x y c e e'
  ·exact Bu r n acc h1 h2
structure rE(N0:List LK)(sc:MP)(N:List LK)(scope:MP)(mp:List (Option Nat)):Prop where
 kind:scope.kind=.function
 nd:(scope.names.map (·.1)).Nodup
 freeB:(scope.names.all fun x=>!decide (x.2=.free) || (decide (sc.names.lookup x.1=some .cell) || decide (sc.names.lookup x.1=some .free)))=true
 len:mp.length=N.length
 map:((Me mp.length).all fun i=>match mp[i]? with
  |some (some j)=>(match N[i]?,N0[j]? with
   |some x,some y=>decide (x=y)&&decide (scope.names.lookup x=some .free)
   |_,_=>false)
  |_=>true)=true
theorem rE.free{N0:List LK}{sc:MP}{N:List LK}{scope:MP}{mp:List (Option Nat)}(S:rE N0 sc N scope mp):∀x∈scope.names,x.2=.free->sc.names.lookup x.1=some .cell\/sc.names.lookup x.1=some .free:=fun x hx e=>by
 have q:=Ny.mp S.freeB x hx
 rw[decide_eq_true e]at q
 simpa using q
theorem rE.at{N0:List LK}{sc:MP}{N:List LK}{scope:MP}{mp:List (Option Nat)}(S:rE N0 sc N scope mp){i j:Nat}(h:mp[i]?=some (some j)):
  ∃x,N[i]?=some x/\N0[j]?=some x/\scope.names.lookup x=some .free:=by
 have hi:i<mp.length:=(Mx.mp h).1
 have q:=Ny.mp S.map i (NC.mpr hi)
 rw[h]at q
 simp only at q
 cases e1:N[i]? with
 |none=>rw[e1]at q;simp at q
 |some x=>
  cases e2:N0[j]? with
  |none=>rw[e1,e2]at q;simp at q
  |some y=>
   rw[e1,e2]at q
   simp only[ND,decide_eq_true_eq]at q
   obtain⟨q1,q2⟩:=q
   subst q1
   exact⟨x,rfl,rfl,q2⟩
theorem dU{α:Type}:∀{l:List (LK×α)}{x:LK}{a:α},(l.map (·.1)).Nodup->(x,a)∈l->l.lookup x=some a
 |(k,v)::r,x,a,nd,h=>by
  have nd:(k::r.map (·.1)).Nodup:=nd
  obtain⟨n1,n2⟩:=MJ.mp nd
  rw[NH]
  rcases L9.mp h with e|h'
  ·cases e;simp
  ·have ne:(x==k)=false:=by
    cases hb:x==k with
    |false=>rfl
    |true=>
     have e:x=k:=by simpa using hb
     subst e
     exact(n1 (LY.mpr ⟨(x,a),h',rfl⟩)).elim
   rw[ne]
   exact dU n2 h'
noncomputable def cK(mp:List (Option Nat))(σ:St):St:=mp.map fun o=>o.bind fun j=>(σ[j]?).join
noncomputable def fj(X:Cx)(N:List LK)(scope:MP)(C:LL)(cl:List (LK×LL))(s:LN)(H:Hp)(fp:List LL)(pins:List (LL×LS)):Cx where
 prog:=X.prog
 w:=X.w
 K:=X.K
 mg:=X.mg
 base:=X.base
 A:=X.A
 N:=N
 s₀:=s
 H₀:=H
 env:=compEnvC scope (MT (C+1) scope.names cl) C X.env
 outer:=X.stack
 stack:=X.stack
 ex:=fp
 fn:=fun x=>decide (scope.names.lookup x=some .cell)
 calm:=X.calm
 pn:=X.pn++pins
 xe:=fun _ _=>False
theorem fv{env:Mo}:∀{names:List (LK×MZ)}{x:LK}{k:MZ},(names.map fun (n,k)=>if(k==NJ&&env.scope.kind==.function&&env.kindOf n==some .cell)then(n,Nm)else(n,k)).lookup x=some k->
  names.lookup x=some k\/(names.lookup x=some .free/\k=.cell/\env.kindOf x=some .cell)
 |[],_,_,h=>by simp at h
 |(n,k')::r,x,k,h=>by
  have ih:=@fv env r x k
  rw[MQ]at h
  rw[NH]
  cases hx:x==n with
  |true=>
   have e:x=n:=by simpa using hx
   subst e
   by_cases hc:(k'==NJ&&env.scope.kind==.function&&env.kindOf x==some .cell)=true
   ·simp only[hc,if_true,NH,beq_self_eq_true,Ts]at h
    rw[ND,ND]at hc
    obtain⟨⟨c1,_⟩,c3⟩:=hc
    exact .inr ⟨by rw[show k'=.free by simpa using c1],h.symm,by simpa using c3⟩
   ·simp only[hc,Ov,if_false,NH,beq_self_eq_true,Ts]at h
    exact .inl (by rw[h])
  |false=>
   refine ih ?_
   by_cases hc:(k'==NJ&&env.scope.kind==.function&&env.kindOf n==some .cell)=true
   ·simpa only[hc,if_true,NH,hx]using h
   ·simpa only[hc,Ov,if_false,NH,hx]using h
theorem Iw{M:Model}{A:Mb}{E:LM->LN->Prop}{s:LN}{scope:MP}{globals:LL}{cl:List (LK×LL)}{qual:LK}{env:Mo}{Q:Mo->LN->Prop}
  (h:Q {scope:=scope,locals:=s.heap.objs.size,globals:=globals,cells:=MT (s.heap.objs.size+1) scope.names cl,qual:=qual,func:=none,code:=env.code,frame:=env.frame,builtins:=env.builtins}
   {s with heap:=Ow (s.heap.push {cls:=.type "dict",data:=.dict #[]}) scope.names}):
  LP M A (newFunctionEnv scope globals cl [] qual none .none (some env)) Q E s:=by
 simp only[newFunctionEnv,R1,if_true]
 refine LQ (wpAny_alloc ?_)
 refine LQ (wpAny_layCells _ (fun name kind cells=>by cases hkc:kind==Nm<;>simp[hkc]) _ _ _ _ ?_)
 rw[show({s with heap:=s.heap.push {cls:=.type "dict",data:=.dict #[]}}:LN).heap.objs.size=s.heap.objs.size+1 from Nl ..]
 first
  |exact LQ (Mc (Mc h))
  |exact Mc h
  |(rw[Po];exact LQ (Mc (Mc h)))
section
variable {X:Cx}{pins:List (LL×LS)}{σ:St}{H:Hp}{s:LN}
theorem C0{N:List LK}{scope:MP}{mp:List (Option Nat)}{fp:List LL}(S:rE X.N X.env.scope N scope mp)(I:Inv X pins σ H s)(f:∀b∈fp,pE X pins H b)(fo:∀b∈fp,b<s.heap.objs.size):
  Inv (fj X N scope s.heap.objs.size (bh X.env scope.names []) s H fp pins) [] (cK mp σ) H {s with heap:=Ow (s.heap.push {cls:=.type "dict",data:=.dict #[]}) scope.names}:=by
 have hk:∀b o,s.heap.get? b=some o->(Ow (s.heap.push {cls:=.type "dict",data:=.dict #[]}) scope.names).get? b=some o:=fun b o e=>pushCells_keeps _ _ b o (Mq _ e)
 have hfree:∀y∈scope.names,y.2=.free->∃c,X.env.cells.lookup y.1=some c:=fun y hy hf=>I.ok.has y.1 (S.free y hy hf)
 have clo:∀x c,(bh X.env scope.names []).lookup x=some c->(x,NJ)∈scope.names/\X.env.cells.lookup x=some c:=fun x c e=>kQ e hfree
 have old:∀x c,X.env.cells.lookup x=some c->c<s.heap.objs.size:=fun x c e=>by
  obtain⟨v,q⟩:=I.cell x c e
  exact q.lt
 have cell_of:∀x c,(MT (s.heap.objs.size+1) scope.names (bh X.env scope.names [])).lookup x=some c->(s.heap.objs.size+1<=c/\(x,Nm)∈scope.names)\/((x,NJ)∈scope.names/\X.env.cells.lookup x=some c):=fun x c e=>by
  by_cases hx:(x,Nm)∈scope.names
  ·obtain⟨d,h1,h2⟩:=xK scope.names (s.heap.objs.size+1) (bh X.env scope.names []) x hx
   rw[h2]at e
   cases e
   exact .inl ⟨h1,hx⟩
  ·rw[pZ _ _ _ x hx]at e
   exact .inr (clo x c e)
 have isCell:∀x c,(MT (s.heap.objs.size+1) scope.names (bh X.env scope.names [])).lookup x=some c->∃v,(Ow (s.heap.push {cls:=.type "dict",data:=.dict #[]}) scope.names).IsCell c v:=fun x c e=>by
  have e':(MT (s.heap.push {cls:=.type "dict",data:=.dict #[]}).objs.size scope.names (bh X.env scope.names [])).lookup x=some c:=by rw[Nl];exact e
  rcases Er scope.names _ _ x c e' with q|q
  ·exact⟨none,q⟩
  ·obtain⟨v,z⟩:=I.cell x c (clo x c q).2
   exact⟨v,z.keeps hk⟩
 refine⟨⟨I.ok.mod,S.kind,I.ok.glob,I.ok.blt,L0 _,?_,?_,?_,I.ok.hd,I.ok.frames,.inl rfl,?_,I.bs,Ma I.ok.bsz I.sz,?_,?_,I.stack,I.stkFree⟩,
  rfl,I.bare,Un.kept hk,⟨fun _=>none,?_,?_⟩,isCell,I.hok.fresh (L0 _),?_,?_,I.hok.kept hk,?_⟩
 ·
  refine Bu scope.names _ _ (fun x c e=>?_) fun x y c e e'=>I.ok.inj x y c (clo x c e).2 (clo y c e').2
  exact Qw (old x c (clo x c e).2)
 ·
  intro x hx
  have key:(x,Nm)∈scope.names\/(x,NJ)∈scope.names:=by
   have hx':(relabel scope X.env).names.lookup x=some .cell\/(relabel scope X.env).names.lookup x=some .free:=hx
   rcases hx' with q|q
   ·rcases fv q with z|⟨z,_,_⟩
    ·exact .inl (mem_of_lookup z)
    ·exact .inr (mem_of_lookup z)
   ·rcases fv q with z|⟨z,_,_⟩
    ·exact .inr (mem_of_lookup z)
    ·exact .inr (mem_of_lookup z)
  by_cases hc:(x,Nm)∈scope.names
  ·obtain⟨d,_,h2⟩:=xK scope.names (s.heap.objs.size+1) (bh X.env scope.names []) x hc
   exact⟨d,h2⟩
  ·obtain⟨d,h2,_⟩:=nP (key.resolve_left hc) hfree
   exact⟨d,by show(MT (s.heap.objs.size+1) scope.names (bh X.env scope.names [])).lookup x=some d;rw[pZ _ _ _ x hc];exact h2⟩
 ·
  intro x c hf e
  have hc:(x,Nm)∈scope.names:=mem_of_lookup (of_decide_eq_true hf)
  rcases cell_of x c e with⟨h1,_⟩|⟨h1,_⟩
  ·exact Q0 h1
  ·have q1:=dU S.nd hc
   have q2:=dU S.nd h1
   rw[q1]at q2;cases q2
 ·
  intro b hb
  refine⟨Ms (fo b hb),fun x c e z=>?_⟩
  subst z
  rcases cell_of x c e with⟨h1,_⟩|⟨_,h1⟩
  ·exact absurd (MD (fo c hb) (Q0 h1)) (Nk _)
  ·exact(f c hb).2.2.2.2.1 x c h1 rfl
 ·
  intro b o e hb
  rcases(f b hb).2.2.2.1 with z|z
  ·exact I.ok.noex b o e z
  ·exact absurd (MD (MD (Mi e) I.ok.bsz) z) (Nk _)
 ·
  intro b hb hs
  rcases L9.mp (I.stkSub b hs)with z|z
  ·exact(f b hb).2.1 z
  ·exact(f b hb).2.2.1 z
 ·
  exact(Vy s.heap (.type "dict")).keeps (pushCells_keeps _ _)
 ·
  intro i x v e1 e2 _
  have e2':(mp.map fun o=>o.bind fun j=>(σ[j]?).join)[i]?=some (some v):=e2
  rw[MO]at e2'
  cases em:mp[i]? with
  |none=>rw[em]at e2';cases e2'
  |some o=>
   rw[em]at e2'
   cases o with
   |none=>cases e2'
   |some j=>
    have e3:(σ[j]?).join=some v:=MB e2'
    have e4:σ[j]?=some (some v):=by
     cases q:σ[j]? with
     |none=>rw[q]at e3;cases e3
     |some z=>rw[q]at e3;exact congrArg some e3
    obtain⟨y,h1,h2,h3⟩:=S.at em
    have h1':some x=some y:=e1.symm.trans h1
    cases h1'
    have hm:=mem_of_lookup h3
    have vis:Jq X.env.scope x:=(S.free _ hm rfl).elim (fun z=>.inr (.inl z)) fun z=>.inr (.inr z)
    obtain⟨m,hn,hl⟩:=I.loc
    obtain⟨u,r,l⟩:=hl j x v h2 e4 vis
    refine⟨u,r,.inr ?_⟩
    have nc:(x,Nm)∉scope.names:=fun z=>by
     have q2:=dU S.nd z
     rw[h3]at q2;cases q2
    obtain⟨c,hc1,hc2⟩:=nP hm hfree
    have hc3:(MT (s.heap.objs.size+1) scope.names (bh X.env scope.names [])).lookup x=some c:=by rw[pZ _ _ _ x nc];exact hc1
    have hcell:s.heap.IsCell c (some u):=by
     rcases l with⟨hk',_⟩|⟨_,c',e5,e6⟩
     ·exfalso
      have hk':X.env.scope.names.lookup x=some .local:=hk'
      rcases S.free _ hm rfl with z|z
      ·have z:X.env.scope.names.lookup x=some .cell:=z
       rw[hk']at z;cases z
      ·have z:X.env.scope.names.lookup x=some .free:=z
       rw[hk']at z;cases z
     ·rw[hc2]at e5;cases e5;exact e6
    refine⟨?_,c,hc3,hcell.keeps hk⟩
    rename_i hv
    have hv:Jq (relabel scope X.env) x:=hv
    rcases hv with z|z|z
    ·exfalso
     rcases fv (show(relabel scope X.env).names.lookup x=some .local from z)with q|⟨_,q,_⟩
     ·rw[h3]at q;cases q
     ·cases q
    ·exact .inl z
    ·exact .inr z
 ·
  intro x c e
  rcases cell_of x c e with⟨h1,_⟩|⟨_,h1⟩
  ·exact I.hok.fresh (Q0 h1)
  ·exact I.freeC x c h1
 ·
  intro p hp
  have hp':p∈X.pn++pins:=by simpa[fj]using hp
  obtain⟨e,n,ne,nf,d⟩:=I.pin p hp'
  refine⟨hk _ _ e,n,Ms (Mi e),fun z=>?_,d⟩
  rcases L9.mp (I.stkSub _ z)with q|q
  ·exact ne q
  ·exact nf q
 ·show(mp.map _).length=N.length
  rw[Md]
  exact S.len
end
noncomputable def FI(X:Cx)(ifs:List LU)(t:TT):Prop:=
 ∀(pins:List (LL×LS))(s:LN)(σ:St)(H:Hp)(Q:Bool->Hp->Prop),Inv X pins σ H s->t σ H Q->
  LP (model X.prog X.w) X.A (forIn ifs true fun c r=>if r=true then do let ok <-isTrue c X.env (eval c X.env);pure (O3 ok)else pure (O3 r)) (TP X pins σ Q) X.xe s
noncomputable def cY:TT:=fun _ H Q=>Q true H
theorem bz{X:Cx}:FI X [] cY:=fun _ _ _ H _ I h=>wpAny_tests_nil ⟨H,I,h⟩
theorem eh{X:Cx}{c:LU}{t:TT}(h:PT X c t):FI X [c] t:=fun pins s σ H Q I q=>wpAny_tests_one (h pins s σ H Q I q)
noncomputable def cO(mp:List (Option Nat))(g:TG)(tt:TT)(te:TE)(J:It)(σ:St)(H:Hp)(Q:VK):Prop:=
 ∀l,H l=none->∃W:Nat->Nat->List V->St->Hp->Prop,(∃m,W 0 m [] (cK mp σ) (upd H l (.lst [])))/\∀i m acc σ' H',W i m acc σ' H'->
  (J.stop i H'/\Q (.ref l) H')\/(J.go i H'/\acc.length<LW/\∃Nx:List V->St->Hp->Prop,(∀acc' σ2 H2,Nx acc' σ2 H2->∃m',m'<m/\W (i+1) m' acc' σ2 H2)/\
   ∀x H2,J.yld i H' x H2->g x σ' H2 fun σ2 H3=>tt σ2 H3 fun b H4=>if b=true then te σ2 H4 fun v H5=>H5 l=some (.lst acc)/\Nx (acc++[v]) σ2 (upd H5 l (.lst (acc++[v])))else Nx acc σ2 H4)
noncomputable def bL(mp:List (Option Nat))(wi:TI)(g:TG)(tt:TT)(te:TE):TE:=fun σ H Q=>wi σ H fun J H1=>cO mp g tt te J σ H1 Q
section
variable {X:Cx}{elt iter tg:LU}{ifs:List LU}{scope:MP}{pos:L8}{N:List LK}{mp:List (Option Nat)}{wi:TI}{g:TG}{tt:TT}{te:TE}
theorem tO{pins:List (LL×LS)}{σ:St}{H2:Hp}{s2:LN}{it:LL}{fp:List LL}{tn:Nat->LV->Prop}{J:It}{Q:VK}{RR:LM->LL->Result->LN->Prop}{E:LM->LN->Prop}
  (hc:X.calm=true) (S:rE X.N X.env.scope N scope mp) (I2:Inv X pins σ H2 s2) (T:Turn X.prog X.w X.K tg J fp it tn) (st2:tn 0 s2.heap) (f2:∀b∈fp,pE X pins H2 b)
  (hg:∀C cl s H fp pins,PG (fj X N scope C cl s H fp pins) tg g) (ht:∀C cl s H fp pins,FI (fj X N scope C cl s H fp pins) ifs tt) (he:∀C cl s H fp pins,PE (fj X N scope C cl s H fp pins) elt te)
  (k:cO mp g tt te J σ H2 Q)
  (fin:∀(l C:LL)(m:LK->Option LM)(s':LN)(H':Hp),Inv X pins σ H' s'->s'.heap.Ns C m->H' C=none->C≠X.env.locals->X.s₀.heap.objs.size<=C->(∀x c,X.env.cells.lookup x=some c->c≠C)->(∀p∈X.pn++pins,p.1≠C)->
   Q (.ref l) H'->RR (.ref l) C (.ok .next) s'):
  LP (model X.prog X.w) X.A (newList []) (fun acc s₃=>LP (model X.prog X.w) X.A (newFunctionEnv scope X.env.globals (bh X.env scope.names []) [] X.env.qual none .none (some X.env)) (fun cenv s₄=>
   NL (model X.prog X.w) X.A (.compStart (.ListComp elt [⟨tg,iter,ifs,0⟩] scope pos) 0 (.ref it) acc {cenv with scope:=relabel scope X.env}) (RR acc cenv.locals) s₄) E s₃) E s2:=by
 refine wpAny_newList ?_ (MK _)
 have I3:Inv X pins σ (upd H2 s2.heap.objs.size (.lst [])) {s2 with heap:=s2.heap.push {cls:=.type "list",data:=.seq ([]:List LM).toArray}}:=I2.lnew (t':=s2.toks) (its:=[]) .nil (MK _)
 have fl:H2 s2.heap.objs.size=none:=I2.fresh
 have nfl:s2.heap.objs.size∉fp:=fun z=>by
  obtain⟨o,e,_⟩:=T.obj 0 _ st2 _ z
  exact absurd (Mi e) (Nk _)
 have fo2:∀b∈fp,b<s2.heap.objs.size:=fun b hb=>by
  obtain⟨o,e,_⟩:=T.obj 0 _ st2 b hb
  exact Mi e
 have f3:∀b∈fp,pE X pins (upd H2 s2.heap.objs.size (.lst [])) b:=fun b hb=>by
  obtain⟨h0,hr⟩:=f2 b hb
  exact⟨by rw[aq (Ms (fo2 b hb))];exact h0,hr⟩
 have k3:=k s2.heap.objs.size fl
 clear k
 have st3:tn 0 (s2.heap.push {cls:=.type "list",data:=.seq ([]:List LM).toArray}):=T.keep 0 _ _ st2 fun b _ o e=>Mq _ e
 have fo3:∀b∈fp,b<(s2.heap.push {cls:=.type "list",data:=.seq ([]:List LM).toArray}).objs.size:=fun b hb=>by rw[Nl];exact Qw (fo2 b hb)
 generalize hs3:({s2 with heap:=s2.heap.push {cls:=.type "list",data:=.seq ([]:List LM).toArray}}:LN)=s3 at I3 ⊢
 have st3:tn 0 s3.heap:=by rw[<-hs3];exact st3
 have fo3:∀b∈fp,b<s3.heap.objs.size:=by rw[<-hs3];exact fo3
 generalize s2.heap.objs.size=l at *
 generalize upd H2 l (.lst [])=H3 at *
 refine Iw ?_
 have I4:=C0 S I3 f3 fo3
 obtain⟨W,⟨m0,w0⟩,turn⟩:=k3
 have st4:tn 0 (Ow (s3.heap.push {cls:=.type "dict",data:=.dict #[]}) scope.names):=T.keep 0 _ _ st3 fun b _ o e=>pushCells_keeps _ _ b o (Mq _ e)
 generalize hs4:({s3 with heap:=Ow (s3.heap.push {cls:=.type "dict",data:=.dict #[]}) scope.names}:LN)=s4 at I4 ⊢
 have st4:tn 0 s4.heap:=by rw[<-hs4];exact st4
 have stat:∀{H':Hp},(∀b∈fp,H' b=none)->∀b∈fp,pE (fj X N scope s3.heap.objs.size (bh X.env scope.names []) s3 H3 fp pins) [] H' b:=fun {H'} hn b hb=>by
  refine⟨hn b hb,(I4.ok.exf b hb).1,I4.ok.exfs b hb,.inl hb,(I4.ok.exf b hb).2,fun p hp=>?_⟩
  exact(f3 b hb).2.2.2.2.2 p (by simpa[fj]using hp)
 have back:∀{σ':St}{H':Hp}{s':LN}{ps:List (LL×LS)},Inv (fj X N scope s3.heap.objs.size (bh X.env scope.names []) s3 H3 fp pins) ps σ' H' s'->Inv X pins σ H' s':=fun {σ' H' s' ps} I'=>
  I3.call' (ch:=fp) I'.os I'.base I'.hok I'.bare fun b hb=>⟨(f3 b hb).2.2.2.1,(f3 b hb).2.1,(f3 b hb).2.2.2.2.1,(f3 b hb).2.2.2.2.2⟩
 have loop:NL (model X.prog X.w) X.A (.compLoop (.ListComp elt [⟨tg,iter,ifs,0⟩] scope pos) 0 (.ref it) (.ref l) (compEnvC scope (MT (s3.heap.objs.size+1) scope.names (bh X.env scope.names [])) s3.heap.objs.size X.env)) (RR (.ref l) s3.heap.objs.size) s4:=by
  refine yg (fun n s'=>∃i acc σ' H',Inv (fj X N scope s3.heap.objs.size (bh X.env scope.names []) s3 H3 fp pins) [] σ' H' s'/\tn i s'.heap/\(∀b∈fp,H' b=none)/\W i n acc σ' H') ?_ m0
   ⟨0,[],cK mp σ,H3,I4,st4,fun b hb=>(f3 b hb).1,w0⟩
  rintro n s5 ⟨i,acc,σ5,H5,I5,st5,fr5,w5⟩
  rcases turn i n acc σ5 H5 w5 with⟨stop,q⟩|⟨go,hz,Nx,hN,step⟩
  ·refine ck (T.done (fj X N scope s3.heap.objs.size (bh X.env scope.names []) s3 H3 fp pins) rfl rfl rfl hc i [] s5 σ5 H5 _ I5 (stat fr5) st5 stop) fun r s6 ⟨hr,I6⟩=>?_
   subst hr
   obtain⟨m,hn,_⟩:=I6.loc
   refine fin l _ m s6 H5 (back I6) hn I6.free ?_ I3.sz (fun x c e z=>?_) (fun p hp z=>?_) q
   ·exact Nh I3.lt
   ·obtain⟨v,y⟩:=I3.cell x c e
    exact absurd y.lt (by rw[z];exact Nk _)
   ·exact absurd (Mi (I3.pin p hp).1) (by rw[z];exact Nk _)
  ·refine ck (T.item (fj X N scope s3.heap.objs.size (bh X.env scope.names []) s3 H3 fp pins) rfl rfl rfl hc i [] s5 σ5 H5 _ I5 (stat fr5) st5 go) fun r s6 ⟨u,hr,h6⟩=>?_
   subst hr
   refine ck h6 fun _ s7 ⟨x,H7,I7,r7,y7,st7,fr7⟩=>?_
   have I7':=I7.pinned (stat fr7) (T.obj _ _ st7)
   have again:∀{s8:LN}{acc':List V}{σ8:St}{H8:Hp},Inv (fj X N scope s3.heap.objs.size (bh X.env scope.names []) s3 H3 fp pins) ([]++uT fp s7.heap) σ8 H8 s8->Nx acc' σ8 H8->
     ∃m,m<n/\∃i acc σ' H',Inv (fj X N scope s3.heap.objs.size (bh X.env scope.names []) s3 H3 fp pins) [] σ' H' s8/\tn i s8.heap/\(∀b∈fp,H' b=none)/\W i m acc σ' H':=fun {s8 acc' σ8 H8} I8 n8=>by
    obtain⟨m',hm,w8⟩:=hN acc' σ8 H8 n8
    refine⟨m',hm,i+1,acc',σ8,H8,I8.unpinned,T.keep _ _ _ st7 fun b hb o e=>(I8.pin (b,o) (NW _ (NW _ (j6 hb e)))).1,fun b hb=>?_,w8⟩
    obtain⟨o,e,d⟩:=T.obj _ _ st7 b hb
    exact(I8.pin (b,o) (NW _ (NW _ (j6 hb e)))).2.1
   refine ck (hg _ _ _ _ _ _ _ s7 σ5 H7 x u _ I7' r7 (step x H7 y7)) fun _ s8 ⟨σ8,H8,I8,q8⟩=>?_
   refine ck (ht _ _ _ _ _ _ _ s8 σ8 H8 _ I8 q8) fun b s9 ⟨H9,I9,q9⟩=>?_
   cases b with
   |false=>
    rw[if_neg MM]at q9 ⊢
    exact again I9 q9
   |true=>
    rw[if_pos rfl]at q9 ⊢
    refine ck (he _ _ _ _ _ _ _ s9 σ8 H9 _ I9 q9) fun v s10 ⟨y,H10,I10,r10,q10,n10⟩=>?_
    refine ck (dX _ s10 σ8 H10 (.ref l) [y] (.ref l) [v] (fun _ H'=>Nx (acc++[y]) σ8 H') I10 rfl (.cons r10 .nil) ⟨l,acc,y,rfl,rfl,q10,hz,n10⟩) fun _ s11 ⟨_,H11,I11,_,q11⟩=>?_
    exact again I11 q11
 exact codeAny_compStart_list loop (T.self _ 0 _ _ _ st4 loop)
theorem bM(hc:X.calm=true)(S:rE X.N X.env.scope N scope mp)(hi:PI X tg iter wi)
  (hg:∀C cl s H fp pins,PG (fj X N scope C cl s H fp pins) tg g) (ht:∀C cl s H fp pins,FI (fj X N scope C cl s H fp pins) ifs tt) (he:∀C cl s H fp pins,PE (fj X N scope C cl s H fp pins) elt te)
  (hs:∀x,foldedSetIterable iter X.env x=pure x:=by intro _;rfl):PE X (.ListComp elt [⟨tg,iter,ifs,0⟩] scope pos) (bL mp wi g tt te):=by
 intro pins s σ H Q I h
 rw[eval_ListComp]
 have hfree:∀y∈scope.names,y.2=.free->∃c,X.env.cells.lookup y.1=some c:=fun y hy hf=>I.ok.has y.1 (S.free y hy hf)
 refine wpAny_comprehension_free (use:=none) rfl hs (kT hfree) S.kind (fun x hx e=>dU S.nd (by rw[<-e];exact hx)) ?_
 show LP _ _ (eval iter X.env) _ _ _
 refine ck (hi pins s σ H _ I h) fun v s1 h1=>ck h1 fun itv s2 h2=>?_
 obtain⟨it,fp,tn,J,H2,e,I2,T,st2,f2,k⟩:=h2
 subst e
 refine tO (RR:=fun acc C=>compPost (model X.prog X.w) X.A X.xe none (EP X pins σ Q) acc C) hc S I2 T st2 f2 hg ht he k ?_
 intro l C m s' H' I' hn hC h1 h2 h3 h4 q
 exact⟨m,hn,fun h' hb=>⟨.ref l,H',I'.turned (t':=s'.toks) (it:=C) (fun b o hbC e=>hb.extBut b o hbC e) hC (Mm (Mm h1)) (.inr h2) h3 h4,rfl,q⟩⟩
theorem gS{i:Nat}{x:LK}{pos' spos:L8}(hN:X.N.Nodup)(hxi:X.N[i]?=some x)(hx:Loc X.env.scope x)(hc:X.calm=true)(S:rE X.N X.env.scope N scope mp)(hi:PI X tg iter wi)
  (hg:∀C cl s H fp pins,PG (fj X N scope C cl s H fp pins) tg g) (ht:∀C cl s H fp pins,FI (fj X N scope C cl s H fp pins) ifs tt) (he:∀C cl s H fp pins,PE (fj X N scope C cl s H fp pins) elt te)
  (hsw:swapsWith (.ListComp elt [⟨tg,iter,ifs,0⟩] scope pos) (some (.Name x pos')) spos.line X.env=pure true)
  (hf:X.fn x=true\/X.env.scope.names.lookup x=some .local:=by first|exact .inl rfl|exact .inr rfl|assumption)
  (hs:∀x,foldedSetIterable iter X.env x=pure x:=by intro _;rfl):PS X (.Assign [.Name x pos'] (.ListComp elt [⟨tg,iter,ifs,0⟩] scope pos) spos) (bC (bL mp wi g tt te) (au i)):=by
 intro pins s σ H D I h
 have hfree:∀y∈scope.names,y.2=.free->∃c,X.env.cells.lookup y.1=some c:=fun y hy hf=>I.ok.has y.1 (S.free y hy hf)
 rw[exec_Assign_Name_used _ _ _ _ hsw]
 refine LQ (wpAny_standAt (LQ ?_))
 show LP _ _ (do let _ <-comprehension (.ListComp elt [⟨tg,iter,ifs,0⟩] scope pos) scope X.env _ (newList []) false (eval iter X.env) (some (assign (.Name x pos') X.env))) _ _ s
 refine LQ (M3 (wpAny_comprehension_free (use:=some (assign (.Name x pos') X.env)) (Q:=fun _ s'=>SP X pins D .next s') rfl hs (kT hfree) S.kind (fun x hx e=>dU S.nd (by rw[<-e];exact hx)) ?_) (fun _ s' hq=>Mc (Mc hq)) fun _ _ e=>e)
 refine ck (hi pins s σ H _ I h) fun v s1 h1=>ck h1 fun itv s2 h2=>?_
 obtain⟨it,fp,tn,J,H2,e,I2,T,st2,f2,k⟩:=h2
 subst e
 refine tO (Q:=fun y H1=>au i y σ H1 D.nx) (RR:=fun acc C=>compPost (model X.prog X.w) X.A X.xe (some (assign (.Name x pos') X.env)) (fun _ s'=>SP X pins D .next s') acc C) hc S I2 T st2 f2 hg ht he k ?_
 intro l C m s' H' I' hn hC h1 h2 h3 h4 q
 show LP _ _ (assign (.Name x pos') X.env (.ref l)) _ _ _
 refine wpAny_assign_Name (xn I' hN hxi hx (v:=.ref l) rfl (fun s'' I'' ⟨a,hsb,ha⟩=>?_) hf)
 have hCa:C≠a:=by
  rcases ha with z|z
  ·rw[z];exact h1
  ·exact fun y=>h3 x a z y.symm
 exact⟨m,hn.sameBut hsb hCa,fun h' hb=>⟨_,H',I''.turned (t':=s''.toks) (it:=C) (fun b o hbC e=>hb.extBut b o hbC e) hC (Mm (Mm h1)) (.inr h2) h3 h4,q⟩⟩
end
section
variable {mp:List (Option Nat)}{g:TG}{tt:TT}{te:TE}{σ:St}{H:Hp}{Q:VK}
theorem D2{K:LO}{a:LL}{xs:List V}(Pv:LL->Nat->List V->St->Hp->Prop)(h0:∀l,H l=none->Pv l 0 [] (cK mp σ) (upd H l (.lst [])))
  (hl:∀l i acc σ' H',H l=none->Pv l i acc σ' H'->aK K H' a xs/\acc.length<=i)
  (hs:∀l i x acc σ' H',H l=none->xs[i]?=some x->Pv l i acc σ' H'->g x σ' H' fun σ2 H3=>tt σ2 H3 fun b H4=>if b=true then te σ2 H4 fun v H5=>H5 l=some (.lst acc)/\Pv l (i+1) (acc++[v]) σ2 (upd H5 l (.lst (acc++[v])))else Pv l (i+1) acc σ2 H4)
  (hd:∀l acc σ' H',H l=none->Pv l xs.length acc σ' H'->Q (.ref l) H') (hz:xs.length<=LW):cO mp g tt te (CP K a) σ H Q:=by
 intro l hn
 exists fun i m acc σ H=>m=xs.length-i/\i<=xs.length/\Pv l i acc σ H,⟨xs.length,by simp,MK _,h0 l hn⟩
 rintro i m acc σ' H' ⟨rfl,hi,p⟩
 obtain⟨q,ha⟩:=hl l i acc σ' H' hn p
 by_cases hlt:i<xs.length
 ·refine .inr ⟨⟨xs,xs[i],q,by simp[hlt]⟩,by omega,Pv l (i+1),fun acc' σ2 H2 p'=>⟨xs.length-(i+1),by omega,rfl,hlt,p'⟩,fun x H2 y=>?_⟩
  obtain⟨e,y⟩:=y
  subst e
  exact hs l i x acc σ' _ hn (y xs q) p
 ·have e:i=xs.length:=by omega
  subst e
  exact .inl ⟨⟨xs,q,L0 _⟩,hd l acc σ' H' hn p⟩
theorem AV{lo:Int}{n:Nat}(Pv:LL->Nat->List V->St->Hp->Prop)(h0:∀l,H l=none->Pv l 0 [] (cK mp σ) (upd H l (.lst [])))
  (hl:∀l i acc σ' H',H l=none->Pv l i acc σ' H'->acc.length<=i)
  (hs:∀l i acc σ' H',H l=none->i<n->Pv l i acc σ' H'->g (.int (lo+i)) σ' H' fun σ2 H3=>tt σ2 H3 fun b H4=>if b=true then te σ2 H4 fun v H5=>H5 l=some (.lst acc)/\Pv l (i+1) (acc++[v]) σ2 (upd H5 l (.lst (acc++[v])))else Pv l (i+1) acc σ2 H4)
  (hd:∀l acc σ' H',H l=none->Pv l n acc σ' H'->Q (.ref l) H') (hz:n<=LW):cO mp g tt te (En lo n) σ H Q:=by
 intro l hn
 exists fun i m acc σ H=>m=n-i/\i<=n/\Pv l i acc σ H,⟨n,by simp,MK _,h0 l hn⟩
 rintro i m acc σ' H' ⟨rfl,hi,p⟩
 have ha:=hl l i acc σ' H' hn p
 by_cases hlt:i<n
 ·refine .inr ⟨hlt,by omega,Pv l (i+1),fun acc' σ2 H2 p'=>⟨n-(i+1),by omega,rfl,hlt,p'⟩,fun x H2 y=>?_⟩
  obtain⟨e,y⟩:=y
  subst e y
  exact hs l i acc σ' _ hn hlt p
 ·have e:i=n:=by omega
  subst e
  exact .inl ⟨L0 _,hd l acc σ' H' hn p⟩
end
section
variable {X:Cx}
theorem u1(hc:X.calm=true):eu X (.builtin "sum") (fun xs H Q=>∃(p:LL)(ns:List Int),xs=[.ref p]/\aK X.K H p (ns.map V.int)/\Q (.int ns.sum) H):=by
 intro pins s σ H xs us Q I r h
 obtain⟨p,ns,rfl,hS,q⟩:=h
 obtain⟨u,rfl,ru⟩:=vals1 r
 cases ru
 obtain⟨its,rv,pl,hz⟩:=I.list hS
 have hi:OB its ns:=intsAre_of rv
 have hall:AllInts its.toArray:=hi.allInts
 obtain⟨zs,ez⟩:=hall.items
 have hl:s.heap.IsList p (intItems zs):=by rw[<-ez];exact pl.isList
 refine sum_intListG (I.ok.hd hc) hl fun h' tk t' k=>⟨.int ns.sum,H,I.kept k,⟨t',?_⟩,q⟩
 have e1:ns=numsOf (intItems zs).toList:=by rw[<-ez];exact hi.numsOf.symm
 rw[e1,nums_intItems,preSum_eq,Nt (by simp)]
theorem rg:eu X (.builtin "sorted") (fun xs H Q=>∃(p:LL)(ns:List Int),xs=[.ref p]/\aK X.K H p (ns.map V.int)/\ns.length<64/\∀(l:LL)(ms:List Int),H l=none->ms.Perm ns->ms.Pairwise (·<=·)->Q (.ref l) (upd H l (.lst (ms.map V.int)))):=by
 intro pins s σ H xs us Q I r h
 obtain⟨p,ns,rfl,hS,h64,q⟩:=h
 obtain⟨u,rfl,ru⟩:=vals1 r
 cases ru
 obtain⟨its,rv,pl,hz⟩:=I.list hS
 have hi:OB its ns:=intsAre_of rv
 have hl:=hi.length
 refine sorted_ints pl.isList hi (by omega) fun out ms a1 a2 a3=>?_
 obtain⟨e,he⟩:=sortedAll_at s.heap its out
 have hf:H (s.heap.objs.size+1)=none:=I.hok.fresh (Nq _)
 refine⟨.ref (s.heap.objs.size+1),_,I.laid (t':=s.toks) (a:=s.heap.objs.size+1) (o:=.lst (ms.map V.int)) (fun b u e=>sortedAll_old e) (Nq _) ⟨?_,out.toList,e,qU a1,?_⟩,rfl,q _ ms hf a2 a3⟩
 ·rw[Md,a2.length_eq]
  exact Ma (NU h64) (by decide)
 ·rw[QH]
  exact he
theorem zL(hc:X.calm=true):eu X (.builtin "all") (fun xs H Q=>∃(p:LL)(bs:List Bool),xs=[.ref p]/\aK X.K H p (bs.map V.bl)/\Q (.bl (bs.all id)) H):=by
 intro pins s σ H xs us Q I r h
 obtain⟨p,bs,rfl,hS,q⟩:=h
 obtain⟨u,rfl,ru⟩:=vals1 r
 cases ru
 obtain⟨its,rv,pl,hz⟩:=I.list hS
 have hlt:p<s.heap.objs.size:=by obtain⟨_,e,_⟩:=pl.isList;exact Mi e
 have hlen:its.length=bs.length:=by rw[<-rv.length,Md]
 refine call_all_walk (Qn pl.isList ?_)
 refine⟨s.heap.objs.size,_,_,_,_,_,fun i=>(bs[i]?).getD true,rfl,Sq (A:=X.A.in1) (I.ok.hd hc) _ p (Ms hlt) its.toArray,⟨⟨_,Mu _ rfl,rfl,rfl⟩,pl.isList.push _⟩,?_,fun h' tk hk=>?_⟩
 ·intro i v s' Q' E' hv hq
  have hv':its[i]?=some v:=by simpa using hv
  have hi:i<bs.length:=by rw[<-hlen];exact(Mx.mp hv').1
  have e1:(bs.map V.bl)[i]?=some (V.bl bs[i]):=by simp[hi]
  obtain⟨w',h1,h2⟩:=rv.get e1
  rw[hv']at h1
  cases h1
  have h2:v=Om bs[i]:=h2
  subst h2
  have e2:(bs[i]?).getD true=bs[i]:=by simp[hi]
  have hq:Q' ((bs[i]?).getD true) s':=hq
  rw[e2]at hq
  exact OO hq
 ·have e3:((Me its.toArray.size).all fun i=>(bs[i]?).getD true)=bs.all id:=by
   rw[MC,hlen]
   apply Ng.mpr
   rw[Ny,Ny]
   constructor
   ·intro hh b hb
    obtain⟨i,hi,e⟩:=NF hb
    have:=hh i (NC.mpr hi)
    simp[hi]at this
    rw[<-e]
    simpa using this
   ·intro hh i hi
    have hi':=NC.mp hi
    have:=hh bs[i] (Na hi')
    simpa[hi']using this
  rw[e3]
  exact⟨.bl (bs.all id),H,I.kept fun b o e=>hk b o (by simp;exact Ms (Mi e)) (Mq _ e),rfl,q⟩
noncomputable def Kx(K:LO)(neg:Bool):R2:=fun x y H Q=>∃(a b:LL)(ns ms:List Int),x=.ref a/\y=.ref b/\aK K H a (ns.map V.int)/\aK K H b (ms.map V.int)/\Q (.bl (decide (ns=ms) != neg)) H
theorem Bq(hu:X.A.units+64<cLine):gQ X (MG .Eq) (Kx X.K false):=by
 intro pins s σ H x y v u Q I rx ry h
 obtain⟨a,b,ns,ms,rfl,rfl,h1,h2,q⟩:=h
 cases rx
 cases ry
 obtain⟨its,rv,pl,hz⟩:=I.list h1
 obtain⟨its2,rv2,pl2,hz2⟩:=I.list h2
 refine Vd pl.isList pl2.isList (intsAre_of rv) (intsAre_of rv2) hu ⟨.bl (decide (ns=ms)),H,I,rfl,?_⟩
 rw[OW]at q
 exact q
noncomputable def JX(i j:Int):Prop:=0<=j/\(RH i:Int)*j<=2 ^ 27
end
noncomputable def gy:R2:=AR fun i j=>.int (i+j)
noncomputable def qm:R2:=AR fun i j=>.int (i-j)
noncomputable def lM:Int:=10 ^ 1000
theorem Ap{i:Int}(h1:-lM<i)(h2:i<lM):i.natAbs.log2<4000:=by
 have e:lM<=2 ^ 4000:=by decide +kernel
 rcases Q6 i.natAbs with h0|hp
 ·rw[h0];decide +kernel
 ·refine(Nat.log2_lt (Nh hp)).mpr ?_
  have:(i.natAbs:Int)<2 ^ 4000:=by omega
  exact_mod_cast this
theorem xl{i:Int}(h1:-lM<i)(h2:i<lM):RH i<=2 ^ 20:=by
 have h:=Ap h1 h2
 have e:(4001:Nat)<=2 ^ 20:=by decide
 unfold RH
 split
 ·exact MK _
 ·omega
noncomputable def EE(i j:Int):Prop:=GC i j\/((-lM<i/\i<lM)/\-lM<j/\j<lM)
theorem EE.ok{i j:Int}(h:EE i j):IntMulOk i j:=h.elim GC.ok fun h=>.of_bits (xl h.1.1 h.1.2) (xl h.2.1 h.2.2)
noncomputable def Kp(_ j:Int):Prop:=0<j/\j<lM
theorem zG:(1073741824:Int)<lM:=by decide +kernel
noncomputable def lz:R2:=rI EE fun i j=>.int (i*j)
noncomputable def oDiv:R2:=rI Kp fun i j=>.int (i/j)
noncomputable def oMod:R2:=rI (fun _ j=>0<j) fun i j=>.int (i%j)
noncomputable def JZ(i j:Int):Prop:=Li i j\/JX i j
noncomputable def vH:R2:=rI JZ fun i j=>.int (i ^ j.toNat)
noncomputable def oLt:R2:=AR fun i j=>.bl (decide (i<j))
noncomputable def oLe:R2:=AR fun i j=>.bl (decide (i<=j))
noncomputable def HH:R2:=AR fun i j=>.bl (decide (j<i))
noncomputable def KZ:R2:=AR fun i j=>.bl (decide (j<=i))
noncomputable def G3:R2:=fun x y H Q=>y=.non/\Q (.bl (decide (x=.non))) H
noncomputable def zX:R2:=fun x y H Q=>y=.non/\Q (.bl (!decide (x=.non))) H
noncomputable def mC(K:LO):List V->Hp->VK->Prop:=fun xs H Q=>∃p ys,xs=[.ref p]/\(aK K H p ys\/gf K H p ys)/\Q (.int ys.length) H
noncomputable def DJ(K:LO):List V->Hp->VK->Prop:=fun xs H Q=>∃(p:LL)(ns:List Int),xs=[.ref p]/\aK K H p (ns.map V.int)/\Q (.int ns.sum) H
noncomputable def CF(K:LO):List V->Hp->VK->Prop:=fun xs H Q=>∃(p:LL)(ns:List Int),xs=[.ref p]/\aK K H p (ns.map V.int)/\ns.length<64/\∀(l:LL)(ms:List Int),H l=none->ms.Perm ns->ms.Pairwise (·<=·)->Q (.ref l) (upd H l (.lst (ms.map V.int)))
noncomputable def Ht(K:LO):List V->Hp->VK->Prop:=fun xs H Q=>∃(p:LL)(bs:List Bool),xs=[.ref p]/\aK K H p (bs.map V.bl)/\Q (.bl (bs.all id)) H
noncomputable def Km:List V->Hp->VK->Prop:=fun xs H Q=>∃i j,xs=[.int i,.int j]/\Q (.int (if j<i then j else i)) H
noncomputable def Kl:List V->Hp->VK->Prop:=fun xs H Q=>∃i j,xs=[.int i,.int j]/\Q (.int (if j>i then j else i)) H
noncomputable def sJ(K:LO):List V->Hp->VK->Prop:=fun xs H Q=>∃p ys,xs=[.ref p]/\(aK K H p ys\/gf K H p ys)/\∀l,H l=none->Q (.ref l) (upd H l (.lst ys))
section
variable {X:Cx}
theorem cv:gQ X (NA .Add) gy:=IE
theorem jf:gQ X (NA .Sub) qm:=HR
theorem fF:gQ X (NA .Mult) lz:=Kj fun _ _ _ _ _ _ _ hc q=>mul_int q hc.ok
theorem cg:gQ X (NA .FloorDiv) oDiv:=Kj fun i j _ _ _ _ _ hc q=>by
 have h1:(0:Int)<j:=hc.1
 have h2:j<lM:=hc.2
 have h3:-lM<j:=by have:=zG;omega
 exact floordiv_int (by omega) (by rw[Int.fdiv_eq_ediv_of_nonneg i (by omega)];exact q) (.inl (VG (PZ (Ap h3 h2) (by decide))))
theorem bw:gQ X (NA .Mod) oMod:=HY
theorem jU:gQ X (NA .Pow) vH:=Kj fun _ _ _ _ _ _ _ hc q=>hc.elim (fun h=>pow_int_small h.1 h.2.1 h.2.2 q) fun h=>pow_int h.1 h.2 q
theorem E3:gQ X (N7 .Add) gy:=Ho
theorem zR:gQ X (N7 .Sub) qm:=Gv
theorem EA:gQ X (N7 .Mult) lz:=Kj fun _ _ _ _ _ _ _ hc q=>imul_int q hc.ok
theorem qo:gQ X (MG .Lt) oLt:=KJ
theorem Ew:gQ X (MG .LtE) oLe:=KD
theorem qq:gQ X (MG .Gt) HH:=Ka
theorem EI:gQ X (MG .GtE) KZ:=KO
end
structure ua(mg:LK->Option LM)(x:LK)(i:Int):Prop where
 ex:∃t,mg x=some (.int i t)
theorem ua.pe{X:Cx}{x:LK}{i:Int}{pos:L8}(k:ua X.mg x i)(hg:Gl X x)(hd:(x==("__debug__":LK))=false:=by decide):PE X (.Name x pos) (tC (.int i)):=by
 obtain⟨t,e⟩:=k.ex
 exact xY hg e ⟨t,rfl⟩ hd
theorem IW{K:LO}{mg:LK->Option LM}{h:LV}{x:LK}{i:Int}{t:Tok}(X:K.In h)(G:h.Ns MF mg)(z:Nb K MF x=some (some (.int i t))):ua mg x i:=⟨t,Ot X G z⟩
theorem av.upd{H H':Hp}(e:av H H'){l:LL}{o:HO}(h:H l=none):av H (upd H' l o):=fun b u q=>by
 rw[aq (aZ q h)]
 exact e b u q
theorem av.updN{H:Hp}{l:LL}{o:HO}(h:H l=none):av H (L2.upd H l o):=fun b u q=>by
 rw[aq (aZ q h)]
 exact q
theorem av.seqT{K:LO}{H H':Hp}{a:LL}{xs:List V}(e:av H H')(h:gf K H a xs):gf K H' a xs:=by
 rcases h with(h|⟨o,h⟩)|h
 ·exact .inl (.inl (e _ _ h))
 ·exact .inl (.inr ⟨o,e _ _ h⟩)
 ·exact .inr h
section
variable {mp:List (Option Nat)}{te:TE}{tt:TT}{σ:St}{H:Hp}{Q:VK}
theorem take_snoc{α:Type}{xs:List α}{i:Nat}{x:α}(h:xs[i]?=some x):xs.take (i+1)=xs.take i++[x]:=by
 rw[Oq,h]
 rfl
theorem D8{K:LO}{a:LL}{xs:List V}(R:V->V->Prop)(caps:St)(hlift:cK mp σ=none::caps)(hx:aK K H a xs)(hz:xs.length<=LW)
  (hel:∀x∈xs,∀(H':Hp)(G:VK),av H H'->(∀v H'',R x v->av H' H''->G v H'')->te (some x::caps) H' G)
  (hd:∀l ys H',H l=none->av H H'->H' l=some (.lst ys)->L7 R xs ys->Q (.ref l) H'):cO mp (au 0) cY te (CP K a) σ H Q:=by
 refine D2 (xs:=xs) (fun l i acc σ' H'=>av H H'/\H' l=some (.lst acc)/\L7 R (xs.take i) acc/\acc.length<=i/\∃v,σ'=v::caps) (fun l hl=>⟨av.updN hl,ao,by simpa using RJ,L0 _,none,hlift⟩) ?_ ?_ ?_ hz
 ·rintro l i acc σ' H' _ ⟨s,_,_,h,_⟩
  exact⟨s.seq hx,h⟩
 ·rintro l i x acc σ' H' hl hi ⟨s,h1,h2,h3,v,rfl⟩
  simp only[au,cY,Rm]
  rw[if_pos trivial]
  refine hel x (Nr hi) H' _ s fun v H'' r s'=>⟨s' _ _ h1,(s.trans s').upd hl,ao,?_,?_,some x,rfl⟩
  ·rw[take_snoc hi]
   exact h2.snoc r
  ·rw[MR,Ou]
   omega
 ·rintro l acc σ' H' hl ⟨s,h1,h2,_⟩
  rw[Q7]at h2
  exact hd l acc H' hl s h1 h2
theorem JN{lo:Int}{n:Nat}(R:Nat->V->Prop)(caps:St)(hlift:cK mp σ=none::caps)(hz:n<=LW)
  (hel:∀i,i<n->∀(H':Hp)(G:VK),av H H'->(∀v H'',R i v->av H' H''->G v H'')->te (some (.int (lo+i))::caps) H' G)
  (hd:∀l ys H',H l=none->av H H'->H' l=some (.lst ys)->L7 R (Me n) ys->Q (.ref l) H'):cO mp (au 0) cY te (En lo n) σ H Q:=by
 refine AV (fun l i acc σ' H'=>av H H'/\H' l=some (.lst acc)/\L7 R (Me i) acc/\acc.length<=i/\∃v,σ'=v::caps) (fun l hl=>⟨av.updN hl,ao,by simpa using RJ,L0 _,none,hlift⟩) ?_ ?_ ?_ hz
 ·rintro l i acc σ' H' _ ⟨s,_,_,h,_⟩
  exact h
 ·rintro l i acc σ' H' hl hi ⟨s,h1,h2,h3,v,rfl⟩
  simp only[au,cY,Rm]
  rw[if_pos trivial]
  refine hel i hi H' _ s fun v H'' r s'=>⟨s' _ _ h1,(s.trans s').upd hl,ao,?_,?_,some _,rfl⟩
  ·rw[Oo]
   exact h2.snoc r
  ·rw[MR,Ou]
   omega
 ·rintro l acc σ' H' hl ⟨s,h1,h2,_⟩
  exact hd l acc H' hl s h1 h2
end
section
variable {K:LO}{D:Ends}{σ:St}{H:Hp}{Q:VK}{QB:Bool->Hp->Prop}{QA:List V->Hp->Prop}{t u:TS}{te ta tb tc:TE}{c d:TT}{tl:TA}{i j:Int}{k n:Nat}{v x y:V}{r r':R2}{E:XK}
theorem AL(h:t {D with nx:=u D} σ H):aF t u D σ H:=h
theorem wK(P:St->Hp->Prop)(h1:∀F:St->Hp->Prop,(∀σ' H',P σ' H'->F σ' H')->t {D with nx:=F} σ H)(h2:∀σ' H',P σ' H'->u D σ' H'):aF t u D σ H:=h1 _ h2
theorem CK(h:te σ H fun x H1=>D.nx (σ.set n (some x)) H1):bC te (au n) D σ H:=h
theorem JY(h:c σ H fun b H1=>if b=true then t D σ H1 else u D σ H1):bU c t u D σ H:=h
theorem Cf(h:te σ H D.rt):bE te D σ H:=h
theorem Jy(h:D.nx σ H):bH D σ H:=h
theorem Jp(h:te σ H fun _ H1=>D.nx σ H1):bV te D σ H:=h
theorem LI(h:Q v H):tC v σ H Q:=h
theorem LB(h:ta σ H fun x H1=>tb σ H1 fun y H2=>r x y H2 Q):aH r ta tb σ H Q:=h
theorem LA{q:V->Hp->VK->Prop}(h:ta σ H fun x H1=>q x H1 Q):K6 q ta σ H Q:=h
theorem JS(h:Q (.int (-i)) H):rU (fun i=>.int (-i)) (.int i) H Q:=⟨i,rfl,h⟩
theorem Kt(h:Q (.int (i+j)) H):gy (.int i) (.int j) H Q:=⟨i,j,rfl,rfl,h⟩
theorem JT(h:Q (.int (i-j)) H):qm (.int i) (.int j) H Q:=⟨i,j,rfl,rfl,h⟩
theorem ym(h1:-(2 ^ 64)<i)(h2:i<2 ^ 64)(h:Q (.int (i*j)) H):lz (.int i) (.int j) H Q:=⟨i,j,rfl,rfl,.inl (.inl ⟨h1,h2⟩),h⟩
theorem F8(h1:-(2 ^ 64)<j)(h2:j<2 ^ 64)(h:Q (.int (i*j)) H):lz (.int i) (.int j) H Q:=⟨i,j,rfl,rfl,.inl (.inr ⟨h1,h2⟩),h⟩
theorem F0(h1:0<j)(h2:j<1073741824)(h:Q (.int (i/j)) H):oDiv (.int i) (.int j) H Q:=⟨i,j,rfl,rfl,⟨h1,Int.lt_trans h2 zG⟩,h⟩
theorem Ff(h1:0<j)(h2:j<lM)(h:Q (.int (i/j)) H):oDiv (.int i) (.int j) H Q:=⟨i,j,rfl,rfl,⟨h1,h2⟩,h⟩
theorem EB(h1:0<j)(h:Q (.int (i%j)) H):oMod (.int i) (.int j) H Q:=⟨i,j,rfl,rfl,h1,h⟩
theorem KL(h1:0<=j)(h2:j<=1000000)(h3:i.natAbs<2 ^ 64)(h:Q (.int (i ^ j.toNat)) H):vH (.int i) (.int j) H Q:=⟨i,j,rfl,rfl,.inl ⟨h1,h2,h3⟩,h⟩
theorem Ll(h:Q (.bl (decide (i<j))) H):oLt (.int i) (.int j) H Q:=⟨i,j,rfl,rfl,h⟩
theorem Lz(h:Q (.bl (decide (i<=j))) H):oLe (.int i) (.int j) H Q:=⟨i,j,rfl,rfl,h⟩
theorem Lb(h:Q (.bl (decide (j<i))) H):HH (.int i) (.int j) H Q:=⟨i,j,rfl,rfl,h⟩
theorem Lf(h:Q (.bl (decide (j<=i))) H):KZ (.int i) (.int j) H Q:=⟨i,j,rfl,rfl,h⟩
theorem E5:decide (V.int i=V.int j)=decide (i=j):=by
 by_cases h:i=j
 ·subst h;simp
 ·rw[decide_eq_false h,decide_eq_false fun z=>h (V.int.inj z)]
theorem La(h:Q (.bl (decide (i=j))) H):i4 (.int i) (.int j) H Q:=⟨rfl,by rw[E5];exact h⟩
theorem Lj(h:Q (.bl (!decide (i=j))) H):FN (.int i) (.int j) H Q:=⟨rfl,by rw[E5];exact h⟩
theorem KW(h:Q (.bl (decide (x=.non))) H):G3 x .non H Q:=⟨rfl,h⟩
theorem Ie(h:Q (.bl (!decide (x=.non))) H):zX x .non H Q:=⟨rfl,h⟩
theorem JB(h:te σ H fun x H'=>∃k,x=.bl k/\QB k H'):aV te σ H QB:=h
theorem Lr(h:te σ H fun x H1=>∃c,x=.bl c/\QB c H1):tB te σ H QB:=h
theorem Lh{b:Bool}{P:Bool->Prop}(h:P b):∃k,V.bl b=.bl k/\P k:=⟨b,rfl,h⟩
theorem KH(h:c σ H fun b H1=>if b=true then d σ H1 QB else QB false H1):qy c d σ H QB:=h
theorem Lg(h:c σ H fun b H1=>if b=true then QB true H1 else d σ H1 QB):Gc c d σ H QB:=h
theorem KG(h:c σ H fun b H1=>QB (!b) H1):zo c σ H QB:=h
theorem Iv(h:ta σ H fun x H1=>∃c,x=.bl c/\if c=true then tb σ H1 Q else Q (.bl false) H1):FH ta tb σ H Q:=h
theorem J1(h:ta σ H fun x H1=>∃c,x=.bl c/\if c=true then Q (.bl true) H1 else tb σ H1 Q):Ju ta tb σ H Q:=h
theorem Ly(h:c σ H fun b H1=>if b=true then ta σ H1 Q else tb σ H1 Q):K7 c ta tb σ H Q:=h
theorem Kc(h:QA [] H):ay σ H QA:=h
theorem Ji(h:te σ H fun x H1=>tl σ H1 fun xs H2=>QA (x::xs) H2):af te tl σ H QA:=h
theorem JE{sp:Sp}(h:tl σ H fun vs H1=>sp vs H1 Q E):a9 sp [] E tl σ H Q:=by
 show tl σ H fun vs H1=>sp (vs++[]) H1 Q E
 simpa only[O8]using h
theorem Lp{q:List V->Hp->VK->Prop}(h:tl σ H fun vs H1=>q vs H1 Q):gs q tl σ H Q:=h
theorem KI(h:Q (.int (min i j)) H):Km [.int i,.int j] H Q:=⟨i,j,rfl,by
 have e:(if j<i then j else i)=min i j:=by omega
 rw[e];exact h⟩
theorem J7(h:Q (.int (max i j)) H):Kl [.int i,.int j] H Q:=⟨i,j,rfl,by
 have e:(if j>i then j else i)=max i j:=by omega
 rw[e];exact h⟩
theorem Hy{p:LL}{ys:List V}(hs:aK K H p ys)(h:Q (.int ys.length) H):mC K [.ref p] H Q:=⟨p,ys,rfl,.inl hs,h⟩
theorem Hz{p:LL}{ns:List Int}(hs:aK K H p (ns.map V.int))(h:Q (.int ns.sum) H):DJ K [.ref p] H Q:=⟨p,ns,rfl,hs,h⟩
theorem bB{p:LL}{xs:List V}(hs:aK K H p xs)(ha:Cm xs i=some v)(h:Q v H):bO K (.ref p) (.int i) H Q:=⟨p,xs,i,v,rfl,rfl,hs,ha,h⟩
noncomputable def FY(g:TG)(tb:TS)(D:Ends)(J:It)(σ:St)(H:Hp):Prop:=∃W:Nat->Nat->St->Hp->Prop,(∃m,W 0 m σ H)/\∀i m σ H,W i m σ H->
 (J.stop i H/\D.nx σ H)\/(J.go i H/\∃N:St->Hp->Prop,(∀σ' H',N σ' H'->∃m',m'<m/\W (i+1) m' σ' H')/\∀x H',J.yld i H x H'->g x σ H' fun σ2 H2=>tb {D with nx:=N,ct:=N,bk:=D.nx} σ2 H2)
theorem Kf{wi:TI}{g:TG}(h:wi σ H fun J H1=>FY g t D J σ H1):k7 wi g t D σ H:=h
theorem Jk{R:It->Hp->Prop}(h:tl σ H fun vs H1=>∃j:Int,vs=[.int j]/\-(2 ^ 62)<=j/\j<2 ^ 62/\R (En 0 j.toNat) H1):uW tl σ H R:=h
theorem Cq{P:Int->Prop}(h1:-(2 ^ 62)<=i)(h2:i<2 ^ 62)(h:P i):∃j:Int,([.int i]:List V)=[.int j]/\-(2 ^ 62)<=j/\j<2 ^ 62/\P j:=⟨i,rfl,h1,h2,h⟩
theorem Im{R:It->Hp->Prop}(h:tl σ H fun vs H1=>∃i j:Int,vs=[.int i,.int j]/\(-(2 ^ 62)<=i/\i<2 ^ 62/\-(2 ^ 62)<=j/\j<2 ^ 62)/\R (En i (j-i).toNat) H1):F6 tl σ H R:=h
theorem G6{P:Int->Int->Prop}(h1:-(2 ^ 62)<=i)(h2:i<2 ^ 62)(h3:-(2 ^ 62)<=j)(h4:j<2 ^ 62)(h:P i j):∃i' j':Int,([.int i,.int j]:List V)=[.int i',.int j']/\(-(2 ^ 62)<=i'/\i'<2 ^ 62/\-(2 ^ 62)<=j'/\j'<2 ^ 62)/\P i' j':=⟨i,j,rfl,⟨h1,h2,h3,h4⟩,h⟩
theorem GH{R:It->Hp->Prop}(h:te σ H fun x H1=>∃a,x=.ref a/\(∃xs,aK K H1 a xs)/\R (CP K a) H1):cp K te σ H R:=h
theorem bA{P:LL->Prop}{a:LL}{xs:List V}(hs:aK K H a xs)(h:P a):∃b,V.ref a=.ref b/\(∃xs,aK K H b xs)/\P b:=⟨a,rfl,⟨xs,hs⟩,h⟩
theorem Ln{q:V->Option Int->Option Int->Hp->VK->Prop}{lo hi:TO}(h:te σ H fun x H1=>lo σ H1 fun l H2=>hi σ H2 fun u H3=>q x l u H3 Q):zB q te lo hi σ H Q:=h
theorem IT{R:Option Int->Hp->Prop}(h:te σ H fun x H1=>∃i,x=.int i/\R (some i) H1):ff te σ H R:=h
theorem GI{P:Int->Prop}(h:P i):∃j,V.int i=.int j/\P j:=⟨i,rfl,h⟩
theorem EU{R:Option Int->Hp->Prop}(h:R none H):dm σ H R:=h
theorem lu{mp:List (Option Nat)}{wi:TI}{g:TG}(h:wi σ H fun J H1=>cO mp g c te J σ H1 Q):bL mp wi g c te σ H Q:=h
theorem Lq{T:String}{q:V->List V->Hp->VK->Prop}(h:te σ H fun x H1=>Hi K T x H1/\tl σ H1 fun xs H2=>q x xs H2 Q):yW K T q te tl σ H Q:=h
theorem KA{T:String}{q:V->List V->Hp->VK->Prop}(h:te σ H fun x H1=>Hi K T x H1/\q x [] H1 Q):C5 K T q te σ H Q:=h
theorem Gx(h:ta σ H fun x H1=>tb σ H1 fun y H2=>r x y H2 fun z H3=>∃k,z=.bl k/\(if k=true then tc σ H3 fun w' H4=>r' y w' H4 Q else Q (.bl false) H3)):BI r r' ta tb tc σ H Q:=h
end
end L2
namespace L2
end L2
namespace L2
open PySem PySem.Spec PyProof.Rows
noncomputable def Lc(lo step:Int)(n:Nat):It:=⟨fun i _=>i<n,fun i H x H'=>H'=H/\x=.int (lo+i*step),fun i _=>n<=i⟩
section
variable {X:Cx}{tg:LU}
end
theorem HZ{lo step:Int}{n:Nat}{g:TG}{tb:TS}{D:Ends}{σ:St}{H:Hp}(Pv:Nat->St->Hp->Prop)(h0:Pv 0 σ H)
  (hs:∀i σ H,i<n->Pv i σ H->g (.int (lo+i*step)) σ H fun σ2 H2=>tb {D with nx:=Pv (i+1),ct:=Pv (i+1),bk:=D.nx} σ2 H2) (hd:∀σ H,Pv n σ H->D.nx σ H):FY g tb D (Lc lo step n) σ H:=by
 exists fun i m σ H=>m=n-i/\i<=n/\Pv i σ H,⟨n,by simp,MK _,h0⟩
 rintro i m σ H ⟨rfl,hi,p⟩
 by_cases hlt:i<n
 ·refine .inr ⟨hlt,Pv (i+1),fun σ' H' p'=>⟨n-(i+1),by omega,rfl,hlt,p'⟩,fun x H' y=>?_⟩
  obtain⟨e,y⟩:=y
  subst e y
  exact hs i σ _ hlt p
 ·have e:i=n:=by omega
  subst e
  exact .inl ⟨L0 _,hd σ H p⟩
mutual
inductive de(K:LO)(H:Hp):V->Mt->Prop
 |non:de K H .non .none
 |bl (b:Bool):de K H (.bl b) (.bool b)
 |int (i:Int):de K H (.int i) (.int i)
 |str (x:LK):de K H (.str x) (.str x)
 |lst {a:LL}{xs:List V}{ds:List Mt}:aK K H a xs->DatAll K H xs ds->de K H (.ref a) (.list ds)
 |tup {a:LL}{xs:List V}{ds:List Mt}:gf K H a xs->DatAll K H xs ds->de K H (.ref a) (.tuple ds)
inductive DatAll(K:LO)(H:Hp):List V->List Mt->Prop
 |nil:DatAll K H [] []
 |cons {x:V}{xs:List V}{d:Mt}{ds:List Mt}:de K H x d->DatAll K H xs ds->DatAll K H (x::xs) (d::ds)
end
section
variable {X:Cx}{pins:List (LL×LS)}{σ:St}{H:Hp}{s:LN}
mutual
theorem el(I:Inv X pins σ H s):∀{x:V}{d:Mt}{u:LM},de X.K H x d->RelV x u->∃as,Reads s.heap u d as
 |_,_,_,.non,r=>by cases r;exact⟨_,.none⟩
 |_,_,_,.bl b,r=>by cases r;exact⟨_,.bool b⟩
 |_,_,_,.int i,r=>by obtain⟨t,rfl⟩:=r;exact⟨_,.int i t⟩
 |_,_,_,.str x,r=>by obtain⟨t,rfl⟩:=r;exact⟨_,.str x t⟩
 |_,_,_,.lst hS all,r=>by
  cases r
  obtain⟨its,rv,pl,_⟩:=I.list hS
  obtain⟨o,ho,hc,n,hd⟩:=pl.isList
  obtain⟨as,q⟩:=mW I all rv
  exact⟨_,Reads.list ho hc hd (by simpa using q)⟩
 |_,_,_,.tup hS all,r=>by
  cases r
  obtain⟨its,rv,pl,_⟩:=I.tuple hS
  obtain⟨o,ho,hc,n,hd⟩:=pl
  obtain⟨as,q⟩:=mW I all rv
  exact⟨_,Reads.tuple ho hc hd (by simpa using q)⟩
theorem mW(I:Inv X pins σ H s):∀{xs:List V}{ds:List Mt}{us:List LM},DatAll X.K H xs ds->bF xs us->∃as,ReadsAll s.heap us ds as
 |_,_,_,.nil,r=>by cases r;exact⟨_,.nil⟩
 |_,_,_,.cons h t,r=>by
  cases r with
  |cons r1 r2=>
   obtain⟨as,a⟩:=el I h r1
   obtain⟨bs,b⟩:=mW I t r2
   exact⟨_,.cons a b⟩
end
end
noncomputable def oB(K:LO)(neg:Bool):R2:=fun x y H Q=>∃d e,de K H x d/\de K H y e/\Pb d=true/\Pb e=true/\M9 d e=true/\Q (.bl (same d e != neg)) H
section
variable {X:Cx}
theorem BQ(hu:X.A.units+64<cLine):gQ X (MG .Eq) (oB X.K false):=by
 intro pins s σ H x y v u Q I rx ry h
 obtain⟨d,e,h1,h2,h3,h4,h5,q⟩:=h
 obtain⟨as,a⟩:=el I h1 rx
 obtain⟨bs,b⟩:=el I h2 ry
 refine eq_dataH_same a b h3 h4 hu h5 ⟨.bl (same d e),H,I,rfl,?_⟩
 rw[OW]at q
 exact q
theorem iU(hu:X.A.units+64<cLine):gQ X (MG .NotEq) (oB X.K true):=by
 intro pins s σ H x y v u Q I rx ry h
 obtain⟨d,e,h1,h2,h3,h4,h5,q⟩:=h
 obtain⟨as,a⟩:=el I h1 rx
 obtain⟨bs,b⟩:=el I h2 ry
 refine ne_dataH_same a b h3 h4 hu h5 ⟨.bl (!same d e),H,I,rfl,?_⟩
 rw[PU]at q
 exact q
end
mutual
theorem tu:∀d:Mt,d.canLay0=true->M9 d d=true
 |.none,_=>by simp[M9]
 |.bool _,_=>by simp[M9]
 |.int _,_=>by simp[M9]
 |.str _,_=>by simp[M9]
 |.list xs,h=>by rw[M9];exact jo xs (by rw[Oy]at h;exact h)
 |.tuple xs,h=>by rw[M9];exact jo xs (by rw[Oy]at h;exact h)
 |.dict _,h=>by rw[Oy]at h;cases h
theorem jo:∀ds:List Mt,PN ds=true->Ol ds ds=true
 |[],_=>by simp[Ol]
 |x::xs,h=>by
  rw[PN,ND]at h
  rw[Ol,tu x h.1,jo xs h.2]
  rfl
end
section
variable {K:LO}{H:Hp}{Q:VK}{x y:V}
theorem J8{d:Mt}(h1:de K H x d)(h2:de K H y d)(hs:Pb d=true)(h:Q (.bl false) H):oB K true x y H Q:=
 ⟨d,d,h1,h2,hs,hs,tu d (SeqAt.canLay_of_shaped hs),by rw[same_self];exact h⟩
end
section
variable {X:Cx}
end
noncomputable def HI(K:LO)(a:LL):It:=
 ⟨fun i H=>∃xs x,aK K H a xs/\xs[i]?=some x,fun i H x H'=>∃T y,x=.ref T/\H T=none/\H'=upd H T (.tup [.int i,y])/\∀xs,aK K H a xs->xs[i]?=some y,fun i H=>∃xs,aK K H a xs/\xs.length<=i⟩
theorem D4{P:L5}{w:LZ}{K:LO}{elts:List LU}{x1}{pos:L8}(a e it:LL)(hne:e≠it):
  Turn P w K (.Tuple elts x1 pos) (HI K a) [e,it] e (fun i h=>(∃old,IsEnum h e it ((i:Nat):Int) old)/\h.IsListIter it a i) where
 mem:=by simp
 obj:=fun i h st b hb=>by
  obtain⟨⟨old,he⟩,o,ho,hc,hd⟩:=st
  rcases L9.mp hb with z|hb
  ·subst z
   exact⟨_,he,fun v z=>by
    have z':Pz _=OY v:=z
    cases z'⟩
  ·have z:b=it:=by simpa using hb
   subst z
   exact⟨o,ho,fun v z=>by rw[hd]at z;cases z⟩
 keep:=fun i h h' st k=>by
  obtain⟨⟨old,he⟩,o,ho,r⟩:=st
  exact⟨⟨old,k e (by simp) _ he⟩,o,k it (by simp) _ ho,r⟩
 item:=by
  intro X hP hw hK hc i pins s σ H E I hf st hg
  subst hP hw hK
  obtain⟨⟨old,he⟩,hit⟩:=st
  obtain⟨xs,x,hS,hx⟩:=hg
  obtain⟨its,rv,pl,hz⟩:=I.list hS
  obtain⟨u,hu,ru⟩:=rv.get hx
  obtain⟨f0,f1,f2,f3,f4,f5⟩:=hf e (by simp)
  obtain⟨g0,g1,g2,g3,g4,g5⟩:=hf it (by simp)
  have fT:H s.heap.objs.size=none:=I.fresh
  refine wpAny_pyNext_enum_item he hit pl.isList (x:=u) (by simpa using hu) hne fun h' heo hit' ht hsz hk=>⟨_,rfl,?_⟩
  refine wpAny_letOwnedTupleGo_enum heo fun h2 he2 hs2=>?_
  have hs2:NM e h' h2:=hs2
  have heT:e≠s.heap.objs.size:=Ms (Mi he)
  have oldK:∀b o,b≠e->b≠it->s.heap.get? b=some o->h2.get? b=some o:=fun b o h1 h2' q=>hs2.extBut b o h1 (hk b o h1 h2' q)
  have hT2:h2.get? s.heap.objs.size=some {cls:=.type "tuple",data:=.seq #[.int i s.toks,u]}:=hs2.extBut _ _ (Mm heT) ht
  have neT:∀b o,s.heap.get? b=some o->b≠s.heap.objs.size:=fun b o q=>Ms (Mi q)
  have nH:∀b w',H b=some w'->b≠e/\b≠it:=fun b w' q=>⟨fun z=>(by rw[z,f0]at q;cases q),fun z=>(by rw[z,g0]at q;cases q)⟩
  have I2:Inv X pins σ (upd H s.heap.objs.size (.tup [.int i,x])) {s with heap:=h2,toks:=s.toks+1}:=by
   refine I.step (g':=s.gens) (d':=s.drawn) (t':=s.toks+1) (ch:=[e,it]) (fun b hb=>?_) (fun b o _ _ hb q _=>?_) (fun b o _ _ hb q _=>?_) (fun b o _ q n=>?_) (fun b o hb q=>?_)
    (fun b ys q=>?_) (fun b o w' q=>?_) (fun b ps q=>?_) (fun m hm=>?_) (fun b w' q=>?_) I.bare
   ·rcases L9.mp hb with z|hb
    ·subst z;exact⟨f3,f1,f4,f5⟩
    ·have z:b=it:=by simpa using hb
     subst z;exact⟨g3,g1,g4,g5⟩
   ·exact oldK b o (fun z=>hb (by simp[z])) (fun z=>hb (by simp[z])) q
   ·exact⟨o.slots,oldK b o (fun z=>hb (by simp[z])) (fun z=>hb (by simp[z])) q⟩
   ·rw[aq (neT b o q)];exact n
   ·exact⟨o,oldK b o (fun z=>hb (by simp[z])) (fun z=>hb (by simp[z])) q⟩
   ·rw[aq (aZ q fT)];exact q
   ·rw[aq (aZ q fT)];exact q
   ·exact⟨#[],by rw[aq (aZ q fT),q];simp⟩
   ·obtain⟨o,es,ep,ho,r⟩:=hm
    exact⟨o,es,ep,oldK _ o (Mm f1) (Mm g1) ho,r⟩
   ·by_cases hb:b=s.heap.objs.size
    ·subst hb
     rw[ao]at q
     cases q
     exact⟨by show 2<=LW;decide,[.int i s.toks,u],.cons ⟨_,rfl⟩ (.cons ru .nil),_,hT2,rfl,_,rfl⟩
    ·rw[aq hb]at q
     refine(I.hok b w' q).stay (fun c v hc q'=>oldK c v ?_ ?_ q') (fun c q'=>?_) fun c ys q'=>?_
     ·rcases hc with z|z
      ·rw[z];exact(nH b w' q).1
      ·exact(nH c _ z).1
     ·rcases hc with z|z
      ·rw[z];exact(nH b w' q).2
      ·exact(nH c _ z).2
     ·rw[aq (aZ q' fT)];exact q'
     ·rw[aq (aZ q' fT)];exact q'
  refine⟨.ref s.heap.objs.size,_,I2,rfl,⟨s.heap.objs.size,x,rfl,fT,rfl,fun ys hys=>?_⟩,⟨⟨u,?_⟩,?_⟩,fun b hb=>?_⟩
  ·rw[I.list_inj hys hS];exact hx
  ·have e1:((i+1:Nat):Int)=(i:Int)+1:=by omega
   rw[e1];exact he2
  ·exact hit'.extBut hs2.extBut (Mm hne)
  ·have:b≠s.heap.objs.size:=by
    rcases L9.mp hb with z|hb
    ·rw[z];exact heT
    ·have z:b=it:=by simpa using hb
     rw[z]
     obtain⟨o,ho,_⟩:=hit
     exact neT it o ho
   rw[aq this]
   exact(hf b hb).1
 done:=by
  intro X hP hw hK hc i pins s σ H E I hf st hg
  subst hP hw hK
  obtain⟨⟨old,he⟩,hit⟩:=st
  obtain⟨xs,hS,hx⟩:=hg
  obtain⟨its,rv,pl,hz⟩:=I.list hS
  have hl:=rv.length
  obtain⟨g0,g1,g2,g3,g4,g5⟩:=hf it (by simp)
  refine wpAny_pyNext_enum_end (I.ok.hd hc) he hit pl.isList (by simp;omega) fun h' eb=>⟨rfl,I.turned (t':=s.toks) (fun b o hb e'=>eb b o hb e') g0 g1 g3 g4 g5⟩
 self:=fun A i s Q E st h=>by
  obtain⟨⟨old,he⟩,hit⟩:=st
  exact Qh he h
section
variable {X:Cx}
noncomputable def uu(K:LO)(tl:TE):TI:=fun σ H R=>tl σ H fun x H1=>∃a,x=.ref a/\(∃xs,aK K H1 a xs)/\R (HI K a) H1
theorem pA{l:LU}{tl:TE}{elts:List LU}{x1}{p pos pt:L8}(hg:Gl X "enumerate")(hm:X.mg "enumerate"=none)(hl:PE X l tl)(hs:L6 [l] X.env=[(false,eval l X.env)]:=by rfl):
  PI X (.Tuple elts x1 pt) (.Call (.Name "enumerate" p) [l] [] pos) (uu X.K tl):=by
 intro pins s σ H R I h
 refine Call_ (jx I hg hm boot_enumerate (OC (ck (aa hl ah hs pos pins s σ H (fun vs H1=>∃x,vs=[x]/\∃a,x=.ref a/\(∃xs,aK X.K H1 a xs)/\R (HI X.K a) H1) I ?_) fun us s1 ⟨vs,H1,I1,r1,q1⟩=>?_) hs rfl))
 ·have mono:tl σ H (fun x H1=>∃y,[x]=[y]/\∃a,y=.ref a/\(∃xs,aK X.K H1 a xs)/\R (HI X.K a) H1):=by
   have e:(fun (x:V) (H1:Hp)=>∃y,[x]=[y]/\∃a,y=V.ref a/\(∃xs,aK X.K H1 a xs)/\R (HI X.K a) H1)=fun x H1=>∃a,x=V.ref a/\(∃xs,aK X.K H1 a xs)/\R (HI X.K a) H1:=by
    funext x H1
    simp
   rw[e]
   exact h
  exact mono
 ·obtain⟨x,rfl,a,rfl,⟨xs,hS⟩,q⟩:=q1
  obtain⟨u,rfl,ru⟩:=vals1 r1
  cases ru
  obtain⟨its,rv,pl,hz⟩:=I1.list hS
  refine call_enumerate_list pl.isList fun h' he hit hsz hk=>?_
  have I2:Inv X pins σ H1 {s1 with heap:=h'}:=I1.kept (t':=s1.toks) hk
  refine Qh he ?_
  refine⟨s1.heap.objs.size+1,[s1.heap.objs.size+1,s1.heap.objs.size],_,_,H1,rfl,I2,D4 a _ _ (Tn _),⟨⟨.none,he⟩,hit⟩,fun b hb=>?_,q⟩
  have hb':s1.heap.objs.size<=b:=by
   rcases L9.mp hb with z|hb
   ·rw[z];exact Nq _
   ·have z:b=s1.heap.objs.size:=by simpa using hb
    rw[z];exact L0 _
  exact I1.fpOk hb' (I1.hok.fresh hb')
end
theorem Inv.turnedL{X:Cx}{pins:List (LL×LS)}{σ:St}{H:Hp}{s:LN}{h':LV}{t':Nat}{ch:List LL}(I:Inv X pins σ H s)(hf:∀b∈ch,pE X pins H b)(k:∀b o,b∉ch->s.heap.get? b=some o->h'.get? b=some o):
  Inv X pins σ H {s with heap:=h',toks:=t'}:=by
 have nit:∀b u,H b=some u->b∉ch:=fun b u e z=>by rw[(hf b z).1]at e;cases e
 refine I.step (g':=s.gens) (d':=s.drawn) (ch:=ch) (fun b hb=>?_) (fun b o _ _ hc e _=>k b o hc e) (fun b o _ _ hc e _=>⟨o.slots,k b o hc e⟩) (fun _ _ _ _ n=>n)
  (fun b o hc e=>⟨o,k b o hc e⟩) (fun _ _ e=>e) (fun _ _ _ e=>e) (fun b ps e=>⟨#[],by rw[e];simp⟩) (fun m hm=>?_) (fun b u e=>?_) I.bare
 ·obtain⟨_,h1,_,h3,h4,h5⟩:=hf b hb
  exact⟨h3,h1,h4,h5⟩
 ·obtain⟨o,es,ep,ho,r⟩:=hm
  exact⟨o,es,ep,k _ o (fun z=>(hf _ z).2.1 rfl) ho,r⟩
 ·refine(I.hok b u e).stay (fun c v hc q=>k c v ?_ q) (fun _ q=>q) fun _ _ q=>q
  rcases hc with z|z
  ·rw[z];exact nit b u e
  ·exact nit c _ z
section
variable {X:Cx}
end
structure Ys(J:It)(g:TG)(P:Hp->Prop)(n:Nat)(f:Nat->St->St):Prop where
 go:∀i H,i<n->P H->J.go i H
 stop:∀H,P H->J.stop n H
 yld:∀i H x H' σ (Q:St->Hp->Prop),i<n->P H->J.yld i H x H'->(∀H'',av H H''->Q (f i σ) H'')->g x σ H' Q
theorem cR{K:LO}{a:LL}{xs:List V}(p:Nat):Ys (CP K a) (au p) (fun H=>aK K H a xs) xs.length (fun i σ=>σ.set p (some (xs.getD i .non))) where
 go:=fun i H hi h=>⟨xs,xs[i],h,by simp[hi]⟩
 stop:=fun H h=>⟨xs,h,L0 _⟩
 yld:=fun i H x H' σ Q hi h y q=>by
  obtain⟨e,y⟩:=y
  subst e
  have e:xs.getD i .non=x:=by simp[Mf,y xs h]
  have:=q _ (av.refl _)
  rw[e]at this
  exact this
theorem AH{lo:Int}{n:Nat}(p:Nat):Ys (En lo n) (au p) (fun _=>True) n (fun i σ=>σ.set p (some (.int (lo+i)))) where
 go:=fun i H hi _=>hi
 stop:=fun H _=>L0 _
 yld:=fun i H x H' σ Q hi _ y q=>by
  obtain⟨e,y⟩:=y
  subst e y
  exact q _ (av.refl _)
theorem pF{K:LO}{a:LL}{xs:List V}(p r:Nat):Ys (HI K a) (fK K 2 (bq (au p) (bq (au r) fN))) (fun H=>aK K H a xs) xs.length (fun i σ=>(σ.set p (some (.int i))).set r (some (xs.getD i .non))) where
 go:=fun i H hi h=>⟨xs,xs[i],h,by simp[hi]⟩
 stop:=fun H h=>⟨xs,h,L0 _⟩
 yld:=fun i H x H' σ Q hi h y q=>by
  obtain⟨T,v,rfl,hT,rfl,hv⟩:=y
  have e:xs.getD i .non=v:=by simp[Mf,hv xs h]
  exists T,_,rfl,gf.of ao,rfl,_,_,rfl,_,_,rfl,rfl
  have:=q _ (av.updN hT (o:=.tup [.int i,v]))
  rw[e]at this
  exact this
theorem jC{K:LO}{a:LL}{ts:List LL}{u v w:Nat->V}(p r t:Nat):
  Ys (CP K a) (fK K 3 (bq (au p) (bq (au r) (bq (au t) fN)))) (fun H=>aK K H a (ts.map V.ref)/\∀i b,ts[i]?=some b->gf K H b [u i,v i,w i]) ts.length (fun i σ=>((σ.set p (some (u i))).set r (some (v i))).set t (some (w i))) where
 go:=fun i H hi h=>⟨_,.ref ts[i],h.1,by simp[hi]⟩
 stop:=fun H h=>⟨_,h.1,by simp⟩
 yld:=fun i H x H' σ Q hi h y q=>by
  obtain⟨e,y⟩:=y
  subst e
  have e:x=.ref ts[i]:=by
   have:=y _ h.1
   simp[hi]at this
   exact this.symm
  subst e
  exact⟨ts[i],_,rfl,h.2 i _ (by simp[hi]),rfl,_,_,rfl,_,_,rfl,_,_,rfl,rfl,q _ (av.refl _)⟩
theorem pB{K:LO}{a:LL}{ts:List LL}{u v:Nat->V}(p r:Nat):
  Ys (CP K a) (fK K 2 (bq (au p) (bq (au r) fN))) (fun H=>aK K H a (ts.map V.ref)/\∀i b,ts[i]?=some b->gf K H b [u i,v i]) ts.length (fun i σ=>(σ.set p (some (u i))).set r (some (v i))) where
 go:=fun i H hi h=>⟨_,.ref ts[i],h.1,by simp[hi]⟩
 stop:=fun H h=>⟨_,h.1,by simp⟩
 yld:=fun i H x H' σ Q hi h y q=>by
  obtain⟨e,y⟩:=y
  subst e
  have e:x=.ref ts[i]:=by
   have:=y _ h.1
   simp[hi]at this
   exact this.symm
  subst e
  exact⟨ts[i],_,rfl,h.2 i _ (by simp[hi]),rfl,_,_,rfl,_,_,rfl,rfl,q _ (av.refl _)⟩
theorem jv{J:It}{g:TG}{P:Hp->Prop}{n:Nat}{f:Nat->St->St}{tb:TS}{D:Ends}{σ:St}{H:Hp}(Y:Ys J g P n f)(Pv:Nat->St->Hp->Prop)(h0:Pv 0 σ H)(hP:∀i σ H,Pv i σ H->P H)
  (hs:∀i σ H H',i<n->Pv i σ H->av H H'->tb {D with nx:=Pv (i+1),ct:=Pv (i+1),bk:=D.nx} (f i σ) H') (hd:∀σ H,Pv n σ H->D.nx σ H):FY g tb D J σ H:=by
 exists fun i m σ H=>m=n-i/\i<=n/\Pv i σ H,⟨n,by simp,MK _,h0⟩
 rintro i m σ H ⟨rfl,hi,p⟩
 by_cases hlt:i<n
 ·exact .inr ⟨Y.go i H hlt (hP _ _ _ p),Pv (i+1),fun σ' H' p'=>⟨n-(i+1),by omega,rfl,hlt,p'⟩,fun x H' y=>Y.yld i H x H' σ _ hlt (hP _ _ _ p) y fun H'' s=>hs i σ H H'' hlt p s⟩
 ·have e:i=n:=by omega
  subst e
  exact .inl ⟨Y.stop H (hP _ _ _ p),hd σ H p⟩
section
variable {mp:List (Option Nat)}{g:TG}{tt:TT}{te:TE}{J:It}{P:Hp->Prop}{n:Nat}{f:Nat->St->St}{σ:St}{H:Hp}{Q:VK}
noncomputable def eB(l:LL)(H H':Hp):Prop:=∀b o,b≠l->H b=some o->H' b=some o
theorem av.x{H H':Hp}(s:av H H')(l:LL):eB l H H':=fun b o _ h=>s b o h
theorem p8{H:Hp}{l:LL}{o:HO}:eB l H (upd H l o):=fun b u hb h=>by rw[aq hb];exact h
theorem d6(Y:Ys J g P n f)(st:Nat->St)(hf:∀i σ',(σ'=cK mp σ\/∃j,σ'=st j)->f i σ'=st i)(hP:∀H',av H H'->P H')(hz:n<=LW)(b:Nat->Bool)(R:LL->Nat->V->Hp->Prop)
  (hR:∀l i v H1 H2,eB l H1 H2->R l i v H1->R l i v H2)
  (ht:∀i,i<n->∀(H':Hp)(G:Bool->Hp->Prop),av H H'->(∀H'',av H' H''->G (b i) H'')->tt (st i) H' G)
  (he:∀l i,i<n->b i=true->∀(H':Hp)(G:VK),H l=none->(∃o,H' l=some o)->av H H'->(∀v H'',R l i v H''->av H' H''->G v H'')->te (st i) H' G)
  (hd:∀l ys H',H l=none->av H H'->H' l=some (.lst ys)->L7 (fun i v=>R l i v H') ((Me n).filter b) ys->Q (.ref l) H'):cO mp g tt te J σ H Q:=by
 intro l hl
 refine⟨fun i m acc σ' H'=>m=n-i/\i<=n/\acc.length<=i/\av H H'/\H' l=some (.lst acc)/\L7 (fun i v=>R l i v H') ((Me i).filter b) acc/\(σ'=cK mp σ\/∃j,σ'=st j),
  ⟨n,by simp,MK _,L0 _,av.updN hl,ao,.nil,.inl rfl⟩,?_⟩
 rintro i m acc σ' H' ⟨rfl,hi,ha,s,h1,h2,hσ⟩
 by_cases hlt:i<n
 ·refine .inr ⟨Y.go i H' hlt (hP _ s),by omega,fun acc' σ2 H2=>i+1<=n/\acc'.length<=i+1/\av H H2/\H2 l=some (.lst acc')/\L7 (fun i v=>R l i v H2) ((Me (i+1)).filter b) acc'/\(σ2=cK mp σ\/∃j,σ2=st j),fun acc' σ2 H2 p'=>⟨n-(i+1),by omega,rfl,p'⟩,fun x H2 y=>?_⟩
  refine Y.yld i H' x H2 σ' _ hlt (hP _ s) y fun H3 s3=>?_
  rw[hf i σ' hσ]
  refine ht i hlt H3 _ (s.trans s3) fun H4 s4=>?_
  have s34:=s3.trans s4
  cases hb:b i with
  |false=>
   refine Ft ⟨hlt,by omega,s.trans s34,s34 _ _ h1,?_,.inr ⟨i,rfl⟩⟩
   rw[Oo,Q1,PB,hb]
   simp only[Ov,if_false,Sj,O8]
   exact Paired.mapP h2 fun j v r=>hR l j v _ _ (s34.x l) r
  |true=>
   refine CY ?_
   refine he l i hlt hb H4 _ hl ⟨_,s34 _ _ h1⟩ (s.trans s34) fun v H5 r s5=>?_
   have s35:=s34.trans s5
   refine⟨s35 _ _ h1,hlt,?_,(s.trans s35).upd hl,ao,?_,.inr ⟨i,rfl⟩⟩
   ·rw[MR,Ou];omega
   ·rw[Oo,Q1,PB,hb]
    simp only[if_true,Sj]
    exact(Paired.mapP h2 fun j v r=>hR l j v _ _ p8 (hR l j v _ _ (s35.x l) r)).snoc (hR l i v _ _ p8 r)
 ·have e:i=n:=by omega
  subst e
  exact .inl ⟨Y.stop H' (hP _ s),hd l acc H' hl s h1 h2⟩
theorem kK{α:Type}{F:α->V}:∀{xs:List α}{ys:List V},L7 (fun x v=>v=F x) xs ys->ys=xs.map F
 |_,_,.nil=>rfl
 |_,_,.cons e t=>by rw[e,kK t];rfl
theorem cG(Y:Ys J g P n f)(st:Nat->St)(hf:∀i σ',(σ'=cK mp σ\/∃j,σ'=st j)->f i σ'=st i)(hP:∀H',av H H'->P H')(hz:n<=LW)(F:Nat->V)
  (he:∀i,i<n->∀(H':Hp)(G:VK),av H H'->(∀H'',av H' H''->G (F i) H'')->te (st i) H' G)
  (hd:∀l H',H l=none->av H H'->H' l=some (.lst ((Me n).map F))->Q (.ref l) H'):cO mp g cY te J σ H Q:=by
 refine d6 Y st hf hP hz (fun _=>true) (fun _ i v _=>v=F i) (fun _ _ _ _ _ _ h=>h) (fun i hi H' G s k=>k H' (av.refl _)) (fun l i hi _ H' G _ _ s k=>he i hi H' G s fun H'' s'=>k _ H'' rfl s') fun l ys H' h0 s h1 pr=>?_
 have e:=kK pr
 rw[Nu.mpr (fun _ _=>rfl)]at e
 subst e
 exact hd l H' h0 s h1
theorem eE(Y:Ys J g P n f)(st:Nat->St)(hf:∀i σ',(σ'=cK mp σ\/∃j,σ'=st j)->f i σ'=st i)(hP:∀H',av H H'->P H')(hz:n<=LW)(b:Nat->Bool)(F:Nat->V)
  (ht:∀i,i<n->∀(H':Hp)(G:Bool->Hp->Prop),av H H'->(∀H'',av H' H''->G (b i) H'')->tt (st i) H' G)
  (he:∀i,i<n->b i=true->∀(H':Hp)(G:VK),av H H'->(∀H'',av H' H''->G (F i) H'')->te (st i) H' G)
  (hd:∀l H',H l=none->av H H'->H' l=some (.lst (((Me n).filter b).map F))->Q (.ref l) H'):cO mp g tt te J σ H Q:=by
 refine d6 Y st hf hP hz b (fun _ i v _=>v=F i) (fun _ _ _ _ _ _ h=>h) ht (fun l i hi hb H' G _ _ s k=>he i hi hb H' G s fun H'' s'=>k _ H'' rfl s') fun l ys H' h0 s h1 pr=>?_
 have e:=kK pr
 subst e
 exact hd l H' h0 s h1
theorem i7{T:LL->Nat->Prop}:∀{is:List Nat}{ys:List V},L7 (fun i v=>∃b,v=.ref b/\T b i) is ys->∃bs:List LL,ys=bs.map V.ref/\L7 (fun i b=>T b i) is bs
 |_,_,.nil=>⟨[],rfl,.nil⟩
 |_,_,.cons ⟨b,e,h⟩ t=>by
  obtain⟨bs,e',p⟩:=i7 t
  exact⟨b::bs,by rw[e,e'];rfl,.cons h p⟩
end
theorem Hs{i:Int}{ns:List Int}:JR (.int i) (ns.map V.int)=decide (i∈ns):=by
 unfold JR
 rw[Um]
 induction ns with
 |nil=>simp
 |cons n r ih=>
  rw[Od,ih]
  show((n==i) || decide (i∈r))=_
  by_cases h:n=i
  ·subst h;simp
  ·have:(n==i)=false:=by simpa using h
   rw[this,Tw]
   by_cases h':i∈r
   ·simp[h']
   ·have:¬i∈n::r:=fun z=>by
     rcases L9.mp z with e|e
     ·exact h e.symm
     ·exact h' e
    rw[decide_eq_false h',decide_eq_false this]
theorem DI(ns:List Int):(ns.map V.int).all nV=true:=by
 rw[PL]
 exact Ny.mpr fun _ _=>rfl
section
variable {K:LO}{H:Hp}{Q:VK}
theorem Kd{p:LL}{ns:List Int}{i:Int}(hs:aK K H p (ns.map V.int))(h:Q (.bl (decide (i∈ns))) H):AS K false (.int i) (.ref p) H Q:=
 ⟨p,_,rfl,.inl hs,rfl,DI ns,by rw[if_neg MM,Hs];exact h⟩
theorem J0{p:LL}{bs:List Bool}(hs:aK K H p (bs.map V.bl))(h:Q (.bl (bs.all id)) H):Ht K [.ref p] H Q:=⟨p,bs,rfl,hs,h⟩
theorem IJ{te:TE}{σ:St}{R:It->Hp->Prop}(h:te σ H fun x H1=>∃a,x=.ref a/\(∃xs,aK K H1 a xs)/\R (HI K a) H1):uu K te σ H R:=h
end
noncomputable def gE(K:LO)(H:Hp)(a:LL)(rows:List (List Int)):Prop:=∃bs:List LL,aK K H a (bs.map V.ref)/\L7 (fun r b=>aK K H b (r.map V.int)) rows bs
theorem av.rows{K:LO}{H H':Hp}{a:LL}{rows:List (List Int)}(e:av H H')(h:gE K H a rows):gE K H' a rows:=by
 obtain⟨bs,h1,h2⟩:=h
 exact⟨bs,e.seq h1,Paired.mapP h2 fun _ _ q=>e.seq q⟩
theorem iL{α β:Type}{F:α->β->Prop}:∀{xs:List α}{ys:List β}{i:Nat}{y:β},L7 F xs ys->ys[i]?=some y->∃x,xs[i]?=some x/\F x y
 |_,_,_,_,.nil,e=>by simp at e
 |_,_,0,_,.cons h _,e=>by simp at e;subst e;exact⟨_,rfl,h⟩
 |_,_,i+1,_,.cons _ t,e=>by simpa using iL t (by simpa using e)
section
variable {prog:L5}{w:LZ}{A:Mb}{E:LM->LN->Prop}{s:LN}
end
theorem lJ:∀{xs:List V}{us:List LM},xs.length=us.length->(∀(i:Nat)(x:V)(u:LM),xs[i]?=some x->us[i]?=some u->RelV x u)->bF xs us
 |[],[],_,_=>.nil
 |x::r,u::q,hl,h=>.cons (h 0 x u rfl rfl) (lJ (by simpa using hl) fun i y w e e'=>h (i+1) y w (by simpa using e) (by simpa using e'))
noncomputable def rL:List V->Hp->VK->Prop:=fun xs H Q=>(∃i,xs=[.int i]/\Q (.int i) H)\/∃k,xs=[.bl k]/\Q (.int (if k then 1 else 0)) H
theorem ia{X:Cx}:eu X (.type "int") rL:=DA
theorem fI{k:Bool}{H:Hp}{Q:VK}(h:Q (.int (if k then 1 else 0)) H):rL [.bl k] H Q:=.inr ⟨k,rfl,h⟩
section
variable {K:LO}{D:Ends}{σ:St}{H:Hp}{Q:VK}{te ta tb:TE}{tl:TA}{xs:List V}{i j:Int}
noncomputable def HP(xs:List V)(H:Hp)(Q:VK):Prop:=xs.length<=LW/\∀p,H p=none->Q (.ref p) (upd H p (.lst xs))
noncomputable def HS(xs:List V)(H:Hp)(Q:VK):Prop:=xs.length<=LW/\∀p,H p=none->Q (.ref p) (upd H p (.tup xs))
theorem JG(h:tl σ H fun xs H1=>HP xs H1 Q):cW tl σ H Q:=h
theorem Iu(h:tl σ H fun xs H1=>HS xs H1 Q):gY tl σ H Q:=h
theorem IG(hz:xs.length<=LW)(h:∀p H2,H p=none->av H H2->H2 p=some (.lst xs)->Q (.ref p) H2):HP xs H Q:=⟨hz,fun p hp=>h p _ hp (av.updN hp) ao⟩
theorem IZ(hz:xs.length<=LW)(h:∀p H2,H p=none->av H H2->H2 p=some (.tup xs)->Q (.ref p) H2):HS xs H Q:=⟨hz,fun p hp=>h p _ hp (av.updN hp) ao⟩
theorem Io{a:LL}{lo hi:Option Int}(hs:aK K H a xs)(h:∀p H2,H p=none->av H H2->H2 p=some (.lst (ng xs lo hi))->Q (.ref p) H2):Bh K (.ref a) lo hi H Q:=⟨a,xs,rfl,hs,fun p hp=>h p _ hp (av.updN hp) ao⟩
theorem Dp{p:LL}(hs:aK K H p xs)(h:∀l H2,H l=none->av H H2->H2 l=some (.lst xs)->Q (.ref l) H2):sJ K [.ref p] H Q:=⟨p,xs,rfl,.inl hs,fun l hl=>h l _ hl (av.updN hl) ao⟩
theorem dH{l b:LL}{ys:List V}(h1:H l=some (.lst xs))(h2:H b=some (.lst ys))(hz:xs.length+ys.length<=LW)(h:∀p H2,H p=none->av H H2->H2 p=some (.lst (xs++ys))->Q (.ref p) H2):vw (.ref l) (.ref b) H Q:=
 ⟨l,b,xs,ys,rfl,rfl,h1,h2,hz,fun p hp=>h p _ hp (av.updN hp) ao⟩
theorem Jl{r:Gi}(h:te σ H fun x H1=>ta σ H1 fun o H2=>tb σ H2 fun i H3=>r o i x H3 fun H4=>D.nx σ H4):bC te (JH ta tb r) D σ H:=h
theorem Iq{p:LL}{v:V}{k:Nat}{R:Hp->Prop}(hp:H p=some (.lst xs))(hk:k<xs.length)(hi:i=k)(h:R (upd H p (.lst (xs.set k v)))):FC (.ref p) (.int i) v H R:=⟨p,xs,i,k,rfl,rfl,hp,by
 subst hi
 unfold HJ
 rw[if_pos (by omega),if_pos (by omega)]
 simp,h⟩
theorem dB{l:LL}{y:V}(hp:H l=some (.lst xs))(hz:xs.length<LW)(h:Q .non (upd H l (.lst (xs++[y])))):fZ (.ref l) [y] H Q:=⟨l,xs,y,rfl,rfl,hp,hz,h⟩
theorem y8{p:LL}(hp:H p=some (.lst xs)):Hi K "list" (.ref p) H:=.inl ⟨rfl,_,aK.of hp⟩
end
section
variable {A B:Prop}{c:Prop} [Decidable c]
theorem gP(hc:c)(h:A):if decide c=true then A else B:=by rw[decide_eq_true hc];exact CY h
theorem bN(hc:¬c)(h:B):if decide c=true then A else B:=by rw[decide_eq_false hc];exact Ft h
theorem k9(hc:¬c)(h:A):if(!decide c)=true then A else B:=by rw[decide_eq_false hc];exact CY h
theorem Kn(h:B):if(!true)=true then A else B:=Ft h
theorem J6(h:A):if(!false)=true then A else B:=CY h
theorem gu(h1:c->A)(h2:¬c->B):if decide c=true then A else B:=GR (fun h=>h1 (of_decide_eq_true h)) (fun h=>h2 fun z=>h (decide_eq_true z))
theorem qX(h1:¬c->A)(h2:c->B):if(!decide c)=true then A else B:=by
 by_cases z:c
 ·exact uU z (h2 z)
 ·exact k9 z (h1 z)
end
theorem FA(ns:List Int)(m:Nat):ng (ns.map V.int) none (some (m:Int))=(ns.take m).map V.int:=by
 unfold ng
 rw[HT.Fc,HT.sP,Md,T8,QK,P8]
 rcases SW m ns.length with h|h
 ·rw[TZ h]
 ·rw[Sm h,Nt (by simp),Nt (by simpa using h)]
theorem bg:(1000:Nat)<=LW:=NU (Dr (L0 _))
mutual
noncomputable def nice:Mt->Bool
 |.none=>true
 |.bool _=>false
 |.int _=>true
 |.str x=>QJ x
 |.list xs=>c0 xs
 |.tuple xs=>c0 xs
 |.dict _=>false
noncomputable def c0:List Mt->Bool
 |[]=>true
 |x::xs=>nice x&&c0 xs
end
mutual
theorem mD:∀d:Mt,nice d=true->d.canLay0=true
 |.none,_=>by simp[Oy]
 |.bool _,h=>by simp[nice]at h
 |.int _,_=>by simp[Oy]
 |.str x,h=>by rw[Oy];rw[nice]at h;exact h
 |.list xs,h=>by rw[Oy];exact eS xs (by rw[nice]at h;exact h)
 |.tuple xs,h=>by rw[Oy];exact eS xs (by rw[nice]at h;exact h)
 |.dict _,h=>by simp[nice]at h
theorem eS:∀ds:List Mt,c0 ds=true->PN ds=true
 |[],_=>by simp[PN]
 |x::xs,h=>by
  rw[c0,ND]at h
  rw[PN,mD x h.1,eS xs h.2]
  rfl
end
mutual
theorem lE:∀d e:Mt,nice d=true->nice e=true->M9 d e=true
 |.list xs,.list ys,h,h'=>by rw[M9];exact mF xs ys (by rw[nice]at h;exact h) (by rw[nice]at h';exact h')
 |.tuple xs,.tuple ys,h,h'=>by rw[M9];exact mF xs ys (by rw[nice]at h;exact h) (by rw[nice]at h';exact h')
 |.bool _,_,h,_=>by simp[nice]at h
 |.dict _,_,h,_=>by simp[nice]at h
 |.none,.none,_,_ | .none,.int _,_,_ | .none,.str _,_,_ | .none,.list _,_,_ | .none,.tuple _,_,_=>by simp[M9]
 |.int _,.none,_,_ | .int _,.int _,_,_ | .int _,.str _,_,_ | .int _,.list _,_,_ | .int _,.tuple _,_,_=>by simp[M9]
 |.str _,.none,_,_ | .str _,.int _,_,_ | .str _,.str _,_,_ | .str _,.list _,_,_ | .str _,.tuple _,_,_=>by simp[M9]
 |.none,.bool _,_,h' | .none,.dict _,_,h' | .int _,.bool _,_,h' | .int _,.dict _,_,h' | .str _,.bool _,_,h' | .str _,.dict _,_,h'=>by simp[nice]at h'
 |.list _,.none,_,_ | .list _,.int _,_,_ | .list _,.str _,_,_ | .list _,.tuple _,_,_=>by simp[M9]
 |.list _,.bool _,_,h' | .list _,.dict _,_,h'=>by simp[nice]at h'
 |.tuple _,.none,_,_ | .tuple _,.int _,_,_ | .tuple _,.str _,_,_ | .tuple _,.list _,_,_=>by simp[M9]
 |.tuple _,.bool _,_,h' | .tuple _,.dict _,_,h'=>by simp[nice]at h'
theorem mF:∀ds es:List Mt,c0 ds=true->c0 es=true->Ol ds es=true
 |[],[],_,_=>by simp[Ol]
 |[],_::_,_,_=>by simp[Ol]
 |_::_,[],_,_=>by simp[Ol]
 |x::xs,y::ys,h,h'=>by
  rw[c0,ND]at h h'
  rw[Ol,lE x y h.1 h'.1,mF xs ys h.2 h'.2]
  rfl
end
noncomputable def cV(n:Nat)(d:Mt):Prop:=nice d=true/\d.depth<=n
theorem cV.shaped{n:Nat}{d:Mt}(h:cV n d)(hn:n<=64):Pb d=true:=by
 unfold Pb
 rw[mD d h.1,decide_eq_true (show d.depth<=64 by have:=h.2;omega)]
 rfl
theorem cV.mono{n m:Nat}{d:Mt}(h:cV n d)(hm:n<=m):cV m d:=⟨h.1,Ma h.2 hm⟩
theorem BY{n:Nat}:∀{ds:List Mt},(∀d∈ds,cV n d)->c0 ds=true/\QC ds<=n
 |[],_=>by simp[c0,QC]
 |x::xs,h=>by
  obtain⟨h1,h2⟩:=h x Nd
  obtain⟨h3,h4⟩:=BY fun y hy=>h y (MU _ hy)
  rw[c0,h1,h3,QC]
  exact⟨rfl,by omega⟩
theorem mK{n:Nat}{ds:List Mt}(h:∀d∈ds,cV n d):cV (n+1) (.list ds):=by
 obtain⟨h1,h2⟩:=BY h
 exact⟨by rw[nice];exact h1,by rw[OX];omega⟩
theorem uB{n:Nat}{ds:List Mt}(h:∀d∈ds,cV n d):cV (n+1) (.tuple ds):=by
 obtain⟨h1,h2⟩:=BY h
 exact⟨by rw[nice];exact h1,by rw[OX];omega⟩
theorem FP{n:Nat}(i:Int):cV n (.int i):=⟨by simp[nice],by simp[OX]⟩
theorem GD{d e:Mt}(h:d≠e):same d e=false:=by
 cases z:same d e with
 |false=>rfl
 |true=>exact absurd (same_iff.mp z) h
section
variable {K:LO}{H:Hp}{Q:VK}{x y:V}{d e:Mt}{n:Nat}
theorem Jt(h1:de K H x d)(h2:de K H y e)(hd:cV n d)(he:cV n e)(hn:n<=64)(h:Q (.bl (same d e)) H):oB K false x y H Q:=
 ⟨d,e,h1,h2,hd.shaped hn,he.shaped hn,lE d e hd.1 he.1,by rw[OW];exact h⟩
theorem BV(h1:de K H x d)(h2:de K H y e)(hd:cV n d)(he:cV n e)(hn:n<=64)(h:Q (.bl (!same d e)) H):oB K true x y H Q:=
 ⟨d,e,h1,h2,hd.shaped hn,he.shaped hn,lE d e hd.1 he.1,by rw[PU];exact h⟩
theorem Cu(h1:de K H x d)(h2:de K H y d)(hd:cV n d)(hn:n<=64)(h:Q (.bl false) H):oB K true x y H Q:=BV h1 h2 hd hd hn (by rw[same_self];exact h)
end
section
variable {X:Cx}
end
section
variable {X:Cx}
end
section
variable {X:Cx}
end
section
variable {prog:L5}{w:LZ}{A:Mb}{E:LM->LN->Prop}{s:LN}
end
section
variable {prog:L5}{w:LZ}{A:Mb}{E:LM->LN->Prop}{s:LN}
end
section
variable {X:Cx}
end
section
variable {prog:L5}{w:LZ}{A:Mb}{R:Result->LN->Prop}{I:LL}{fp wr:List LL}{n:Nat}{P:Nat->LM->Prop}{St:Nat->LV->Prop}
end
section
variable {prog:L5}{w:LZ}{A:Mb}{E:LM->LN->Prop}{s:LN}
end
section
variable {X:Cx}
end
structure mO(P:L5)(w:LZ)(K:LO)(mg:LK->Option LM)(base:LV)(k:Nat)(x:LK)(ps:List LK)(sp:Sp):Prop where
 ex:∃a fd,mg x=some (.ref a)/\NK K (.ref a)=true/\Binds K fd ps []/\k8 P w K mg base qK k a fd ps sp
structure bS(K:LO)(mg:LK->Option LM)(x:LK)(st:LX)(ps:List LK):Prop where
 ex:∃a fd,mg x=some (.ref a)/\Jb K x x st a fd/\∀us:List LM,us.length=ps.length->bindArgs fd ⟨us,[]⟩=pure (ps.zip us)
section
variable {P:L5}{w:LZ}{K:LO}{mg:LK->Option LM}{base:LV}
theorem bS.cal{x:LK}{st:LX}{ps N:List LK}{rd:TS}{k:Nat}{sp:Sp}(F:bS K mg x st ps)(S:aG N ps (ax st))(len:∀vs H Q E,sp vs H Q E->vs.length=ps.length)
  (hb:∀(f:LL)(cdv:LM)(A:Mb)(outer:List Mo)(s:LN)(H:Hp)(E:XK),cS k (A.deeper (MY x (ax st) s.heap.objs.size f cdv))->vm (cj qK P w K mg base N x (ax st) f cdv A outer s H E).nox (df st) rd)
  (hr:∀vs H Q E,sp vs H Q E->rd {nx:=fun _ H'=>Q .non H',rt:=Q} (start N vs) H):mO P w K mg base (k+1) x ps sp:=by
 obtain⟨a,fd,hm,hF,hbd⟩:=F.ex
 exact⟨a,fd,hm,hF.kp,.all hbd,hF.ok S len fun cdv A outer s H vs Q E room h=>⟨rd,hb a cdv A outer s H E room,hr vs H Q E h⟩⟩
theorem bS.law{x:LK}{st:LX}{N:List LK}{y:LK}{rd:TS}{k:Nat}{sp:Sp}{fa:LL}(F:bS K mg x st [y])(hfa:mg x=some (.ref fa))(S:aG N [y] (ax st))(len:∀vs H Q E,sp vs H Q E->vs.length=1)
  (hb:∀(base:LV)(f:LL)(cdv:LM)(A:Mb)(outer:List Mo)(s:LN)(H:Hp)(E:XK),cS k (A.deeper (MY x (ax st) s.heap.objs.size f cdv))->vm (cj qK P w K mg base N x (ax st) f cdv A outer s H E).nox (df st) rd)
  (hr:∀vs H Q E,sp vs H Q E->rd {nx:=fun _ H'=>Q .non H',rt:=Q} (start N vs) H):
  ∃fd:Nv,(∀(s:LN)(u:LM),BindsTo s fd ⟨[u],[]⟩ [(y,u)])/\∀base:LV,k8 P w K mg base qK (k+1) fa fd [y] sp:=by
 obtain⟨a,fd,hm,hF,hbd⟩:=F.ex
 have e:=hfa.symm.trans hm
 cases e
 exact⟨fd,fun s u=>.of_eq (hbd [u] rfl),fun base=>hF.ok S len fun cdv A outer s H vs Q E room h=>⟨rd,hb base fa cdv A outer s H E room,hr vs H Q E h⟩⟩
theorem JK{h:LV}{x:LK}{st:LX}{ps:List LK}{f:LL}{oc:LM}{od an:Option LL}{osl:Array (Option LM)}{kV doc pm cdv ct:LM}(X:K.In h)(G:h.Ns MF mg)
  (a4:Nb K MF x=some (some (.ref f))) (l4:K.lookup f=some ⟨oc,od,.func (N8 x x (j5 st) (df st) (ax st) .none kV doc pm an cdv ct),osl⟩)
  (c4:PQ K cdv x=true) (k4:NK K (.ref f)=true)
  (hb:∀(kV doc pm:LM)(an:Option LL)(cdv ct:LM)(us:List LM),us.length=ps.length->bindArgs (N8 x x (j5 st) (df st) (ax st) .none kV doc pm an cdv ct) ⟨us,[]⟩=pure (ps.zip us)):bS K mg x st ps:=
 ⟨f,_,Ot X G a4,Fp l4 c4 k4,hb kV doc pm an cdv ct⟩
end
section
variable {X:Cx}{k:Nat}{ps:List LK}{sp:Sp}{x:LK}{p pos:L8}{e:LU}{es:List LU}{t:TA}
theorem bj(C:mO X.prog X.w X.K X.mg X.base k x ps sp)(hr:cS k X.A)(ha:PA X (e::es) t)(hg:Gl X x:=by rfl)(hdb:(x==("__debug__":LK))=false:=by decide)
  (he:L6 (e::es) X.env=(false,eval e X.env)::L6 es X.env:=by rfl) (hpl:(MA pos (L6 es X.env)).any (·.1)=false:=by rfl):PE X (.Call (.Name x p) (e::es) [] pos) (a9 sp [] E0 t):=by
 obtain⟨a,fd,hm,hk,hb,F⟩:=C.ex
 exact yG F hr hg hm hk hb .nil Cp ha hdb he hpl
theorem CQ{op:Operator}{r:R2}(h:gQ X (N7 op) r):LF X op r:=h
theorem Hk{K:LO}{mg:LK->Option LM}{h:LV}{x:LK}(X:K.In h)(G:h.Ns MF mg)(z:Nb K MF x=some none):mg x=none:=VS X G z
end
noncomputable def cM(n:Nat)(R:List V->Hp->VK->Prop):Sp:=fun vs H Q _=>vs.length=n/\R vs H Q
theorem aP{n:Nat}{R:List V->Hp->VK->Prop}{m:Nat}(e:n=m):∀vs H Q E,cM n R vs H Q E->vs.length=m:=fun _ _ _ _ h=>h.1.trans e
noncomputable def AY(K:LO):Sp:=cM 1 fun vs H Q=>∃(a:LL)(ns:List Int),vs=[.ref a]/\aK K H a (ns.map V.int)/\ns.length<=63/\∀H',Q (.bl true) H'
theorem EF{l:Ud}{k:Nat}{q:L5}{loose:List LK}{XP:(LK->Option LM)->LV->Prop}{YP:LZ->LV->Prop}{d:DefRec}{K:Params->LO}(hn:l.most=some 63)(hdf:d.params.defaults=[])(hr:cS k callerA)
  (hY:∀(w:LZ)(h:LV),YP w h->(K w.params).In h)
  (F:∀(w:LZ)(mg:LK->Option LM)(fa:LL)(h:LV),(K w.params).In h->h.Ns MF mg->mg d.name=some (.ref fa)->
   ∃fd:Nv,(∀(s:LN)(u:LM),BindsTo s fd ⟨[u],[]⟩ [("script",u)])/\∀base:LV,k8 l.prog w (K w.params) mg base qK k fa fd ["script"] (AY (K w.params))):
  Tc q loose XP YP l.row.toRowW d [] (fun f vs=>QG f vs):=
 Hq (n:=63) (k:=k) (x:="script") (CX:=fun _=>qK) (sp:=fun w=>AY (K w.params)) hn (by decide) hdf hr hY
  (fun w mg fa h KX G e=>let ⟨fd,h1,h2⟩:=F w mg fa h KX G e;⟨fd,h1,fun base _ _=>h2 base⟩) (fun _ _ a ns hl _ hS=>⟨rfl,a,ns,rfl,hS,hl,fun _=>rfl⟩) fun _ _ _ _ _ z=>z
theorem C3(o:LS)(f):(o.mapFields f).dict=o.dict:=by
 unfold OS;split<;>rfl
noncomputable def IC(base h:LV)(e T:LL)(cls:LM):Prop:=
 (∃oe vs oT ts,h.get? e=some oe/\oe.cls=cls/\oe.dict=none/\oe.data=.fields vs/\vs[1]?=some (.ref T)/\h.get? T=some oT/\oT.data=.fields ts/\ts[3]?=some .none)/\base.get? T=none/\T≠e
noncomputable def E2(base:LV)(l:List Mo)(e:LL)(cls:LM)(h h':LV):Prop:=
 (∀b o,b≠e->b∉xO l->h.get? b=some o->h'.get? b=some o)/\(∀b o,b≠e->h.get? b=some o->∃sl,h'.get? b=some {o with slots:=sl})/\∃T,h.objs.size<=T/\IC base h' e T cls
section
variable {M:Model}{A:Mb}{E:LM->LN->Prop}{s:LN}
theorem lB{base:LV}{env:Mo}{outer:List Mo}{L e:LL}{oe:LS}{vs:Array LM}{head:LM}{hadNext:Bool}{Q:Unit->LN->Prop}(hfr:A.frames=some (env::outer))(hl:s.heap.FunFrames base (env::outer))(hf:env.frame=some L)
  (he:s.heap.get? e=some oe) (hkb:base.StaysIn s.heap) (hdn:oe.dict=none) (hd:oe.data=.fields vs) (hsz:1<vs.size) (h:∀h',E2 base (env::outer) e oe.cls s.heap h'->Q () {s with heap:=h'}):
  LP M A (do let a <-frameOf env;let pl <-entryPlaceOf L hadNext;let b <-TC head a .none (MN L) .none pl;setField (.ref e) 1 b) (fun _ s'=>LP M A (setFlight (.ref e) none) Q E s') E s:=by
 have hene:e∉(env::outer).filterMap (·.frame):=fun hm=>by
  obtain⟨_,o,ho,hnf⟩:=hl.mem hm ;rw[he]at ho;injection ho with ho;subst ho;exact hnf vs hd
 refine LQ (wpAny_frameOf_fun hfr hl hf fun g1 s1=>?_) ;refine LQ (wpAny_entryPlaceOf fun pl hpl=>?_)
 unfold TC newFields ;refine LQ (wpAny_newObj_type ?_ (hpl.sizeOk5 _ _ _ _ _))
 have e1:g1.get? e=some oe:=(s1.2.1 e hene).trans he
 have kb1:base.StaysIn g1:=fun b o hbo=>(s1.2.1 b fun hm=>by rw[(hl.mem hm).1]at hbo;cases hbo).trans (hkb b o hbo)
 have e2:=Mq (h:=g1) {cls:=.type "traceback",dict:=none,data:=.fields ([head,.ref L,.none,MN L,.none]++(if pl.isEmpty then Qf 6 M5 else pl)).toArray} e1
 refine wpAny_setField e2 hd hsz ?_ ;have hTe:g1.objs.size≠e:=Nh (Mi e1)
 have d3:=RS hd (·.setIfInBounds 1 (Mj g1.objs.size))
 have e3:=Q2 (OS (·.setIfInBounds 1 (Mj g1.objs.size))) e2 (Su d3)
 have T3:=(N9 (g1.push {cls:=.type "traceback",dict:=none,data:=.fields ([head,.ref L,.none,MN L,.none]++(if pl.isEmpty then Qf 6 M5 else pl)).toArray}) (OS (·.setIfInBounds 1 (Mj g1.objs.size))) (Mm hTe)).trans (Mu g1 rfl)
 unfold setFlight ;refine LQ (MV e3 d3 (x:=.ref g1.objs.size) (by simp[hsz]) ?_)
 rw[if_pos (show(Mj g1.objs.size != M5)=true from by simp)]
 refine wpAny_setField T3 rfl (by simp only[MC,MR,MW,RB]<;>omega) (h _ ?_)
 have keep : ∀ b o, b ≠ e -> g1.get? b = some o -> (((g1.push { cls := .type "traceback", dict := none, data := .fields ([head, .ref L, .none, MN L, .none] ++ (if pl.isEmpty then Qf 6 M5 else pl)).toArray }).update e (OS (·.setIfInBounds 1 (Mj g1.objs.size)))).update g1.objs.size
       (OS (·.setIfInBounds 3 ((none:Option LL).elim M5 fun f=>MN f)))).get? b=some o:=fun b o hbe hb=>by
  rw[N9 _ _ (Nh (Mi hb)),N9 _ _ (Mm hbe)] ;exact Mq _ hb
 exists fun b o hbe hbf hb=>keep b o hbe ((s1.2.1 b hbf).trans hb),fun b o hbe hb=>?_
 ·obtain⟨sl,hs⟩:=s1.2.2 b o hb ;exact⟨sl,keep b _ hbe hs⟩
 ·refine⟨g1.objs.size,O4 s1.1.symm,⟨_,_,_,_,?_,Obj.cls_mapFields _ _,(C3 _ _).trans hdn,d3,by simp[hsz],Q2 _ T3 (Su (RS rfl _)),RS rfl _,by first|(simp;done)|(rcases hpl with rfl|⟨_,_,_,_,_,_,_,rfl⟩<;>simp)⟩,kb1.fresh,hTe⟩
  rw[N9 _ _ hTe] ;exact e3
theorem B2{base:LV}{env:Mo}{outer:List Mo}{L e:LL}{oe:LS}{vs:Array LM}{Q:Unit->LN->Prop}(hfr:A.frames=some (env::outer))(hl:s.heap.FunFrames base (env::outer))(hf:env.frame=some L)
  (he:s.heap.get? e=some oe) (hkb:base.StaysIn s.heap) (hdn:oe.dict=none) (hd:oe.data=.fields vs) (h1:vs[1]?=some .none) (h:∀h',E2 base (env::outer) e oe.cls s.heap h'->Q () {s with heap:=h'}):LP M A (leaving env (.ref e)) Q E s:=by
 unfold leaving noteFrame ;simp only[hf]
 refine LQ (LQ (MV he hd h1 ?_)) ;rw[if_neg (by decide)]
 exact lB hfr hl hf he hkb hdn hd (Pd.mp h1).1 h
end
theorem BH{M:Model}{A:Mb}{E:LM->LN->Prop}{s:LN}{base:LV}{env:Mo}{outer:List Mo}{L e T:LL}{cls:LM}{oe oT:LS}{vs ts:Array LM}{Q:Unit->LN->Prop}(hfr:A.frames=some (env::outer))(hl:s.heap.FunFrames base (env::outer))(hf:env.frame=some L)
  (he:s.heap.get? e=some oe) (hcls:oe.cls=cls) (hdn:oe.dict=none) (hd:oe.data=.fields vs) (h1:vs[1]?=some (.ref T)) (hnT:base.get? T=none) (hTe:T≠e) (hT:s.heap.get? T=some oT) (hdT:oT.data=.fields ts) (h3:ts[3]?=some .none) (hkb:base.StaysIn s.heap)
  (h:∀h',(∀b o,b≠e->b≠T->b∉xO (env::outer)->s.heap.get? b=some o->h'.get? b=some o)->(∀b o,b≠e->b≠T->s.heap.get? b=some o->∃sl,h'.get? b=some {o with slots:=sl})->(∃T',s.heap.objs.size<=T'/\IC base h' e T' cls)->Q () {s with heap:=h'}):LP M A (leaving env (.ref e)) Q E s:=by
 subst hcls
 unfold leaving noteFrame ;simp only[hf] ;refine LQ (LQ (MV he hd h1 ?_))
 rw[if_pos (show(Mj T != M5)=true from by simp)] ;refine LQ (MV hT hdT h3 ?_)
 rw[if_neg (show ¬((M5==MN L)=true)from by simp[MN])] ;refine LQ (wpAny_setField hT hdT (Pd.mp h3).1 ?_)
 have other:∀b,b≠T->(s.heap.update T (OS (·.setIfInBounds 3 M5))).get? b=s.heap.get? b:=fun b hb=>N9 _ _ (Mm hb)
 have noRec:∀b o,s.heap.get? b=some o->(∀vs,o.data≠.fields vs)->b≠T:=fun b o hb hnf q=>by rw[q,hT]at hb;injection hb with hb;subst hb;exact hnf ts hdT
 refine lB hfr (hl.of_keeps fun b o hb hnf=>⟨o,(other b (noRec b o hb hnf)).trans hb,rfl⟩) hf ((other e (Mm hTe)).trans he) (fun b o hbo=>(other b fun q=>by rw[q,hnT]at hbo;cases hbo).trans (hkb b o hbo)) hdn hd (Pd.mp h1).1 fun h' x=>?_
 obtain⟨x1,x2,T',x3,x4⟩:=x
 exact h h' (fun b o b1 b2 b3 hb=>x1 b o b1 b3 ((other b b2).trans hb)) (fun b o b1 b2 hb=>x2 b o b1 ((other b b2).trans hb)) ⟨T',Ma (O4 (Te ..).symm) x3,x4⟩
section
variable {X:Cx}{pins:List (LL×LS)}{σ:St}{H:Hp}{s:LN}{h':LV}
theorem Inv.left0{ch:List LL}(I:Inv X pins σ H s)(hch:∀b∈ch,pE X pins H b)(k1:∀b o,b∉ch->b∉xO X.stack->s.heap.get? b=some o->h'.get? b=some o)(k2:∀b o,b∉ch->s.heap.get? b=some o->∃sl,h'.get? b=some {o with slots:=sl}):Inv X pins σ H {s with heap:=h'}:=by
 have nst:∀b,b≠X.env.locals->b∉X.fs->b∉xO X.stack:=fun b h1 h2 z=>(L9.mp (I.stkSub b z)).elim h1 h2
 refine I.step (g':=s.gens) (d':=s.drawn) (t':=s.toks) (ch:=ch) (fun b hb=>?_) (fun b o h1 h2 hc e _=>k1 b o hc (nst b h1 h2) e) (fun b o _ _ hc e _=>k2 b o hc e) (fun _ _ _ _ n=>n) (fun b o hc e=>?_) (fun _ _ e=>e) (fun _ _ _ e=>e) (fun b ps e=>⟨#[],by rw[e];simp⟩) (fun m hm=>?_) (fun b u e=>?_) I.bare
 ·obtain⟨_,f1,_,f3,f4,f5⟩:=hch b hb
  exact⟨f3,f1,f4,f5⟩
 ·obtain⟨sl,q⟩:=k2 b o hc e
  exact⟨_,q⟩
 ·obtain⟨o,es,ep,ho,r⟩:=hm
  obtain⟨sl,q⟩:=k2 _ o (fun z=>(hch _ z).2.1 rfl) ho
  exact⟨_,es,ep,q,r⟩
 ·have tr:∀c u,H c=some u->c∉ch/\c∉xO X.stack:=fun c u hc=>⟨(fun z=>by rw[(hch c z).1]at hc;cases hc),(fun z=>by rw[I.stkFree c z]at hc;cases hc)⟩
  refine(I.hok b u e).stay (fun c v hc q=>?_) (fun _ q=>q) fun _ _ q=>q
  rcases hc with z|z
  ·subst z
   obtain⟨a1,a2⟩:=tr c u e
   exact k1 c v a1 a2 q
  ·obtain⟨a1,a2⟩:=tr c _ z
   exact k1 c v a1 a2 q
end
noncomputable def FK(X:Cx)(pins:List (LL×LS))(H:Hp)(b:LL):Prop:=
 H b=none/\b≠X.env.locals/\b∉X.fs/\X.s₀.heap.get? b=none/\(∀x c,X.env.cells.lookup x=some c->c≠b)/\∀p∈X.pn++pins,p.1≠b
section
variable {X:Cx}{pins:List (LL×LS)}{σ:St}{H H':Hp}{s:LN}{ch:List LL}
noncomputable abbrev Cx.wide(X:Cx)(ch:List LL):Cx:={X with ex:=X.ex++ch}
theorem Inv.wide(I:Inv X pins σ H s)(hch:∀b∈ch,FK X pins H b):Inv (X.wide ch) pins σ H s:=
 ⟨⟨I.ok.mod,I.ok.kind,I.ok.glob,I.ok.blt,I.ok.above,I.ok.inj,I.ok.has,I.ok.cab,I.ok.hd,I.ok.frames,I.ok.stk,(fun b hb=>(Mp.mp hb).elim (I.ok.exf b) fun z=>⟨(hch b z).2.1,fun x c e=>(hch b z).2.2.2.2.1 x c e⟩),I.ok.bs,I.ok.bsz,
  (fun b o e hb=>(Mp.mp hb).elim (I.ok.noex b o e) fun z=>by have q:=(I.ok.bs b o e).1;rw[(hch b z).2.2.2.1]at q;cases q),(fun b hb=>(Mp.mp hb).elim (I.ok.exfs b) fun z=>(hch b z).2.2.1),I.ok.funs,I.ok.frf⟩,I.os,I.bare,I.base.mono (fun _ z=>z) (fun _ z=>Mp.mpr (.inl z)),I.loc,I.cell,I.free,I.freeC,I.pin,I.hok,I.len⟩
theorem Inv.shut(ok:X.Ok)(hch:∀b∈ch,X.s₀.heap.get? b=none)(I:Inv (X.wide ch) pins σ H s):Inv X pins σ H s:=by
 have nx:∀b o,X.s₀.heap.get? b=some o->b∉X.ex->b∉X.ex++ch:=fun b o e hx z=>(Mp.mp z).elim hx fun z=>by rw[hch b z]at e;cases e
 exact⟨ok,I.os,I.bare,⟨fun b o e n hb hx=>I.base.keep b o e n hb (nx b o e hx),fun b o e n hb hx=>I.base.slot b o e n hb (nx b o e hx),fun b o e n hx=>I.base.free b o e n (nx b o e hx),fun b o e hx=>I.base.there b o e (nx b o e hx),I.base.tups,I.base.frzs,I.base.tbls⟩,I.loc,I.cell,I.free,I.freeC,I.pin,I.hok,I.len⟩
theorem Inv.fpO{b:LL}(I:Inv X pins σ H s)(hb:s.heap.get? b=none)(hx:b∉X.ex)(hn:H' b=none):FK X pins H' b:=by
 refine⟨hn,fun z=>?_,fun z=>?_,?_,fun x c e z=>?_,fun p hp z=>?_⟩
 ·obtain⟨m,⟨o,_,_,ho,_⟩,_⟩:=I.loc
  rw[z,ho]at hb;cases hb
 ·obtain⟨_,o,ho,_⟩:=I.ok.funs.mem z
  cases h0:X.s₀.heap.get? b with
  |none=>rw[ho]at h0;cases h0
  |some o'=>
   obtain⟨o2,q⟩:=I.base.there b o' h0 hx
   rw[q]at hb;cases hb
 ·cases h0:X.s₀.heap.get? b with
  |none=>rfl
  |some o'=>
   obtain⟨o2,q⟩:=I.base.there b o' h0 hx
   rw[q]at hb;cases hb
 ·obtain⟨v,o,ho,_⟩:=I.cell x c e
  rw[z,hb]at ho;cases ho
 ·have q:=(I.pin p hp).1
  rw[z,hb]at q;cases q
theorem FK.ok{b:LL}(h:FK X pins H b)(hb:b∈ch):pE (X.wide ch) pins H b:=⟨h.1,h.2.1,h.2.2.1,.inl (Mp.mpr (.inr hb)),h.2.2.2.2.1,h.2.2.2.2.2⟩
theorem Inv.left{h':LV}(I:Inv X pins σ H s)(hch:∀b∈ch,FK X pins H b)(k1:∀b o,b∉ch->b∉xO X.stack->s.heap.get? b=some o->h'.get? b=some o)(k2:∀b o,b∉ch->s.heap.get? b=some o->∃sl,h'.get? b=some {o with slots:=sl}):Inv X pins σ H {s with heap:=h'}:=
 Inv.shut I.ok (fun b hb=>(hch b hb).2.2.2.1) (Inv.left0 (X:=X.wide ch) (I.wide hch) (fun b hb=>(hch b hb).ok hb) k1 k2)
end
noncomputable def eD(P:L5)(w:LZ)(base:LV):El:=fun outer H s E e s'=>∃a T cls H',e=.ref a/\s'.os=s.os/\N2 s'.gens/\Un (xO outer) [] H H' s.heap s'.heap/\mZ P w H' s'.heap/\H' a=none/\H' T=none/\IC base s'.heap a T cls/\s.heap.get? a=none/\s.heap.get? T=none/\E cls none H'
section
variable {P:L5}{w:LZ}{K:LO}{mg:LK->Option LM}{base:LV}{N:List LK}{qual:LK}{scope:MP}{f:LL}{cd:LM}{A:Mb}{outer:List Mo}{s0 s:LN}{H0 H:Hp}{E:XK}{pins:List (LL×LS)}{σ:St}
theorem xA{X:Cx}(ok:X.Ok)(h:X.stack=X.env::X.outer):X.env.frame=some X.env.locals:=by
 rcases ok.stk with e|⟨_,e⟩
 ·rw[h]at e
  have:=congrArg OQ e
  simp at this
 ·exact e
theorem leave_new{e:LL}{oe:LS}{vs:Array LM}(I:Inv (cj (eD P w base) P w K mg base N qual scope f cd A outer s0 H0 E) pins σ H s)(he:s.heap.get? e=some oe)(hn:H e=none)(hlo:s0.heap.get? e=none)(hfp:FK (cj (eD P w base) P w K mg base N qual scope f cd A outer s0 H0 E) pins H e)(hdn:oe.dict=none)(hd:oe.data=.fields vs)(h1:vs[1]?=some .none)(q:E oe.cls none H):
  (cj (eD P w base) P w K mg base N qual scope f cd A outer s0 H0 E).xe (.ref e) s:=by
 have hf:=xA I.ok rfl
 refine B2 (base:=base) (env:=MY qual scope s0.heap.objs.size f cd) (outer:=outer) I.ok.frames I.stack hf he I.bk hdn hd h1 fun h' x=>?_
 obtain⟨k1,k2,T,hT,tr⟩:=x
 have J:=I.left (ch:=[e]) (h':=h') (fun b hb=>by rw[Mz.mp hb];exact hfp) (fun b o hb hs hq=>k1 b o (fun z=>hb (by simp[z])) hs hq) (fun b o hb hq=>k2 b o (fun z=>hb (by simp[z])) hq)
 exact⟨e,T,oe.cls,H,rfl,J.os,J.bare,J.base,J.hok,hn,I.hok.fresh hT,tr,hlo,Qo (Ma I.sz hT),q⟩
theorem zA:j7 (eD P w base) (cj (eD P w base) P w K mg base N qual scope f cd A outer s0 H0 E) E:=by
 intro pins σ H s e s' I hx
 obtain⟨a,T,cls,H',rfl,os,bare,un,hok,na,nT,⟨⟨oe,vs,oT,ts,t1,t2,tn,t3,t4,t5,t6,t7⟩,t8,t9⟩,la,lT,q⟩:=hx
 have J:Inv (cj (eD P w base) P w K mg base N qual scope f cd A outer s0 H0 E) pins σ H' s':=by
  obtain⟨hh,g,d,t,os'⟩:=s'
  obtain rfl:os'=s.os:=os
  exact I.call (h':=hh) (g':=g) (d':=d) (t':=t) (ch:=[]) un hok bare (fun b z=>absurd z (by simp))
 have hf:=xA J.ok rfl
 refine BH (base:=base) (env:=MY qual scope s0.heap.objs.size f cd) (outer:=outer) J.ok.frames J.stack hf t1 t2 tn t3 t4 t8 t9 t5 t6 t7 J.bk fun h' k1 k2 ⟨T',hT',tr⟩=>?_
 have fp:∀b,s.heap.get? b=none->H' b=none->FK (cj (eD P w base) P w K mg base N qual scope f cd A outer s0 H0 E) pins H' b:=fun b hb hn=>I.fpO hb (by simp[cj]) hn
 have J2:=J.left (ch:=[a,T]) (h':=h') (fun b hb=>by
   have hb':b=a\/b=T:=by simpa using hb
   rcases hb' with z|z
   ·rw[z];exact fp a la na
   ·rw[z];exact fp T lT nT) (fun b o hb hs hq=>k1 b o (fun z=>hb (by simp[z])) (fun z=>hb (by simp[z])) hs hq) (fun b o hb hq=>k2 b o (fun z=>hb (by simp[z])) (fun z=>hb (by simp[z])) hq)
 exact⟨a,T',cls,H',rfl,J2.os,J2.bare,J2.base,J2.hok,na,J.hok.fresh hT',tr,(fp a la na).2.2.2.1,Qo (Ma J.sz hT'),q⟩
end
section
variable {M:Model}{A:Mb}{E:LM->LN->Prop}{s:LN}
theorem Gh{base:LV}{env:Mo}{outer:List Mo}{L e T:LL}{cls:LM}{Q:Unit->LN->Prop}(hfr:A.frames=some (env::outer))(hl:s.heap.FunFrames base (env::outer))(hf:env.frame=some L)(ht:IC base s.heap e T cls)(hkb:base.StaysIn s.heap)
  (h:∀h',(∀b o,b≠e->b≠T->b∉xO (env::outer)->s.heap.get? b=some o->h'.get? b=some o)->(∀b o,b≠e->b≠T->s.heap.get? b=some o->∃sl,h'.get? b=some {o with slots:=sl})->(∃T',s.heap.objs.size<=T'/\IC base h' e T' cls)->Q () {s with heap:=h'}):
  LP M A (noteFrame (.ref e) env) (fun _ s₂=>LP M A (setFlight (.ref e) none) Q E s₂) E s:=by
 obtain⟨⟨oe,vs,oT,ts,he,hcls,hdn,hd,h1,hT,hdT,h3⟩,hnT,hTe⟩:=ht
 subst hcls
 unfold noteFrame ;simp only[hf] ;refine LQ (MV he hd h1 ?_)
 rw[if_pos (show(Mj T != M5)=true from by simp)] ;refine LQ (MV hT hdT h3 ?_)
 rw[if_neg (show ¬((M5==MN L)=true)from by simp[MN])] ;refine LQ (wpAny_setField hT hdT (Pd.mp h3).1 ?_)
 have other:∀b,b≠T->(s.heap.update T (OS (·.setIfInBounds 3 M5))).get? b=s.heap.get? b:=fun b hb=>N9 _ _ (Mm hb)
 have noRec:∀b o,s.heap.get? b=some o->(∀vs,o.data≠.fields vs)->b≠T:=fun b o hb hnf q=>by rw[q,hT]at hb;injection hb with hb;subst hb;exact hnf ts hdT
 refine lB hfr (hl.of_keeps fun b o hb hnf=>⟨o,(other b (noRec b o hb hnf)).trans hb,rfl⟩) hf ((other e (Mm hTe)).trans he) (fun b o hbo=>(other b fun q=>by rw[q,hnT]at hbo;cases hbo).trans (hkb b o hbo)) hdn hd (Pd.mp h1).1 fun h' x=>?_
 obtain⟨x1,x2,T',x3,x4⟩:=x
 exact h h' (fun b o b1 b2 b3 hb=>x1 b o b1 b3 ((other b b2).trans hb)) (fun b o b1 b2 hb=>x2 b o b1 ((other b b2).trans hb)) ⟨T',Ma (O4 (Te ..).symm) x3,x4⟩
theorem BU{base:LV}{e T:LL}{cls:LM}{Q:Unit->LN->Prop}(ht:IC base s.heap e T cls)(h:∀h',(∀b o,b≠T->s.heap.get? b=some o->h'.get? b=some o)->Q () {s with heap:=h'}):LP M A (setFlight (.ref e) none) Q E s:=by
 obtain⟨⟨oe,vs,oT,ts,he,hcls,hdn,hd,h1,hT,hdT,h3⟩,hnT,hTe⟩:=ht
 unfold setFlight ;refine LQ (MV he hd h1 ?_) ;rw[if_pos (show(Mj T != M5)=true from by simp)]
 refine wpAny_setField hT hdT (Pd.mp h3).1 (h _ fun b o hb q=>(N9 _ _ (Mm hb)).trans q)
end
noncomputable abbrev Cx.marked(X:Cx)(v:LM):Cx:={X with A:=X.A.mark (some v),calm:=false,xe:=fun _ _=>False}
section
variable {X:Cx}{pins:List (LL×LS)}{σ:St}{H:Hp}{s:LN}
theorem Inv.marked(I:Inv X pins σ H s)(v:LM):Inv (X.marked v) pins σ H s:=
 ⟨⟨I.ok.mod,I.ok.kind,I.ok.glob,I.ok.blt,I.ok.above,I.ok.inj,I.ok.has,I.ok.cab,(fun h=>by cases h),I.ok.frames,I.ok.stk,I.ok.exf,I.ok.bs,I.ok.bsz,I.ok.noex,I.ok.exfs,I.ok.funs,I.ok.frf⟩,I.os,I.bare,I.base,I.loc,I.cell,I.free,I.freeC,I.pin,I.hok,I.len⟩
theorem Inv.unmarked{v:LM}(ok:X.Ok)(I:Inv (X.marked v) pins σ H s):Inv X pins σ H s:=⟨ok,I.os,I.bare,I.base,I.loc,I.cell,I.free,I.freeC,I.pin,I.hok,I.len⟩
theorem Inv.track0{a:LL}{o:HO}(I:Inv X pins σ H s)(hf:pE X pins H a)(new:cF X.prog X.w (upd H a o) s.heap a o):Inv X pins σ (upd H a o) s:=by
 have ne:∀b u,H b=some u->b≠a:=fun b u e z=>by rw[z,hf.1]at e;cases e
 refine I.step (h':=s.heap) (g':=s.gens) (d':=s.drawn) (t':=s.toks) (ch:=[a]) (fun b hb=>?_) (fun b ob _ _ _ e _=>e) (fun b ob _ _ _ e _=>⟨ob.slots,e⟩) (fun b ob hc e n=>?_) (fun b ob _ e=>⟨ob,e⟩) (fun b xs e=>?_) (fun b ob u e=>?_) (fun b ps e=>⟨#[],?_⟩) (fun m hm=>hm) (fun b u e=>?_) I.bare
 ·rw[Mz.mp hb]
  obtain⟨_,f1,_,f3,f4,f5⟩:=hf
  exact⟨f3,f1,f4,f5⟩
 ·rw[aq fun z=>hc (by simp[z])];exact n
 ·rw[aq (ne _ _ e)];exact e
 ·rw[aq (ne _ _ e)];exact e
 ·rw[aq (ne _ _ e),e];simp
 ·by_cases hb:b=a
  ·subst hb
   rw[ao]at e
   cases e
   exact new
  ·rw[aq hb]at e
   refine(I.hok b u e).stay (fun c v _ q=>q) (fun c q=>?_) fun c ys q=>?_
   ·rw[aq (ne _ _ q)];exact q
   ·rw[aq (ne _ _ q)];exact q
theorem Inv.track{a:LL}{o:HO}(I:Inv X pins σ H s)(hf:FK X pins H a)(new:cF X.prog X.w (upd H a o) s.heap a o):Inv X pins σ (upd H a o) s:=
 Inv.shut (ch:=[a]) I.ok (fun b hb=>by rw[Mz.mp hb];exact hf.2.2.2.1) (Inv.track0 (X:=X.wide [a]) (I.wide (fun b hb=>by rw[Mz.mp hb];exact hf)) (hf.ok (by simp)) new)
theorem Inv.forget{i:Nat}{n:LK}{m:LK->Option LM}{v:Option LM}{h':LV}{t':Nat}(I:Inv X pins σ H s)(hN:X.N.Nodup)(hi:X.N[i]?=some n)(hm:s.heap.Ns X.env.locals m)(hl:∀(j:Nat)(x:LK)(w:V),X.N[j]?=some x->σ[j]?=some (some w)->Jq X.env.scope x->∃u,RelV w u/\Look X.env s.heap m x u)
  (hn:h'.Ns X.env.locals (fun x=>if x=n then v else m x)) (hs:NM X.env.locals s.heap h'):Inv X pins (σ.set i none) H {s with heap:=h',toks:=t'}:=by
 have neL:∀b o,X.s₀.heap.get? b=some o->b≠X.env.locals:=fun b o e=>Ms (MD (Mi e) I.ok.above)
 have get:∀b,b≠X.env.locals->h'.get? b=s.heap.get? b:=fun b hb=>hs.2 b hb
 have cellK:∀x c,X.env.cells.lookup x=some c->∀w,s.heap.IsCell c w->h'.IsCell c w:=fun x c e w ⟨o,ho,hd⟩=>⟨o,(get c (I.cne x c e)).trans ho,hd⟩
 refine⟨I.ok,I.os,I.bare,⟨fun b o e n hb hx=>?_,fun b o e n hb hx=>?_,I.base.free,fun b o e hx=>?_,I.base.tups,I.base.frzs,I.base.tbls⟩,⟨_,hn,fun j x w e1 e2 e3=>?_⟩,fun x c e=>?_,I.free,I.freeC,fun p hp=>?_,fun b u e=>?_,by rw[SJ];exact I.len⟩
 ·exact(get b (neL b o e)).trans (I.base.keep b o e n hb hx)
 ·obtain⟨sl,q⟩:=I.base.slot b o e n hb hx
  exact⟨sl,(get b (neL b o e)).trans q⟩
 ·obtain⟨o',q⟩:=I.base.there b o e hx
  exact⟨o',(get b (neL b o e)).trans q⟩
 ·have hji:j≠i:=fun z=>by
   subst z
   rw[Pw (by rw[I.len];exact(Mx.mp hi).1)]at e2
   cases e2
  rw[Ql (Mm hji)]at e2
  have hxn:x≠n:=fun z=>hji (vb hN (z▸e1) hi)
  obtain⟨u,r,l⟩:=hl j x w e1 e2 e3
  exists u,r
  rcases l with⟨l1,l2⟩|⟨k,c,e,z⟩
  ·exact .inl ⟨l1,by show(if x=n then v else m x)=some u;rw[if_neg hxn];exact l2⟩
  ·exact .inr ⟨k,c,e,cellK x c e _ z⟩
 ·obtain⟨w,z⟩:=I.cell x c e
  exact⟨w,cellK x c e w z⟩
 ·obtain⟨e,n,ne,nf,d⟩:=I.pin p hp
  exact⟨(get p.1 ne).trans e,n,ne,nf,d⟩
 ·have tr:∀c u,H c=some u->c≠X.env.locals:=fun c u hc z=>by rw[z,I.free]at hc;cases hc
  refine(I.hok b u e).stay (fun c w hc q=>?_) (fun _ q=>q) fun _ _ q=>q
  rcases hc with z|z
  ·subst z;exact(get c (tr c u e)).trans q
  ·exact(get c (tr c _ z)).trans q
end
noncomputable def XP(X:Cx)(pins:List (LL×LS))(σ:St)(E:XK)(e:LM)(s':LN):Prop:=
 ∃a T cls H',e=.ref a/\Inv X pins σ H' s'/\FK X pins H' a/\FK X pins H' T/\IC X.base s'.heap a T cls/\E cls none H'
noncomputable def PX(X:Cx)(e:LU)(E:XK)(t:TE):Prop:=
 ∀(pins:List (LL×LS))(s:LN)(σ:St)(H:Hp)(Q:VK),Inv X pins σ H s->t σ H Q->LP (model X.prog X.w) X.A (eval e X.env) (EP X pins σ Q) (XP X pins σ E) s
section
variable {X:Cx}{k:Nat}{f:LL}{fd:Nv}{ps:List LK}{sp:Sp}{dvs:List V}{ds:List LM}{E:XK}{x:LK}{p pos:L8}{e:LU}{es:List LU}{t:TA}
theorem G7{pins:List (LL×LS)}{σ:St}{H:Hp}{s:LN}{Q:VK}{us:List LM}{vs:List V}(F:k8 X.prog X.w X.K X.mg X.base (eD X.prog X.w X.base) k f fd ps sp)(hr:cS k X.A)(hb:Binds X.K fd ps ds)(hd:bF dvs ds)(hx:∀b,b∉X.ex)
  (I:Inv X pins σ H s) (r:bF vs us) (h:sp (vs++dvs) H Q E):LP (model X.prog X.w) X.A (call (.ref f) us) (EP X pins σ Q) (XP X pins σ E) s:=by
 have r2:bF (vs++dvs) (us++ds):=r.append hd
 have hl:(us++ds).length=ps.length:=by rw[<-r2.length];exact F.len _ _ _ _ h
 refine wpAny_call (codeAny_mono (F.run X.A X.stack s H ⟨us,[]⟩ (us++ds) (vs++dvs) Q E hr I.env0 (hb s us I.kIn hl) r2 h) fun r s' hq=>?_)
 cases r with
 |error e=>
  obtain⟨a,T,cls,H',rfl,os,bare,un,hok,na,nT,tr,la,lT,q⟩:=hq
  exact⟨a,T,cls,H',rfl,I.call' (ch:=[]) os un hok bare (fun b z=>absurd z (by simp)),I.fpO la (hx a) na,I.fpO lT (hx T) nT,tr,q⟩
 |ok fl=>
  cases fl with
  |ret u=>exact I.after hq
  |next=>exact Nc hq
  |brk=>exact Nc hq
  |cont=>exact Nc hq
theorem GS(F:k8 X.prog X.w X.K X.mg X.base (eD X.prog X.w X.base) k f fd ps sp)(hr:cS k X.A)(hg:Gl X x)(hm:X.mg x=some (.ref f))(hk:NK X.K (.ref f)=true)(hb:Binds X.K fd ps ds)(hd:bF dvs ds)(hx:∀b,b∉X.ex)
  (ha:PA X.nox (e::es) t) (hdb:(x==("__debug__":LK))=false:=by decide) (he:L6 (e::es) X.env=(false,eval e X.env)::L6 es X.env:=by rfl) (hpl:(MA pos (L6 es X.env)).any (·.1)=false:=by rfl):
  PX X (.Call (.Name x p) (e::es) [] pos) E (a9 sp dvs E t):=by
 intro pins s σ H Q I h
 refine Pu (mM I hg hm ?_ hdb)
 refine Rb (h₀:=X.base) I.ok.mod.kin hk (M3 (ha pos pins s σ H _ (I.wish _) h) (fun us s1 ⟨vs,H1,I1,r,q⟩=>⟨I1.kIn,?_⟩) fun _ _ z=>z.elim) he hpl
 exact G7 F hr hb hd hx I1.unwish r q
end
section
variable {X:Cx}{x n:LK}{C:LM}{i:Nat}{t:XK->TE}{tb:TS}{e:LU}{b₀:LX}{suite:List LX}{pos epos hpos np:L8}
end
section
open PySem.W
structure oE(K:Frag)(C:LL):Prop where
 ga:findIn K (.ref C) "__getattribute__"=some (some (.builtin "BaseException.__getattribute__"))
 gc:findIn K (.ref C) "__class__"=some (some (.builtin "object.__class__"))
 gn:findIn K (.ref C) "__getattr__"=some none
 ob:mroIn K C (.type "object")=some true
 be:mroIn K C (.type "BaseException")=some true
theorem oU:Slot "ValueError" "__getattribute__" "BaseException.__getattribute__":=F.attr_ValueError.ga
section
variable {prog:L5}{w:LZ}{A:Mb}{E:LM->LN->Prop}{h:LV}{g:Array GenState}{d:Drawn}{t:Nat}{os:OsState}{a C:LL}{o:LS}{K:Frag}
theorem sg{M:Model}{nameV:LM}{Q:Unit->LN->Prop}(X:K.In h)(I:OZ h a o C none)(Z:oE K C)(hq:Q () ⟨h,g,d,t,os⟩):LP M A (checkBuiltinCall "BaseException.__getattribute__" ⟨[.ref a,nameV],[]⟩) Q E ⟨h,g,d,t,os⟩:=by
 have hk:builtinKind "BaseException.__getattribute__"=some .slot:=by decide +kernel
 have hsplit:splitId "BaseException.__getattribute__"=some ("BaseException","__getattribute__"):=by decide +kernel
 have L4:=looks_mroIn (M:=M) X Z.be
 have ha:=F.args_bexc_ga (.ref a) nameV
 have hx:=I.at_
 have hc:=I.cls
 simp only[checkBuiltinCall,hk,hsplit]
 refine LQ ?_
 ·unfold isInstance
  repeat (first|(with_reducible refine wpAny_loadPart_at hx ?_;rw[hc])|(with_reducible refine L4.at ?_)|wp_step)
  exact hq
theorem rP{tk:Tok}{Q:Fin->LN->Prop}(X:K.In h)(I:OZ h a o C none)(Z:oE K C)(hq:Q (.done (.ret (.ref C))) ⟨h,g,d,t,os⟩):
  LP (model prog w) A (Nf.«object.__getattribute__» ⟨[.ref a,.str "__class__" tk],[]⟩) Q E ⟨h,g,d,t,os⟩:=by
 have hT5:(⟨h,g,d,t,os⟩:LN).TypeIs (.builtin "object.__class__") "getset_descriptor":=R8
 have f5:=R8
 have f6:=F.slot_gs_get.lookup
 have f7:=F.slot_gs_set.lookup
 have hx:=I.at_
 have hc:=I.cls
 have L2:=looks_findIn (M:=model prog w) X Z.gc
 repeat (any_goals (first|assumption|(with_reducible refine wpAny_loadPart_at hx ?_;rw[hc])|(with_reducible refine L2.at ?_)|wp_step))
 refine class_get (s:=⟨h,g,d,t,os⟩) X I Z.ob ?_
 repeat (any_goals (first|assumption|wp_step))
theorem yz{tk:Tok}{Q:LM->LN->Prop}(X:K.In h)(I:OZ h a o C none)(Z:oE K C)(hq:Q (.ref C) ⟨h,g,d,t,os⟩):
  LP (model prog w) A (getAttrBy (.ref a) (.str "__class__" tk) false) Q E ⟨h,g,d,t,os⟩:=by
 have f3:=oU.bind (.ref a)
 have hx2:(O5 "BaseException.__getattribute__"==O5 "object.__getattribute__")=false:=by decide +kernel
 have hx1:(onTheHeap (Mj C)&&O5 "BaseException.__getattribute__"==O5 "object.__getattribute__")=false:=by rw[hx2];rfl
 have hx:=I.at_
 have hc:=I.cls
 have L1:=looks_findIn (M:=model prog w) X Z.ga
 have L3:=looks_findIn (M:=model prog w) X Z.gn
 repeat (any_goals (first|assumption|(with_reducible refine wpAny_loadPart_at hx ?_;rw[hc])|(with_reducible refine L1.at ?_)|(with_reducible refine L3.at ?_)|wp_step))
 refine codeAny_call_builtin oU.plain F.entry_bexc_ga (sg X I Z (rP X I Z ?_))
 repeat (any_goals (first|assumption|wp_step))
theorem tm{Q:Option LM->LN->Prop}(X:K.In h)(I:OZ h a o C none)(Z:oE K C)(hq:Q (some (.ref C)) ⟨h,g,d,t+1,os⟩):LP (model prog w) A (getAttr? (.ref a) "__class__") Q E ⟨h,g,d,t,os⟩:=by
 unfold getAttr? getAttrBy?
 repeat (any_goals (first|assumption|with_reducible apply yz X I Z|wp_step))
theorem FD(hC:(clsIn K C).isSome=true)(Z:oE K C):KitX K (.ref a) (.ref C) (fun h=>OZ h a o C none) where
 ty:=fun _ _ _ I=>I.type
 it:=fun _ _ X _=>by
  obtain⟨cdD,hcD⟩:=Rp.mp hC
  unfold clsIn at hcD
  split at hcD
  ·rename_i c' d' cd' sl' ho
   intro A' Q' E' s' k q
   unfold isType loadHead
   exact LQ (wpAny_loadPart (k _ _ (X _ _ ho)) (Mc q))
  ·cases hcD
 ne:=fun h tp dd its n sl X htp=>by
  obtain⟨cdD,hcD⟩:=Rp.mp hC
  refine Bool.eq_false_iff.mpr fun q=>?_
  have e:C=tp:=TM (beq_iff_eq.mp q)
  subst e
  unfold clsIn at hcD
  split at hcD
  ·rename_i c' d' cd' sl' ho
   have z:=(X _ _ ho).symm.trans htp
   cases z
  ·cases hcD
 ca:=fun {_ _ _ _ _ s} X I k=>by obtain⟨h,g,d,t,os⟩:=s;exact tm X I Z k
end
section
variable {X:Cx}{pins:List (LL×LS)}{σ:St}{H:Hp}{s:LN}{A:Mb}{E:LM->LN->Prop}{Q:LM->LN->Prop}{c:LM}{b:Bool}
noncomputable def ExcAt(H:Hp)(a C:LL):Prop:=∃oe,H a=some (.frz oe (.own a))/\oe.cls=.ref C/\Rv oe=true/\oe.dict=none
theorem ExcAt.inst{a C:LL}(I:Inv X pins σ H s)(e:ExcAt H a C):∃oe,OZ s.heap a oe C none:=by
 obtain⟨oe,h1,h2,h3,h4⟩:=e
 have q:s.heap.get? a=some oe:=(I.hok a _ h1).1
 exact⟨oe,q,h2,h3,by rw[h4];trivial⟩
theorem BD{a C:LL}(I:Inv X pins σ H s)(e:ExcAt H a C)(hC:(clsIn X.K C).isSome=true)(Z:oE X.K C)(k:kitOne X.K (.ref C) c=some b)(h:∀tk,Q (.bool b) {s with toks:=tk}):
  LP (model X.prog X.w) A (call (.builtin "isinstance") [.ref a,c]) Q E s:=by
 obtain⟨oe,J⟩:=e.inst I
 exact kia_one (FD hC Z) I.kIn J k (fun z=>nomatch z) h
end
end
noncomputable def km(C:LL)(E:XK)(t:TA):TS:=fun _ σ H=>t σ H fun vs H1=>vs.length<=LW/\E (.ref C) none H1
section
variable {P:L5}{w:LZ}{K:LO}{mg:LK->Option LM}{base:LV}{N:List LK}{qual:LK}{scope:MP}{f C:LL}{cd:LM}{A:Mb}{outer:List Mo}{s0:LN}{H0:Hp}{E:XK}{x:LK}{np cpos pos:L8}{e:LU}{es:List LU}{t:TA}{B Bn newId nid initId inN:String}{bm bmN:List LM}
theorem mZ.lost{w:LZ}{P:L5}{H:Hp}{h:LV}(x:mZ P w H h){b:LL}(e:h.get? b=none):H b=none:=by
 cases q:H b with
 |none=>rfl
 |some o=>
  have ok:=x b o q
  have go:∀o,cF P w H h b o->∃u,h.get? b=some u:=fun o=>by
   induction o with
   |lst xs=>rintro⟨_,_,_,_,e⟩;exact⟨_,e⟩
   |tup xs=>rintro⟨_,_,_,o,e,_⟩;exact⟨_,e⟩
   |dK kvs=>rintro⟨_,_,_,_,o,_,_,e,_⟩;exact⟨_,e⟩
   |dT kvs=>rintro⟨_,_,_,_,o,_,_,e,_⟩;exact⟨_,e⟩
   |set S n=>rintro⟨o,_,_,_,e,_⟩;exact⟨_,e⟩
   |ins C dx fs=>rintro⟨_,_,_,e,_⟩;exact⟨_,e⟩
   |own x=>exact id
   |xd fs=>rintro⟨_,⟨o,_,_,e',_⟩,_⟩;exact⟨_,e'⟩
   |met f x=>intro e;exact⟨_,e⟩
   |rng lo hi=>rintro⟨_,_,_,e⟩;exact⟨_,e⟩
   |frz o u ih=>rintro⟨e,_⟩;exact⟨_,e⟩
   |tbl ps=>intro e;exact⟨_,e⟩
   |ext φ=>rintro⟨_,e,_⟩;exact e
  obtain⟨u,q⟩:=go o ok
  rw[e]at q;cases q
theorem Fu(O:OwnCls x C bm newId mg base)(Fn:ExcBaseFacts Bn newId inN bmN)(hBn:bm.contains (.type Bn)=true)(FB:ExcBaseFacts B nid initId bm)
  (hg:Gl (cj (eD P w base) P w K mg base N qual scope f cd A outer s0 H0 E) x) (hc:(cj (eD P w base) P w K mg base N qual scope f cd A outer s0 H0 E).calm=true)
  (ha:PA (cj (eD P w base) P w K mg base N qual scope f cd A outer s0 H0 E) (e::es) t) (hdb:(x==("__debug__":LK))=false:=by decide)
  (he:L6 (e::es) (cj (eD P w base) P w K mg base N qual scope f cd A outer s0 H0 E).env=(false,eval e (cj (eD P w base) P w K mg base N qual scope f cd A outer s0 H0 E).env)::L6 es (cj (eD P w base) P w K mg base N qual scope f cd A outer s0 H0 E).env:=by rfl)
  (hpl:(MA cpos (L6 es (cj (eD P w base) P w K mg base N qual scope f cd A outer s0 H0 E).env)).any (·.1)=false:=by rfl):
  PS (cj (eD P w base) P w K mg base N qual scope f cd A outer s0 H0 E) (.Raise (some (.Call (.Name x np) (e::es) [] cpos)) none pos) (km C E t):=by
 intro pins s σ H D I h
 obtain⟨tl,Nn,nm,q,bs,hdct,sn,sub,ab,col,dd,k0,k1,k2,k3,k5,mN,hC,hN,hni,T⟩:=O.obj
 refine wpAny_Raise_call_subU (C:=C) (nm:=nm) (q:=q) (N:=Nn) (bs:=bs) (bm:=tl) (hdct:=hdct) (sn:=sn) (sub:=sub) (ab:=ab) (col:=col) (dd:=dd) (k0:=k0) (k1:=k1) (k2:=k2) (k3:=k3) (k5:=k5)
  Fn hBn FB (mN:=mN) (T.hasType FB.hasBase) (I.ok.hd hc) (by rw[he];show(false || (MA cpos (L6 es _)).any (·.1))=false;rw[hpl];rfl) hni (mM I hg O.bound ⟨rfl,?_⟩ hdb)
 have ha':=ha cpos pins s σ H _ I h
 rw[he]at ha' ⊢
 refine Ro (M3 ha' (fun us s2 ⟨vs,H1,I1,r,hz,q⟩=>⟨rfl,by rw[<-r.length];exact hz,I1.bk _ _ hC,hN.keeps I1.bk,T.keeps I1.bk,fun h' e' M=>?_⟩) fun _ _ y=>y)
 have J:Inv (cj (eD P w base) P w K mg base N qual scope f cd A outer s0 H0 E) pins σ H1 {s2 with heap:=h'}:=I1.kept (t':=s2.toks) M.keeps
 obtain⟨tt,m1,m2,m3⟩:=M.there
 have hn:H1 e'=none:=I1.hok.lost M.new
 have fp:=I1.fpO (H':=H1) M.new (by simp[cj]) hn
 exact leave_new J m1 hn fp.2.2.2.1 fp rfl rfl rfl q
end
noncomputable def IX:V->LM
 |.ref a=>.ref a
 |.ty n=>.type n
 |_=>.none
noncomputable def A8:V->Bool
 |.ref _=>true
 |.ty _=>true
 |_=>false
noncomputable abbrev wc(K:LO):List V->Hp->VK->Prop:=fun xs H Q=>∃a v C b,xs=[.ref a,v]/\A8 v=true/\ExcAt H a C/\(Nw K C).isSome=true/\oE K C/\Mh K (.ref C) (IX v)=some b/\Q (.bl b) H
theorem F3{v:V}{u:LM}(h:A8 v=true)(r:RelV v u):u=IX v:=by
 cases v<;>first|exact r|cases h
section
variable {X:Cx}
theorem cB:eu X (.builtin "isinstance") (wc X.K):=by
 show eu X (.builtin "isinstance") (fun xs H Q=>∃a v C b,xs=[.ref a,v]/\A8 v=true/\ExcAt H a C/\(Nw X.K C).isSome=true/\oE X.K C/\Mh X.K (.ref C) (IX v)=some b/\Q (.bl b) H)
 intro pins s σ H xs us Q I r h
 obtain⟨a,v,C,b,rfl,hv,e,hC,Z,k,q⟩:=h
 obtain⟨u,w',rfl,rx,ry⟩:=vals2 r
 cases(show u=Mj a from rx)
 cases F3 hv ry
 exact BD I e hC Z k fun tk=>⟨.bl b,H,I.tok tk,rfl,q⟩
noncomputable def D7(t:TE):TE:=fun σ H Q=>t σ H fun x H1=>∃i:Int,x=.int i/\i.natAbs.log2<1920/\Q (.str (toString i:String)) H1
theorem Bm{e:LU}{te:TE}{pos:L8}(he:PE X e te):PE X (.FormattedValue e (-1) none pos) (D7 te):=by
 intro pins s σ H Q I h
 refine wpAny_FormattedValue_plain (ck (he pins s σ H _ I h) fun v s1 ⟨x,H1,I1,r1,i,hx,hl,q⟩=>?_)
 subst hx
 obtain⟨tk,rfl⟩:=(show ∃t,v=NX i t from r1)
 exact wpAny_formatField_int hl ⟨.str (toString i:String),H1,I1.tok _,⟨_,rfl⟩,q⟩
noncomputable def Gb:List TE->LK->TE
 |[],acc=>fun _ H Q=>acc.length<=LW/\Q (.str acc) H
 |t::ts,acc=>fun σ H Q=>t σ H fun x H1=>∃y,x=.str y/\(acc++y).length<=LW/\Gb ts (acc++y) σ H1 Q
inductive PJ(X:Cx):List LU->List TE->Prop where
 |nil:PJ X [] []
 |cons {e:LU}{es:List LU}{t:TE}{ts:List TE}:PE X e t->PJ X es ts->PJ X (e::es) (t::ts)
theorem PJ.joins:∀{es:List LU}{ts:List TE},PJ X es ts->∀{pins:List (LL×LS)}{s:LN}{σ:St}{H:Hp}{Q:VK}{acc:LK},Inv X pins σ H s->Gb ts acc σ H Q->
  Joins (model X.prog X.w) X.A X.xe (evalEach es X.env) acc (fun out s1=>out.length<=LW/\EP X pins σ Q (.str out s1.toks) {s1 with toks:=s1.toks+1}) s
 |_,_,.nil,pins,s,σ,H,Q,acc,I,h=>⟨h.1,.str acc,H,I.tok _,⟨_,rfl⟩,h.2⟩
 |_,_,.cons he hr,pins,s,σ,H,Q,acc,I,h=>by
  show LP _ _ _ _ _ _
  refine ck (he pins s σ H _ I h) fun v s1 ⟨x,H1,I1,r1,y,hx,hl,q⟩=>?_
  subst hx
  obtain⟨tk,rfl⟩:=(show ∃t,v=OI y t from r1)
  exact⟨y,tk,rfl,hl,hr.joins I1 q⟩
theorem mV{e1 e2:LU}{es:List LU}{ts:List TE}{pos:L8}(h:PJ X (e1::e2::es) ts):PE X (.JoinedStr (e1::e2::es) pos) (Gb ts ML):=by
 intro pins s σ H Q I q
 exact wpAny_JoinedStr (h.joins I q)
end
structure Aa(P:L5)(w:LZ)(K:LO)(mg:LK->Option LM)(base:LV)(k:Nat)(x:LK)(ps:List LK)(sp:Sp):Prop where
 ex:∃a fd,mg x=some (.ref a)/\NK K (.ref a)=true/\Binds K fd ps []/\k8 P w K mg base (eD P w base) k a fd ps sp
section
variable {P:L5}{w:LZ}{K:LO}{mg:LK->Option LM}{base:LV}
theorem Jb.okX{x qual:LK}{st:LX}{f:LL}{fd:Nv}{N ps:List LK}{k:Nat}{sp:Sp}(F:Jb K x qual st f fd)(S:aG N ps (ax st))(len:∀vs H Q E,sp vs H Q E->vs.length=ps.length)
  (hbody:∀(cdv:LM)(A:Mb)(outer:List Mo)(s:LN)(H:Hp)(vs:List V)(Q:VK)(E:XK),cS k (A.deeper (MY qual (ax st) s.heap.objs.size f cdv))->sp vs H Q E->
   ∃t,vm (cj (eD P w base) P w K mg base N qual (ax st) f cdv A outer s H E) (df st) t/\t {nx:=fun _ H'=>Q .non H',rt:=Q} (start N vs) H):k8 P w K mg base (eD P w base) (k+1) f fd ps sp:=by
 obtain⟨oc,od,kV,doc,pm,an,cdv,ct,osl,rfl,lk,hcd⟩:=F.ex
 exact HM lk hcd S len fun A outer s H vs Q E hr hsp=>hbody cdv A outer s H vs Q E hr hsp
theorem bS.calX{x:LK}{st:LX}{ps N:List LK}{rd:XK->TS}{k:Nat}{sp:Sp}(F:bS K mg x st ps)(S:aG N ps (ax st))(len:∀vs H Q E,sp vs H Q E->vs.length=ps.length)
  (hb:∀(f:LL)(cdv:LM)(A:Mb)(outer:List Mo)(s:LN)(H:Hp)(E:XK),cS k (A.deeper (MY x (ax st) s.heap.objs.size f cdv))->vm (cj (eD P w base) P w K mg base N x (ax st) f cdv A outer s H E) (df st) (rd E))
  (hr:∀vs H Q E,sp vs H Q E->rd E {nx:=fun _ H'=>Q .non H',rt:=Q} (start N vs) H):Aa P w K mg base (k+1) x ps sp:=by
 obtain⟨a,fd,hm,hF,hbd⟩:=F.ex
 exact⟨a,fd,hm,hF.kp,.all hbd,hF.okX S len fun cdv A outer s H vs Q E room h=>⟨rd E,hb a cdv A outer s H E room,hr vs H Q E h⟩⟩
end
section
variable {X:Cx}{k:Nat}{ps:List LK}{sp:Sp}{x:LK}{p pos:L8}{e:LU}{es:List LU}{t:TA}
theorem Jc{E:XK}(C:Aa X.prog X.w X.K X.mg X.base k x ps sp)(hr:cS k X.A)(hx:∀b,b∉X.ex)(ha:PA X.nox (e::es) t)(hg:Gl X x:=by rfl)(hdb:(x==("__debug__":LK))=false:=by decide)
  (he:L6 (e::es) X.env=(false,eval e X.env)::L6 es X.env:=by rfl) (hpl:(MA pos (L6 es X.env)).any (·.1)=false:=by rfl):PX X (.Call (.Name x p) (e::es) [] pos) E (a9 sp [] E t):=by
 obtain⟨a,fd,hm,hk,hb,F⟩:=C.ex
 exact GS F hr hg hm hk hb .nil hx ha hdb he hpl
end
section
variable {P:L5}{w:LZ}{K:LO}{mg:LK->Option LM}{base:LV}{N:List LK}{qual:LK}{scope:MP}{f:LL}{cd:LM}{A:Mb}{outer:List Mo}{s0:LN}{H0:Hp}{E:XK}{k:Nat}{ps:List LK}{sp:Sp}{x:LK}{p pos:L8}{e:LU}{es:List LU}{t:TA}
theorem mT(C:Aa P w K mg base k x ps sp)(hr:cS k (cj (eD P w base) P w K mg base N qual scope f cd A outer s0 H0 E).A)(ha:PA (cj (eD P w base) P w K mg base N qual scope f cd A outer s0 H0 E) (e::es) t)(hg:Gl (cj (eD P w base) P w K mg base N qual scope f cd A outer s0 H0 E) x:=by rfl)(hdb:(x==("__debug__":LK))=false:=by decide)
  (he:L6 (e::es) (cj (eD P w base) P w K mg base N qual scope f cd A outer s0 H0 E).env=(false,eval e (cj (eD P w base) P w K mg base N qual scope f cd A outer s0 H0 E).env)::L6 es (cj (eD P w base) P w K mg base N qual scope f cd A outer s0 H0 E).env:=by rfl)
  (hpl:(MA pos (L6 es (cj (eD P w base) P w K mg base N qual scope f cd A outer s0 H0 E).env)).any (·.1)=false:=by rfl):PE (cj (eD P w base) P w K mg base N qual scope f cd A outer s0 H0 E) (.Call (.Name x p) (e::es) [] pos) (a9 sp [] E t):=by
 obtain⟨a,fd,hm,hk,hb,F⟩:=C.ex
 exact yG F hr hg hm hk hb .nil zA ha hdb he hpl
end
section
variable {X:Cx}{k:Nat}{x:LK}{ps:List LK}{sp:Sp}{e:LU}{es:List LU}{t:TA}{p pos:L8}
theorem Ey{P:L5}{w:LZ}{base:LV}:j7 (eD P w base) X E0:=by
 intro pins σ H s v s' I hx
 obtain⟨_,_,_,_,_,_,_,_,_,_,_,_,_,_,q⟩:=hx
 exact q.elim
theorem Gk(C:Aa X.prog X.w X.K X.mg X.base k x ps sp)(hr:cS k X.A)(ha:PA X (e::es) t)(hg:Gl X x:=by rfl)(hdb:(x==("__debug__":LK))=false:=by decide)
  (hs:L6 (e::es) X.env=(false,eval e X.env)::L6 es X.env:=by rfl) (hn:(MA pos (L6 es X.env)).any (·.1)=false:=by rfl):PE X (.Call (.Name x p) (e::es) [] pos) (a9 sp [] E0 t):=by
 obtain⟨a,fd,hm,hk,hb,F⟩:=C.ex
 exact yG F hr hg hm hk hb .nil Ey ha hdb hs hn
end
noncomputable def ar(K:LO)(x:LK):LL:=match Nb K MF x with
 |some (some (.ref C))=>C
 |_=>0
theorem gg{K:LO}{x:LK}{C:LL}(e:Nb K MF x=some (some (.ref C))):ar K x=C:=by
 unfold ar;rw[e]
noncomputable def keysOk(es:Array NN):Bool:=es.toList.all fun e=>match e.key with| .str _ _=>true|_=>false
theorem Dl{es:Array NN}(h:keysOk es=true):StrKeys es:=by
 intro e he
 have:=(Ny.mp h) e (SQ.mpr he)
 revert this
 cases hk:e.key<;>intro q<;>first|exact⟨_,_,rfl⟩|cases q
structure d8(K:LO)(mg:LK->Option LM)(x:LK):Prop where
 bound:mg x=some (.ref (ar K x))
 some:(Nw K (ar K x)).isSome=true
 ek:oE K (ar K x)
 own:∀h:LV,K.In h->OwnCls x (ar K x) [.type "ValueError",.type "Exception",.type "BaseException",.type "object"] "ValueError.__new__" mg h
section
variable {K:LO}{mg:LK->Option LM}{h:LV}{x:LK}{C N:LL}{nm q:LK}{bs bm:List LM}{hdct:Bool}{sn:List LK}{sub:List LM}{ab:Bool}{col:Option Bool}{dd:Option LL}{k0 k1 k2 k3 k5:Option LM}
 {c:LM}{d:Option LL}{es:Array NN}{ep:Nat}{sl:Array (Option LM)}{cdat:ClassData}
theorem Jx{h:LV}(X:K.In h)(n:K.lookup N=some ⟨c,d,.dict es ep,sl⟩)(hk:keysOk es=true):h.Ns N (fun y=>nsFind es y):=⟨_,es,ep,X _ _ n,rfl,Dl hk,fun _=>rfl⟩
theorem Gz(X:K.In h)(G:h.Ns MF mg)(a:Nb K MF x=some (some (.ref C)))(l:K.lookup C=some (excClassObj nm q C N bs [.type "ValueError",.type "Exception",.type "BaseException",.type "object"] hdct sn sub ab col dd k0 k1 k2 k3 k5 "ValueError.__new__"))
  (n:K.lookup N=some ⟨c,d,.dict es ep,sl⟩) (g1:M2 K (.ref C) "__getattribute__"=some (some (.builtin "BaseException.__getattribute__"))) (g2:M2 K (.ref C) "__class__"=some (some (.builtin "object.__class__"))) (g3:M2 K (.ref C) "__getattr__"=some none)
  (g4:P0 K C (.type "object")=some true) (g5:P0 K C (.type "BaseException")=some true) (g6:Nw K C=some cdat) (hk:keysOk es=true) (hi:nsFind es "__init__"=none):d8 K mg x:=by
 have e:=gg a
 refine⟨?_,?_,?_,fun h' X'=>?_⟩
 ·rw[e];exact Ot X G a
 ·rw[e,g6];rfl
 ·rw[e];exact⟨g1,g2,g3,g4,g5⟩
 ·rw[e];exact⟨Ot X G a,_,N,nm,q,bs,hdct,sn,sub,ab,col,dd,k0,k1,k2,k3,k5,_,X' _ _ l,Jx X' n hk,hi,.base⟩
theorem GY{C1:LL}{c1 c2:LM}{d1 d2:Option LL}{es1:Array NN}{ep1:Nat}{sl1 sl2:Array (Option LM)}{cd1:ClassData}(X:K.In h)(G:h.Ns MF mg)(a:Nb K MF x=some (some (.ref C)))(l:K.lookup C=some (excClassObj nm q C N bs (.ref C1::[.type "ValueError",.type "Exception",.type "BaseException",.type "object"]) hdct sn sub ab col dd k0 k1 k2 k3 k5 "ValueError.__new__"))
  (n:K.lookup N=some ⟨c,d,.dict es ep,sl⟩) (l1:K.lookup C1=some {cls:=c1,dict:=d1,data:=.cls cd1,slots:=sl1}) (n1:K.lookup cd1.ns=some ⟨c2,d2,.dict es1 ep1,sl2⟩)
  (g1:M2 K (.ref C) "__getattribute__"=some (some (.builtin "BaseException.__getattribute__"))) (g2:M2 K (.ref C) "__class__"=some (some (.builtin "object.__class__"))) (g3:M2 K (.ref C) "__getattr__"=some none)
  (g4:P0 K C (.type "object")=some true) (g5:P0 K C (.type "BaseException")=some true) (g6:Nw K C=some cdat) (hk:keysOk es=true) (hi:nsFind es "__init__"=none) (hk1:keysOk es1=true) (hi1:nsFind es1 "__init__"=none):d8 K mg x:=by
 have e:=gg a
 refine⟨?_,?_,?_,fun h' X'=>?_⟩
 ·rw[e];exact Ot X G a
 ·rw[e,g6];rfl
 ·rw[e];exact⟨g1,g2,g3,g4,g5⟩
 ·rw[e];exact⟨Ot X G a,_,N,nm,q,bs,hdct,sn,sub,ab,col,dd,k0,k1,k2,k3,k5,_,X' _ _ l,Jx X' n hk,hi,.own (X' _ _ l1) (Jx X' n1 hk1) hi1 .base⟩
end
section
variable {K:LO}{x y:LK}{C D:LL}{cd:ClassData}{r:Bool}{T:String}
theorem Hh(a:Nb K MF x=some (some (.ref C)))(b:Nb K MF y=some (some (.ref D)))(c:Nw K D=some cd)(t:QO K (.ref D)=some (.type "type"))(s:Qa K (.ref C) (.ref D)=some r)(n:C=D->r=true):
  Mh K (.ref (ar K x)) (.ref (ar K y))=some r:=by
 rw[gg a,gg b]
 unfold Mh
 split
 ·rename_i h
  rw[n (TM (beq_iff_eq.mp h))]
 ·unfold Q5
  simp only
  rw[if_pos (by rw[c,t];rfl)]
  exact s
theorem IP(a:Nb K MF x=some (some (.ref C)))(m:Vb T=true)(s:Qa K (.ref C) (.type T)=some r):Mh K (.ref (ar K x)) (.type T)=some r:=by
 rw[gg a]
 unfold Mh
 rw[if_neg (by intro h;have:=beq_iff_eq.mp h;cases this)]
 unfold Q5
 simp only
 rw[if_pos m]
 exact s
theorem Hn(a:Nb K MF x=some (some (.ref C)))(b:Nb K MF y=some (some (.ref D)))(e:Qa K (.ref D) (.type "BaseException")=some true)(c:Nw K D=some cd)(t:QO K (.ref D)=some (.type "type"))(s:Qa K (.ref C) (.ref D)=some r):
  Oe K (.ref (ar K x)) (.ref (ar K y))=some r:=by
 rw[gg a,gg b]
 unfold Oe
 rw[if_pos (by rw[e];rfl)]
 unfold Q5
 simp only
 rw[if_pos (by rw[c,t];rfl)]
 exact s
end
section
variable {P:L5}{w:LZ}{K:LO}{mg:LK->Option LM}{base:LV}{N:List LK}{qual:LK}{scope:MP}{f:LL}{cd:LM}{A:Mb}{outer:List Mo}{s0:LN}{H0:Hp}{E:XK}{x:LK}{np cpos pos:L8}{e:LU}{es:List LU}{t:TA}
theorem hW(O:d8 K mg x)(ha:PA (cj (eD P w base) P w K mg base N qual scope f cd A outer s0 H0 E) (e::es) t)(hg:Gl (cj (eD P w base) P w K mg base N qual scope f cd A outer s0 H0 E) x:=by rfl)(hc:(cj (eD P w base) P w K mg base N qual scope f cd A outer s0 H0 E).calm=true:=by rfl)(hdb:(x==("__debug__":LK))=false:=by decide)
  (he:L6 (e::es) (cj (eD P w base) P w K mg base N qual scope f cd A outer s0 H0 E).env=(false,eval e (cj (eD P w base) P w K mg base N qual scope f cd A outer s0 H0 E).env)::L6 es (cj (eD P w base) P w K mg base N qual scope f cd A outer s0 H0 E).env:=by rfl)
  (hpl:(MA cpos (L6 es (cj (eD P w base) P w K mg base N qual scope f cd A outer s0 H0 E).env)).any (·.1)=false:=by rfl):
  PS (cj (eD P w base) P w K mg base N qual scope f cd A outer s0 H0 E) (.Raise (some (.Call (.Name x np) (e::es) [] cpos)) none pos) (km (ar K x) E t):=fun pins s σ H D I h=>
 Fu (O.own base I.ok.mod.kin) R6 (by decide) R6 hg hc ha hdb he hpl pins s σ H D I h
end
theorem lL{X:Cx}{x:LK}{pos:L8}(O:d8 X.K X.mg x)(hg:Gl X x:=by rfl)(hd:(x==("__debug__":LK))=false:=by decide):PE X (.Name x pos) (tC (.ref (ar X.K x))):=xY hg O.bound rfl hd
theorem PS.nox{X:Cx}{st:LX}{t:TS}(h:PS X.nox st t):PS X st t:=fun pins s σ H D I hw=>
 M3 (h pins s σ H D (I.wish _) hw) (fun f s' q=>by
  cases f with
  |next=>obtain⟨a,b,c,d⟩:=q;exact⟨a,b,c.unwish,d⟩
  |brk=>obtain⟨a,b,c,d⟩:=q;exact⟨a,b,c.unwish,d⟩
  |cont=>obtain⟨a,b,c,d⟩:=q;exact⟨a,b,c.unwish,d⟩
  |ret u=>obtain⟨v,a,b,c,d⟩:=q;exact⟨v,a,b,c.unwish,d⟩) fun _ _ z=>z.elim
end L2
namespace L2
open PySem PySem.Spec PyProof.Rows PySem.Builtin PySem.Builtin.Str
section
variable {X:Cx}
theorem CD:∀{xs:List LK}{us:List LM},bF (xs.map V.str) us->∃l:List (LK×Tok),us=strValues l/\l.map (·.1)=xs
 |[],_,.nil=>⟨[],rfl,rfl⟩
 |x::xs,_,.cons ⟨t,e⟩ r=>by
  obtain⟨l,h1,h2⟩:=CD r
  exact⟨(x,t)::l,by rw[e,h1];rfl,by rw[MQ,h2]⟩
noncomputable def rJoin(K:LO):V->List V->Hp->VK->Prop:=fun x vs H Q=>∃(sep:LK)(p:LL)(xs:List LK),x=.str sep/\vs=[.ref p]/\aK K H p (xs.map V.str)/\tooLong (xs.toArray.foldl (· + ·.length+sep.length) 0)=false/\(glued sep xs).length<=LW/\Q (.str (glued sep xs)) H
theorem Gf:HL X "str.join" (rJoin X.K):=by
 intro pins s σ H x vs v us Q I rx rv h
 obtain⟨sep,p,xs,rfl,rfl,hS,hl,hz2,q⟩:=h
 obtain⟨t,rfl⟩:=rx
 obtain⟨u,rfl,ru⟩:=rv.one
 cases ru
 obtain⟨its,rvs,pl,hz⟩:=I.list hS
 obtain⟨l,rfl,hx⟩:=CD rvs
 refine N3 S3 (typeIs_str _ _ _) F.entry_str_join (F.args_str_join_2 _ _) (meets_str_join_list sep t p l (by rw[hx];exact hl)) ⟨pl.isList,?_⟩
 have fin:∀(t':Tok)(tk:Nat),EP X pins σ Q (.str (glued sep xs) t') {s with toks:=tk}:=fun t' tk=>⟨.str (glued sep xs),H,I.tok tk,⟨t',rfl⟩,q⟩
 rcases l with _|⟨p1,_|⟨p2,l⟩⟩
 ·subst hx
  exact⟨hz2,fin _ _⟩
 ·subst hx
  have e:glued sep [p1.1]=p1.1:=by first|rfl|simp[glued]
  have:=fin p1.2 s.toks
  rw[show(NO (·.1) [p1])=[p1.1]from rfl,e]at this
  exact this
 ·subst hx
  exact⟨hz2,fin _ _⟩
noncomputable def pU:V->Option Int->Option Int->Hp->VK->Prop:=fun x lo hi H Q=>∃z:LK,x=.str z/\z.length<=LW/\Q (.str (MI z lo hi)) H
theorem lN:Lx X pU:=by
 intro pins s σ H x v vl vu lo hi sl Q I rx hs pl pu h
 obtain⟨z,rfl,hz,q⟩:=h
 obtain⟨t,rfl⟩:=rx
 refine⟨"str",_,F.slot_str_getitem.lookup,typeIs_str _ _ _,?_⟩
 have fin:∀(t':Tok)(k:Nat),EP X pins σ Q (.str (MI z lo hi) t') {s with toks:=k}:=fun t' k=>⟨.str (MI z lo hi),H,I.tok k,⟨t',rfl⟩,q⟩
 have hle:=Ma (Qp z lo hi) hz
 cases pl with
 |none=>
  cases pu with
  |none=>exact Qb (l:=none) (u:=none) (st:=none) hs rfl (post_val_or_str ⟨hle,fin⟩)
  |int j uj=>exact Qb (l:=none) (u:=some (j,uj)) (st:=none) hs rfl (post_val_or_str ⟨hle,fin⟩)
 |int i ui=>
  cases pu with
  |none=>exact Qb (l:=some (i,ui)) (u:=none) (st:=none) hs rfl (post_val_or_str ⟨hle,fin⟩)
  |int j uj=>exact Qb (l:=some (i,ui)) (u:=some (j,uj)) (st:=none) hs rfl (post_val_or_str ⟨hle,fin⟩)
end
end L2
namespace L2
open PySem PySem.Spec PyProof.Rows
noncomputable def K2(x:LK):It:=⟨fun i _=>i<x.cps.size,fun i H v H'=>H'=H/\v=.str ⟨#[x.cps.getD i 0]⟩,fun i _=>x.cps.size<=i⟩
theorem D0{P:L5}{w:LZ}{K:LO}{tg:LU}(it:LL)(x:LK)(t:Tok):Turn P w K tg (K2 x) [it] it (fun i h=>h.IsStrIter it "str_ascii_iterator" x t i) where
 mem:=by simp
 obj:=fun i h st b hb=>by
  have e:b=it:=by simpa using hb
  subst e
  obtain⟨o,e,c,d⟩:=st
  exact⟨o,e,fun v z=>by rw[d]at z;cases z⟩
 keep:=fun i h h' st k=>by
  obtain⟨o,e,r⟩:=st
  exact⟨o,k it (by simp) o e,r⟩
 item:=by
  intro X hP hw hK hc i pins s σ H E I hf st hg
  subst hP hw hK
  obtain⟨f0,f1,f2,f3,f4,f5⟩:=hf it (by simp)
  have hg:i<x.cps.size:=hg
  refine wpAny_pyNext_ascii_item st (c:=x.cps[i]) (by simp[hg]) fun h' st' sb=>?_
  have I1:Inv X pins σ H {s with heap:=h',toks:=s.toks+1}:=I.turned (t':=s.toks+1) (fun b o hb e=>(sb.2 b hb).trans e) f0 f1 f3 f4 f5
  obtain⟨o,e,c,d⟩:=id st'
  have ex:x.cps.getD i 0=x.cps[i]:=by simp[Array.getD,hg]
  exact⟨_,rfl,zy (s:={s with heap:=h',toks:=s.toks+1}) e c d (by decide) ⟨.str ⟨#[x.cps[i]]⟩,H,I1,⟨_,rfl⟩,⟨rfl,by rw[ex]⟩,st',fun b hb=>(hf b hb).1⟩⟩
 done:=by
  intro X hP hw hK hc i pins s σ H E I hf st hg
  subst hP hw hK
  obtain⟨f0,f1,f2,f3,f4,f5⟩:=hf it (by simp)
  have hg:x.cps.size<=i:=hg
  exact wpAny_pyNext_ascii_end (I.ok.hd hc) st (by simp;omega) fun h' eb=>⟨rfl,I.turned (t':=s.toks) (fun b o hb e=>eb b o hb e) f0 f1 f3 f4 f5⟩
 self:=fun _ _ _ _ _ st h=>wpAny_pyIter_striter_ascii st h
section
variable {X:Cx}{tg:LU}
noncomputable def CI(tl:TE):TI:=fun σ H R=>tl σ H fun v H1=>∃x:LK,v=.str x/\x.cps.all (· < 128)=true/\R (K2 x) H1
theorem Cj{l:LU}{tl:TE}(hl:PE X l tl):PI X tg l (CI tl):=by
 intro pins s σ H R I h
 refine ck (hl pins s σ H _ I h) fun v s1 ⟨y,H1,I1,r1,q1⟩=>?_
 obtain⟨x,e,ha,q⟩:=q1
 subst e
 obtain⟨t,rfl⟩:=r1
 refine wpAny_pyIter_ascii ha ?_
 refine⟨s1.heap.objs.size,[s1.heap.objs.size],_,_,H1,rfl,I1.kept (t':=s1.toks) fun b o e=>Mq _ e,D0 _ x t,⟨_,Mu _ rfl,rfl,rfl⟩,fun b hb=>?_,q⟩
 have e:b=s1.heap.objs.size:=by simpa using hb
 subst e
 exact I1.fpOk (L0 _) (I1.hok.fresh (L0 _))
end
theorem Cv{x:LK}(p:Nat):Ys (K2 x) (au p) (fun _=>True) x.cps.size (fun i σ=>σ.set p (some (.str ⟨#[x.cps.getD i 0]⟩))) where
 go:=fun i H hi _=>hi
 stop:=fun H _=>L0 _
 yld:=fun i H v H' σ Q hi _ y q=>by
  obtain⟨e,y⟩:=y
  subst e y
  exact q _ (av.refl _)
section
variable {X:Cx}
noncomputable def CU(te:TE):TE:=fun σ H Q=>te σ H fun x H1=>∃z:LK,x=.str z/\(reprText z).length<=LW/\Q (.str (reprText z)) H1
theorem yP{e:LU}{te:TE}{pos:L8}(he:PE X e te):PE X (.FormattedValue e 114 none pos) (CU te):=by
 intro pins s σ H Q I h
 refine wpAny_FormattedValue_repr (ck (he pins s σ H _ I h) fun v s1 ⟨x,H1,I1,r1,z,hx,hl,q⟩=>?_)
 subst hx
 obtain⟨tk,rfl⟩:=r1
 refine wpAny_pyReprObj_gives (typeIs_str _ z tk) F.slot_str_repr F.entry_str_repr (F.args_str_repr_1 _) (gives_str_repr z tk) ?_ (hx:=hl)
 have fin:∀(t':Tok)(k:Nat),EP X pins σ Q (.str (reprText z) t') {s1 with toks:=k}:=fun t' k=>⟨.str (reprText z),H1,I1.tok k,⟨t',rfl⟩,q⟩
 exact wpAny_formatField_str (fin _ _) (fin _ _) (hx:=hl)
end
noncomputable def Ca(K:LO)(C:LM)(i j:Nat)(t:XK->TE)(tb:TS):TS:=fun D σ H=>
 t (fun cls _ H'=>Oe K cls C=some true/\∀a oe,H' a=none->oe.cls=cls->Rv oe=true->oe.dict=none->
  tb {nx:=fun σ' H''=>D.nx (σ'.set i none) H'',rt:=D.rt,bk:=fun σ' H''=>D.bk (σ'.set i none) H'',ct:=fun σ' H''=>D.ct (σ'.set i none) H''} (σ.set i (some (.ref a))) (upd H' a (.frz oe (.own a)))) σ H fun v H'=>D.nx (σ.set j (some v)) H'
section
variable {X:Cx}{x n y:LK}{j:Nat}{py:L8}{C:LM}{i:Nat}{t:XK->TE}{tb:TS}{e:LU}{b₀:LX}{suite:List LX}{pos epos hpos np:L8}
theorem C7(hj:X.N[j]?=some y)(hy:X.env.scope.names.lookup y=some .local)(hx:∀b,b∉X.ex)(hst:X.stack=X.env::X.outer)(hN:X.N.Nodup)(hi:X.N[i]?=some n)(hn:X.env.scope.names.lookup n=some .local)(hl:X.env.kindOf n=some .local)(hg:Gl X x)(hm:X.mg x=some C)
  (he:∀E,PX X e E (t E)) (hb:∀v,vm (X.marked v) (b₀::suite) tb) (hdb:(x==("__debug__":LK))=false:=by decide) (hs:swapsWith e (some (.Name y py)) epos.line X.env=pure false:=by rfl):
  PS X (.Try [.Assign [.Name y py] e epos] [.ExceptHandler (some (.Name x np)) (some n) (b₀::suite) hpos] [] [] pos) (Ca X.K C i j t tb):=by
 intro pins s σ H D I h
 refine wpAny_Try_except (wpAny_execs_cons ?_)
 refine wpAny_Assign_Name (M3 (he _ pins s σ H _ I h) (fun v s1 ⟨z,H1,I1,r1,q1⟩=>?_) ?_) hs
 ·exact ma I1 hN hj (.inl hy) r1 (fun s2 I2=>Pa (Pa ⟨_,H1,I2,q1⟩)) (.inr hy)
 ·intro ev s1 hxp
  obtain⟨a,T,cls,H1,rfl,J,fa,fT,tr,q⟩:=hxp
  obtain⟨qc,qb⟩:=q
  have hf:X.env.frame=some X.env.locals:=xA J.ok hst
  refine Gh (base:=X.base) (outer:=X.outer) (hst▸J.ok.frames) (hst▸J.stack) hf tr J.bk fun h2 k1 k2 ⟨T2,hT2,tr2⟩=>?_
  have J2:Inv X pins σ H1 {s1 with heap:=h2}:=J.left (ch:=[a,T]) (fun b hb=>by
   have hb':b=a\/b=T:=by simpa using hb
   rcases hb' with z|z
   ·rw[z];exact fa
   ·rw[z];exact fT) (fun b o hb hs hq=>k1 b o (fun z=>hb (by simp[z])) (fun z=>hb (by simp[z])) (hst▸hs) hq) (fun b o hb hq=>k2 b o (fun z=>hb (by simp[z])) (fun z=>hb (by simp[z])) hq)
  have fT2:FK X pins H1 T2:=J.fpO (Qo hT2) (hx T2) (J.hok.fresh hT2)
  have tr3:=tr2
  obtain⟨⟨oe,vs,oT,ts,t1,t2,tn,t3,t4,t5,t6,t7⟩,t8,t9⟩:=tr3
  subst t2
  have LT:Wk (model X.prog X.w) h2 (typeOf (.ref a)) oe.cls:=(V9 t1).andThen .now
  refine wpAny_handleBy_cons (codeAny_handlers_test ?_) (by intro z;cases z)
  refine mM (X:=X.marked (.ref a)) (J2.marked (.ref a)) hg hm ?_ hdb
  refine(Wf J2.kIn LT qc).here ?_
  refine codeAny_handlers_suite_as ?_
  refine BU tr2 fun h3 k3=>?_
  have J3:=Inv.left (s:={s1 with heap:=h2}) (h':=h3) (ch:=[T2]) J2 (fun b hb=>by rw[Mz.mp hb];exact fT2) (fun b o hb _ hq=>k3 b o (fun z=>hb (by simp[z])) hq) (fun b o hb hq=>⟨o.slots,k3 b o (fun z=>hb (by simp[z])) hq⟩)
  have h3a:h3.get? a=some oe:=k3 a oe (Mm t9) t1
  have J4:=J3.track (a:=a) (o:=.frz oe (.own a)) fa ⟨h3a,oe,h3a⟩
  refine ma (X:=X.marked (.ref a)) (v:=.ref a) (J4.marked (.ref a)) hN hi (.inl hn) rfl (fun s5 I5=>?_) (.inr hn)
  refine M3 (hb (.ref a) pins s5 _ _ _ I5 (qb a oe fa.1 rfl (by unfold Rv;rw[t3]) tn)) (fun fl s6 hq=>?_) fun _ _ z=>z.elim
  have hp:(X.env.scope.kind==.class || (X.env.scope.kind==.module&&X.env.locals != X.env.globals))=false:=by rw[J.ok.kind];rfl
  have go:∀{σ6 H6 R},Inv (X.marked (.ref a)) pins σ6 H6 s6->(∀s7,Inv X pins (σ6.set i none) H6 s7->SP X pins D fl s7)->(R=fun (_:Unit) s7=>SP X pins D fl s7)->LP (model X.prog X.w) X.A (do bindName X.env n .none;unbindBehindTheSuite X.env n hpos) R X.xe s6:=fun {σ6 H6 R} I6 w e=>by
   subst e
   have I7:=Inv.unmarked J.ok I6
   obtain⟨m,hn6,hl6⟩:=id I7.loc
   exact wpAny_nameGoes_keeps hl hn6 hp fun h7 v7 hn7 hs7=>w _ (I7.forget hN hi hn6 hl6 hn7 hs7)
  cases fl with
  |next=>
   obtain⟨σ6,H6,I6,q6⟩:=hq
   exact go I6 (fun s7 I7=>⟨_,_,I7,q6⟩) rfl
  |brk=>
   obtain⟨σ6,H6,I6,q6⟩:=hq
   exact go I6 (fun s7 I7=>⟨_,_,I7,q6⟩) rfl
  |cont=>
   obtain⟨σ6,H6,I6,q6⟩:=hq
   exact go I6 (fun s7 I7=>⟨_,_,I7,q6⟩) rfl
  |ret u=>
   obtain⟨v6,σ6,H6,I6,r6,q6⟩:=hq
   exact go I6 (fun s7 I7=>⟨v6,_,_,I7,r6,q6⟩) rfl
end
structure G8(mg:LK->Option LM)(x:LK)(i:LK):Prop where
 ex:∃t,mg x=some (.str i t)
theorem G8.pe{X:Cx}{x:LK}{i:LK}{pos:L8}(k:G8 X.mg x i)(hg:Gl X x)(hd:(x==("__debug__":LK))=false:=by decide):PE X (.Name x pos) (tC (.str i)):=by
 obtain⟨t,e⟩:=k.ex
 exact xY hg e ⟨t,rfl⟩ hd
theorem GJ{K:LO}{mg:LK->Option LM}{h:LV}{x:LK}{i:LK}{t:Tok}(X:K.In h)(G:h.Ns MF mg)(z:Nb K MF x=some (some (.str i t))):G8 mg x i:=⟨t,Ot X G z⟩
noncomputable def gz:R2:=fun x y H Q=>∃i j,x=.str i/\y=.str j/\i.length+j.length<=LW/\Q (.str (i++j)) H
noncomputable def Gn:R2:=fun x y H Q=>∃i j,x=.str i/\y=.str j/\Q (.bl (!(OG j i 0 j.length 1).isEmpty)) H
noncomputable def sN:R2:=fun x y H Q=>∃i j,x=.str i/\y=.str j/\Q (.bl (!(!(OG j i 0 j.length 1).isEmpty))) H
noncomputable def nD:List V->Hp->VK->Prop:=fun xs H Q=>∃z:LK,xs=[.str z]/\z.length<=LW/\Q (.int z.length) H
section
variable {X:Cx}
theorem gW:gQ X (NA .Add) gz:=A6
theorem Jf:gQ X (MG .In) Gn:=D9
theorem DY:gQ X (MG .NotIn) sN:=xJ
theorem jE:eu X (.builtin "len") nD:=yD
end
structure cw(K:LO)(c m qual:LK)(st:LX)(ps:List LK):Prop where
 ex:∃f fd,C2 K (ar K c) m f/\Jb K m qual st f fd/\∀us:List LM,us.length=ps.length->bindArgs fd ⟨us,[]⟩=pure (ps.zip us)
structure fL(CX:El)(P:L5)(w:LZ)(K:LO)(mg:LK->Option LM)(base:LV)(k:Nat)(c m:LK)(ps:List LK)(sp:Sp):Prop where
 ex:∃f fd,C2 K (ar K c) m f/\Binds K fd ps []/\k8 P w K mg base CX k f fd ps sp
structure rj(K:LO)(mg:LK->Option LM)(c:LK):Prop where
 bound:mg c=some (.ref (ar K c))
 cls:jb K (ar K c)
 makes:P4 K (ar K c)=true
 kp:NK K (.ref (ar K c))=true
section
variable {P:L5}{w:LZ}{K:LO}{mg:LK->Option LM}{base:LV}
theorem cw.cal{c m qual:LK}{st:LX}{ps N:List LK}{rd:TS}{k:Nat}{sp:Sp}(F:cw K c m qual st ps)(S:aG N ps (ax st))(len:∀vs H Q E,sp vs H Q E->vs.length=ps.length)
  (hb:∀(f:LL)(cdv:LM)(A:Mb)(outer:List Mo)(s:LN)(H:Hp)(E:XK),cS k (A.deeper (MY qual (ax st) s.heap.objs.size f cdv))->vm (cj qK P w K mg base N qual (ax st) f cdv A outer s H E).nox (df st) rd)
  (hr:∀vs H Q E,sp vs H Q E->rd {nx:=fun _ H'=>Q .non H',rt:=Q} (start N vs) H):fL qK P w K mg base (k+1) c m ps sp:=by
 obtain⟨a,fd,hm,hF,hbd⟩:=F.ex
 exact⟨a,fd,hm,.all hbd,hF.ok S len fun cdv A outer s H vs Q E room h=>⟨rd,hb a cdv A outer s H E room,hr vs H Q E h⟩⟩
theorem cw.calX{c m qual:LK}{st:LX}{ps N:List LK}{rd:XK->TS}{k:Nat}{sp:Sp}(F:cw K c m qual st ps)(S:aG N ps (ax st))(len:∀vs H Q E,sp vs H Q E->vs.length=ps.length)
  (hb:∀(f:LL)(cdv:LM)(A:Mb)(outer:List Mo)(s:LN)(H:Hp)(E:XK),cS k (A.deeper (MY qual (ax st) s.heap.objs.size f cdv))->vm (cj (eD P w base) P w K mg base N qual (ax st) f cdv A outer s H E) (df st) (rd E))
  (hr:∀vs H Q E,sp vs H Q E->rd E {nx:=fun _ H'=>Q .non H',rt:=Q} (start N vs) H):fL (eD P w base) P w K mg base (k+1) c m ps sp:=by
 obtain⟨a,fd,hm,hF,hbd⟩:=F.ex
 exact⟨a,fd,hm,.all hbd,hF.okX S len fun cdv A outer s H vs Q E room h=>⟨rd E,hb a cdv A outer s H E room,hr vs H Q E h⟩⟩
theorem Gs{h:LV}{c m qual:LK}{st:LX}{ps:List LK}{C f:LL}{oc:LM}{od an:Option LL}{osl:Array (Option LM)}{kV doc pm cdv ct:LM}
  (a:Nb K MF c=some (some (.ref C))) (a4:M2 K (.ref C) m=some (some (.ref f))) (fn:Qd K (.ref f)=true) (l4:K.lookup f=some ⟨oc,od,.func (N8 m qual (j5 st) (df st) (ax st) .none kV doc pm an cdv ct),osl⟩)
  (c4:PQ K cdv qual=true) (k4:NK K (.ref f)=true)
  (hb:∀(kV doc pm:LM)(an:Option LL)(cdv ct:LM)(us:List LM),us.length=ps.length->bindArgs (N8 m qual (j5 st) (df st) (ax st) .none kV doc pm an cdv ct) ⟨us,[]⟩=pure (ps.zip us)):cw K c m qual st ps:=
 ⟨f,_,by rw[gg a];exact⟨a4,fn,k4⟩,Fp l4 c4 k4,hb kV doc pm an cdv ct⟩
theorem JL{h:LV}{c:LK}{C:LL}(X:K.In h)(G:h.Ns MF mg)(a:Nb K MF c=some (some (.ref C)))(pg:Pk K C ML=true)(hd:Qs K C=true)(po:Rn K C=true)
  (sa:M2 K (.ref C) "__setattr__"=some (some (.builtin "object.__setattr__"))) (mk:P4 K C=true) (kp:NK K (.ref C)=true):rj K mg c:=by
 have e:=gg a
 exact⟨by rw[e];exact Ot X G a,by rw[e];exact⟨pg,hd,po,sa⟩,by rw[e];exact mk,by rw[e];exact kp⟩
theorem DR{c f:LK}{C:LL}(a:Nb K MF c=some (some (.ref C)))(n:M2 K (.ref C) f=some none):c7 K (ar K c) f:=by
 rw[gg a];exact n
end
section
variable {X:Cx}{k:Nat}{c m:LK}{ps:List LK}{sp:Sp}{o e:LU}{es:List LU}{ta:TE}{t:TA}{apos pos p:L8}{pl:Sem Bool}
theorem pO(M:fL qK X.prog X.w X.K X.mg X.base k c m ps sp)(C:rj X.K X.mg c)(hr:cS k X.A)(he:PE X o ta)(ha:PA X (e::es) t)
  (hst:L6 (e::es) X.env=(false,eval e X.env)::L6 es X.env:=by rfl) (hpl:(MA pos (L6 es X.env)).any (·.1)=false:=by rfl)
  (ht:eval (.Call (.Attribute o m apos) (e::es) [] pos) X.env=(do
   let ov <-eval o X.env
   standAt apos.atName
   let (f,first) <-holding [ov] (Og ov m pl)
   callWith pos f first (MA pos (L6 (e::es) X.env)) (NZ pos (NT [] X.env))):=by rfl):PE X (.Call (.Attribute o m apos) (e::es) [] pos) (b9 (ar X.K c) m sp [] E0 ta t):=by
 obtain⟨f,fd,hm,hb,F⟩:=M.ex
 exact yA he C.cls hm F hr hb .nil Cp ha hst hpl ht
theorem dw(M:fL qK X.prog X.w X.K X.mg X.base k c m ps sp)(C:rj X.K X.mg c)(hr:cS k X.A)(he:PE X o ta)
  (ht:eval (.Call (.Attribute o m apos) [] [] pos) X.env=(do
   let ov <-eval o X.env
   standAt apos.atName
   let (f,first) <-holding [ov] (Og ov m pl)
   callWith pos f first (MA pos (L6 [] X.env)) (NZ pos (NT [] X.env))):=by rfl):PE X (.Call (.Attribute o m apos) [] [] pos) (b9 (ar X.K c) m sp [] E0 ta ay):=by
 obtain⟨f,fd,hm,hb,F⟩:=M.ex
 exact EH he C.cls hm F hr hb .nil Cp ht
theorem Aj(M:fL (eD X.prog X.w X.base) X.prog X.w X.K X.mg X.base k c m ps sp)(C:rj X.K X.mg c)(hr:cS k X.A)(he:PE X o ta)(ha:PA X (e::es) t)
  (hst:L6 (e::es) X.env=(false,eval e X.env)::L6 es X.env:=by rfl) (hpl:(MA pos (L6 es X.env)).any (·.1)=false:=by rfl)
  (ht:eval (.Call (.Attribute o m apos) (e::es) [] pos) X.env=(do
   let ov <-eval o X.env
   standAt apos.atName
   let (f,first) <-holding [ov] (Og ov m pl)
   callWith pos f first (MA pos (L6 (e::es) X.env)) (NZ pos (NT [] X.env))):=by rfl):PE X (.Call (.Attribute o m apos) (e::es) [] pos) (b9 (ar X.K c) m sp [] E0 ta t):=by
 obtain⟨f,fd,hm,hb,F⟩:=M.ex
 exact yA he C.cls hm F hr hb .nil Ey ha hst hpl ht
theorem Ec(M:fL qK X.prog X.w X.K X.mg X.base k c "__init__" ps sp)(C:rj X.K X.mg c)(hr:cS (k+1) X.A)(hg:Gl X c:=by rfl)(hdb:(c==("__debug__":LK))=false:=by decide):PE X (.Call (.Name c p) [] [] pos) (CB (ar X.K c) sp [] E0 ay):=by
 obtain⟨f,fd,hm,hb,F⟩:=M.ex
 exact EN ⟨C.makes,hm.at_,hm.fn,C.kp⟩ F hr hg C.bound hb .nil Cp hdb
end
section
variable {P:L5}{w:LZ}{K:LO}{mg:LK->Option LM}{base:LV}{N:List LK}{qual:LK}{scope:MP}{f:LL}{cd:LM}{A:Mb}{outer:List Mo}{s0:LN}{H0:Hp}{E:XK}{k:Nat}{ps:List LK}{sp:Sp}{c m:LK}{apos pos:L8}{o e:LU}{es:List LU}{ta:TE}{t:TA}{pl:Sem Bool}
theorem c6(M:fL (eD P w base) P w K mg base k c m ps sp)(C:rj K mg c)(hr:cS k (cj (eD P w base) P w K mg base N qual scope f cd A outer s0 H0 E).A)(he:PE (cj (eD P w base) P w K mg base N qual scope f cd A outer s0 H0 E) o ta)(ha:PA (cj (eD P w base) P w K mg base N qual scope f cd A outer s0 H0 E) (e::es) t)
  (hst:L6 (e::es) (cj (eD P w base) P w K mg base N qual scope f cd A outer s0 H0 E).env=(false,eval e (cj (eD P w base) P w K mg base N qual scope f cd A outer s0 H0 E).env)::L6 es (cj (eD P w base) P w K mg base N qual scope f cd A outer s0 H0 E).env:=by rfl)
  (hpl:(MA pos (L6 es (cj (eD P w base) P w K mg base N qual scope f cd A outer s0 H0 E).env)).any (·.1)=false:=by rfl)
  (ht:eval (.Call (.Attribute o m apos) (e::es) [] pos) (cj (eD P w base) P w K mg base N qual scope f cd A outer s0 H0 E).env=(do
   let ov <-eval o (cj (eD P w base) P w K mg base N qual scope f cd A outer s0 H0 E).env
   standAt apos.atName
   let (f',first) <-holding [ov] (Og ov m pl)
   callWith pos f' first (MA pos (L6 (e::es) (cj (eD P w base) P w K mg base N qual scope f cd A outer s0 H0 E).env)) (NZ pos (NT [] (cj (eD P w base) P w K mg base N qual scope f cd A outer s0 H0 E).env))):=by rfl):
  PE (cj (eD P w base) P w K mg base N qual scope f cd A outer s0 H0 E) (.Call (.Attribute o m apos) (e::es) [] pos) (b9 (ar K c) m sp [] E ta t):=by
 obtain⟨f',fd,hm,hb,F⟩:=M.ex
 exact yA he C.cls hm F hr hb .nil zA ha hst hpl ht
end
section
variable {κ:Type} [DecidableEq κ]
noncomputable def fM(kvs:List (κ×V))(k:κ):Option V:=(kvs.find? fun kv=>decide (kv.1=k)).map (·.2)
noncomputable def putK(kvs:List (κ×V))(k:κ)(v:V):List (κ×V):=
 if(kvs.any fun kv=>decide (kv.1=k))=true then kvs.map (fun kv=>if kv.1=k then(kv.1,v)else kv)else kvs++[(k,v)]
noncomputable def px(kvs:List (κ×V))(k:κ):List (κ×V):=kvs.filter fun kv=>decide (kv.1≠k)
theorem iS{p:κ×V}{r:List (κ×V)}{k:κ}(e:p.1=k):fM (p::r) k=some p.2:=by simp[fM,Ph,e]
theorem gw{p:κ×V}{r:List (κ×V)}{k:κ}(e:¬p.1=k):fM (p::r) k=fM r k:=by simp[fM,Ph,e]
theorem uS(k:κ):∀kvs:List (κ×V),(kvs.any fun kv=>decide (kv.1=k))=(fM kvs k).isSome
 |[]=>rfl
 |p::r=>by
  rw[Od]
  by_cases e:p.1=k
  ·simp only[iS e,decide_eq_true e,Bool.true_or,R1]
  ·rw[gw e,decide_eq_false e,Tw];exact uS k r
theorem mI(kvs:List (κ×V))(k:κ)(v:V):(putK kvs k v).length<=kvs.length+1:=by
 unfold putK
 split
 ·rw[Md];omega
 ·rw[MR,MW,RB];omega
theorem Eo{kvs:List (κ×V)}{k:κ}(v:V)(h:fM kvs k=none):putK kvs k v=kvs++[(k,v)]:=by
 unfold putK
 rw[uS,h]
 exact if_neg (by decide)
theorem mi.isSome_eq{o:Option V}{u:Option LM}(r:mi o u):o.isSome=u.isSome:=by
 cases o with
 |none=>cases u with
  |none=>rfl
  |some _=>exact(show False from r).elim
 |some _=>cases u with
  |none=>exact(show False from r).elim
  |some _=>rfl
theorem KV.val{kvs:List (κ×V)}{vs:List (κ×LM)}(r:KV kvs vs)(k:κ):mi (fM kvs k) (valueAt vs k):=by
 unfold KV at r
 induction r with
 |nil=>exact NV
 |@cons p q ps qs h t ih=>
  obtain⟨h1,h2⟩:=h
  by_cases e:p.1=k
  ·have e':q.1=k:=h1.symm.trans e
   have b:valueAt (q::qs) k=some q.2:=by simp[valueAt,Ph,e']
   rw[iS e,b];exact h2
  ·have e':¬q.1=k:=fun z=>e (h1.trans z)
   have b:valueAt (q::qs) k=valueAt qs k:=by simp[valueAt,Ph,e']
   rw[gw e,b];exact ih
theorem KV.any{kvs:List (κ×V)}{vs:List (κ×LM)}(r:KV kvs vs)(k:κ):(kvs.any fun kv=>decide (kv.1=k))=vs.any fun kv=>decide (kv.1=k):=by
 unfold KV at r
 induction r with
 |nil=>rfl
 |cons h t ih=>rw[Od,Od,ih,h.1]
theorem KV.repl{kvs:List (κ×V)}{vs:List (κ×LM)}(r:KV kvs vs)(k:κ){y:V}{u:LM}(ry:RelV y u):
  KV (kvs.map fun kv=>if kv.1=k then(kv.1,y)else kv) (vs.map fun kv=>if kv.1=k then(kv.1,u)else kv):=by
 unfold KV at r ⊢
 induction r with
 |nil=>exact .nil
 |@cons p q ps qs h t ih=>
  rw[MQ,MQ]
  refine .cons ?_ ih
  obtain⟨h1,h2⟩:=h
  by_cases e:p.1=k
  ·rw[if_pos e,if_pos (h1.symm.trans e)];exact⟨h1,ry⟩
  ·rw[if_neg e,if_neg (fun z=>e (h1.trans z))];exact⟨h1,h2⟩
theorem KV.put{kvs:List (κ×V)}{vs:List (κ×LM)}(r:KV kvs vs)(k:κ){y:V}{u:LM}(ry:RelV y u):KV (putK kvs k y) (stored vs k u):=by
 unfold putK stored
 rw[r.any k]
 by_cases e:(vs.any fun kv=>decide (kv.1=k))=true
 ·rw[if_pos e,if_pos e];exact r.repl k ry
 ·rw[if_neg e,if_neg e];exact Uk r ⟨rfl,ry⟩
theorem KV.drop{kvs:List (κ×V)}{vs:List (κ×LM)}(r:KV kvs vs)(k:κ):KV (px kvs k) (without vs k):=by
 unfold KV at r ⊢
 unfold px without
 induction r with
 |nil=>exact .nil
 |@cons p q ps qs h t ih=>
  obtain⟨h1,h2⟩:=h
  rw[PB,PB]
  by_cases e:p.1=k
  ·have a:¬decide (p.1≠k)=true:=by simp[e]
   have b:¬decide (q.1≠k)=true:=by simp[h1.symm.trans e]
   rw[if_neg a,if_neg b];exact ih
  ·have e':¬q.1=k:=fun z=>e (h1.trans z)
   have a:decide (p.1≠k)=true:=by simp[e]
   have b:decide (q.1≠k)=true:=by simp[e']
   rw[if_pos a,if_pos b];exact .cons ⟨h1,h2⟩ ih
theorem KV.length{kvs:List (κ×V)}{vs:List (κ×LM)}(r:KV kvs vs):kvs.length=vs.length:=Mr r
theorem Aw(kvs:List (κ×V))(k:κ):(px kvs k).length<=kvs.length:=Oc _ _
end
theorem o4{P:L5}{w:LZ}{k:Key}{u:LM}(r:RelV (kV k) u):(aS P w).is k u=true:=by
 cases k with
 |inl i=>obtain⟨t,e⟩:=(show ∃t,u=NX i t from r);subst e;exact zQ P w i t
 |inr x=>obtain⟨t,e⟩:=(show ∃t,u=OI x t from r);subst e;exact zr P w x t
theorem wY{P:L5}{w:LZ}:∀{ks:List Key}{us:List LM},bF (ks.map kV) us->ItemsAre (aS P w) ks us
 |[],_,r=>by rw[Pl]at r;cases r;exact .nil
 |k::ks,_,r=>by
  rw[MQ]at r
  cases r with
  |cons h t=>exact .cons (o4 h) (wY t)
noncomputable abbrev KT(H:Hp):List (List Key×V)->List (List Key×LL×LM)->Prop:=L7 fun p q=>p.1=q.1/\H q.2.1=some (.tup (p.1.map kV))/\RelV p.2 q.2.2
theorem KT.val{H:Hp}{kvs:List (List Key×V)}{xs:List (List Key×LL×LM)}(r:KT H kvs xs)(k:List Key):mi (fM kvs k) ((atKey xs k).map (·.2)):=by
 induction r with
 |nil=>exact NV
 |@cons p q ps qs h t ih=>
  obtain⟨h1,_,h2⟩:=h
  by_cases e:p.1=k
  ·have e':q.1=k:=h1.symm.trans e
   have b:atKey (q::qs) k=some q.2:=by simp[atKey,Ph,e']
   rw[iS e,b];exact h2
  ·have e':¬q.1=k:=fun z=>e (h1.trans z)
   have b:atKey (q::qs) k=atKey qs k:=by simp[atKey,Ph,e']
   rw[gw e,b];exact ih
theorem KT.repl{H:Hp}{kvs:List (List Key×V)}{xs:List (List Key×LL×LM)}(r:KT H kvs xs)(k:List Key){y:V}{u:LM}(ry:RelV y u):
  KT H (kvs.map fun kv=>if kv.1=k then(kv.1,y)else kv) (xs.map (putAt k u)):=by
 induction r with
 |nil=>exact .nil
 |@cons p q ps qs h t ih=>
  rw[MQ,MQ]
  refine .cons ?_ ih
  obtain⟨h1,h2,h3⟩:=h
  unfold putAt
  by_cases e:p.1=k
  ·rw[if_pos e,if_pos (h1.symm.trans e)];exact⟨h1,h2,ry⟩
  ·rw[if_neg e,if_neg (fun z=>e (h1.trans z))];exact⟨h1,h2,h3⟩
theorem KT.put{H:Hp}{kvs:List (List Key×V)}{xs:List (List Key×LL×LM)}(r:KT H kvs xs)(k:List Key){b:LL}{y:V}{u:LM}(hb:H b=some (.tup (k.map kV)))(ry:RelV y u):
  KT H (putK kvs k y) (storedH xs k b u):=by
 have e:(kvs.any fun kv=>decide (kv.1=k))=(atKey xs k).isSome:=by
  rw[uS,(r.val k).isSome_eq,RQ]
 unfold putK storedH
 rw[e]
 by_cases q:(atKey xs k).isSome=true
 ·rw[if_pos q,if_pos q];exact r.repl k ry
 ·rw[if_neg q,if_neg q];exact Uk r ⟨rfl,hb,ry⟩
theorem KT.keeps{H H':Hp}{kvs:List (List Key×V)}{xs:List (List Key×LL×LM)}(r:KT H kvs xs)(ht:∀b ys,H b=some (.tup ys)->H' b=some (.tup ys)):KT H' kvs xs:=
 Paired.mapP r fun _ _ z=>⟨z.1,ht _ _ z.2.1,z.2.2⟩
section
variable {P:L5}{w:LZ}{H:Hp}{h:LV}{a:LL}
theorem HB{u:HO}(ok:mZ P w H h)(e:Rd H a u):cF P w H h a u:=e.ok ok
theorem fu{kvs:List (Key×V)}(ok:mZ P w H h)(e:Rd H a (.dK kvs)):kvs.length<=LW/\(a==NB)=false/\∃vs,KV kvs vs/\h.DictOf (aS P w) a vs:=
 show cF P w H h a (.dK kvs)from HB ok e
theorem CL{kvs:List (Key×V)}(ok:mZ P w H h)(e:H a=some (.dK kvs)):kvs.length<=LW/\(a==NB)=false/\∃vs,KV kvs vs/\h.DictOf (aS P w) a vs:=fu ok (.inl e)
theorem vh{ks:List Key}(ok:mZ P w H h)(e:H a=some (.tup (ks.map kV))):(tupleKind (aS P w)).is h ks a:=by
 obtain⟨_,its,r,o,h1,h2,n,h3⟩:=(show cF P w H h a (.tup (ks.map kV))from ok a _ e)
 exact⟨o,its.toArray,n,h1,h2,h3,by simpa using wY r⟩
theorem wD{kvs:List (List Key×V)}(ok:mZ P w H h)(e:Rd H a (.dT kvs)):kvs.length<=LW/\(a==NB)=false/\
  ∃xs,KT H kvs xs/\h.DictOfH (tupleKind (aS P w)) a xs:=by
 obtain⟨z,y,xs,r,o,es,ep,h1,h2,h3,h4,h5⟩:=(show cF P w H h a (.dT kvs)from HB ok e)
 refine⟨z,y,xs,r,o,es,ep,h1,h2,h3,h4,fun x hx=>?_,h5⟩
 have all:∀{l:List (List Key×V)}{m:List (List Key×LL×LM)},KT H l m->∀x∈m,(tupleKind (aS P w)).is h x.1 x.2.1:=by
  intro l m q
  induction q with
  |nil=>intro x hx;exact nomatch hx
  |@cons p q ps qs hq t ih=>
   intro x hx
   rcases L9.mp hx with e|hx
   ·subst e
    exact vh ok (by rw[<-hq.1];exact hq.2.1)
   ·exact ih x hx
 exact all r x hx
theorem JU{kvs:List (List Key×V)}(ok:mZ P w H h)(e:H a=some (.dT kvs)):kvs.length<=LW/\(a==NB)=false/\
  ∃xs,KT H kvs xs/\h.DictOfH (tupleKind (aS P w)) a xs:=wD ok (.inl e)
end
noncomputable def oo(H:Hp)(a:LL)(y:V)(r:Option V):Prop:=
 (∃kvs k,Rd H a (.dK kvs)/\y=kV k/\r=fM kvs k)\/∃kvs k b,Rd H a (.dT kvs)/\y=.ref b/\H b=some (.tup (k.map kV))/\r=fM kvs k
noncomputable def DU(H:Hp)(a:LL)(y v:V)(H':Hp):Prop:=
 (∃kvs k,H a=some (.dK kvs)/\y=kV k/\kvs.length<LW/\H'=upd H a (.dK (putK kvs k v)))\/
 ∃kvs k b,H a=some (.dT kvs)/\y=.ref b/\H b=some (.tup (k.map kV))/\kvs.length<LW/\H'=upd H a (.dT (putK kvs k v))
theorem oo.k{H:Hp}{a:LL}{kvs:List (Key×V)}{k:Key}(e:H a=some (.dK kvs)):oo H a (kV k) (fM kvs k):=.inl ⟨kvs,k,.inl e,rfl,rfl⟩
theorem DU.k{H:Hp}{a:LL}{kvs:List (Key×V)}{k:Key}{v:V}(e:H a=some (.dK kvs))(hl:kvs.length<LW):DU H a (kV k) v (upd H a (.dK (putK kvs k v))):=.inl ⟨kvs,k,e,rfl,hl,rfl⟩
section
variable {X:Cx}{pins:List (LL×LS)}{σ:St}{H:Hp}{s:LN}{a:LL}{y v:V}{u r:LM}{o:Option V}{A:Mb}{E:LM->LN->Prop}
theorem Inv.big(I:Inv X pins σ H s):NB<s.heap.objs.size:=by
 have h:MF<s.heap.objs.size:=(I.mod.glob.keeps I.bk).lt
 exact PZ (by decide) h
theorem C6{Q:LM->LN->Prop}(hu:A.units+1<cLine)(I:Inv X pins σ H s)(g:oo H a y (some v))(ry:RelV y u)(h:∀w' s',Inv X pins σ H s'->RelV v w'->Q w' s'):
  LP (model X.prog X.w) A (getItem (.ref a) u) Q E s:=by
 rcases g with⟨kvs,k,e,ey,l⟩|⟨kvs,k,b,e,ey,eb,l⟩
 ·subst ey
  obtain⟨z,hd,vs,rel,dd⟩:=fu I.hok e
  obtain⟨w',hw,rw'⟩:=mi.some_of (v:=v) (o:=valueAt vs k) (by rw[l];exact rel.val k)
  exact wpAny_getItem_of (o4 ry) dd.mapOf hw (h w' _ (I.tok _) rw')
 ·subst ey
  cases(show u=Mj b from ry)
  obtain⟨z,hd,xs,rel,dd⟩:=wD I.hok e
  obtain⟨w',hw,rw'⟩:=mi.some_of (v:=v) (o:=(atKey xs k).map (·.2)) (by rw[l];exact rel.val k)
  obtain⟨p,hp,hp2⟩:=Option.map_eq_some_iff.mp hw
  refine wpAny_getItem_heap (Qq hu) (vh I.hok eb) dd hp ?_
  rw[hp2]
  exact h w' _ (I.tok _) rw'
theorem Lw{Q:LM->LN->Prop}(hu:A.units+1<cLine)(I:Inv X pins σ H s)(g:oo H a y o)(ry:RelV y u)(h:∀s',Inv X pins σ H s'->Q (.bool o.isSome) s'):
  LP (model X.prog X.w) A (MG .In u (.ref a)) Q E s:=by
 rcases g with⟨kvs,k,e,ey,l⟩|⟨kvs,k,b,e,ey,eb,l⟩
 ·subst ey
  obtain⟨z,hd,vs,rel,dd⟩:=fu I.hok e
  refine wpAny_in_of (o4 ry) hd dd.mapOf ?_
  rw[<-(rel.val k).isSome_eq,<-l]
  exact h _ (I.tok _)
 ·subst ey
  cases(show u=Mj b from ry)
  obtain⟨z,hd,xs,rel,dd⟩:=wD I.hok e
  refine wpAny_in_heap (Qq hu) (vh I.hok eb) hd dd ?_
  have q:=(rel.val k).isSome_eq
  rw[RQ]at q
  rw[<-q,<-l]
  exact h _ (I.tok _)
theorem GA{Q:LM->LN->Prop}(hu:A.units+1<cLine)(I:Inv X pins σ H s)(g:oo H a y o)(ry:RelV y u)(h:∀s',Inv X pins σ H s'->Q (.bool (!o.isSome)) s'):
  LP (model X.prog X.w) A (MG .NotIn u (.ref a)) Q E s:=by
 rcases g with⟨kvs,k,e,ey,l⟩|⟨kvs,k,b,e,ey,eb,l⟩
 ·subst ey
  obtain⟨z,hd,vs,rel,dd⟩:=fu I.hok e
  refine wpAny_notIn_of (o4 ry) hd dd.mapOf ?_
  rw[<-(rel.val k).isSome_eq,<-l]
  exact h _ (I.tok _)
 ·subst ey
  cases(show u=Mj b from ry)
  obtain⟨z,hd,xs,rel,dd⟩:=wD I.hok e
  refine wpAny_notIn_heap (Qq hu) (vh I.hok eb) hd dd ?_
  have q:=(rel.val k).isSome_eq
  rw[RQ]at q
  rw[<-q,<-l]
  exact h _ (I.tok _)
theorem o5{h':LV}{t':Nat}{ob:HO}(I:Inv X pins σ H s)(mu:Kq (H a))(hs:NM a s.heap h')(he:∃q,h'.get? a=some q)(new:cF X.prog X.w (upd H a ob) h' a ob):
  Inv X pins σ (upd H a ob) {s with heap:=h',toks:=t'}:=
 I.write (x:=a) (e:=a) mu (.inl rfl) (fun b q hb z=>(hs.2 b hb).trans z) he new
theorem qI{P:L5}{w:LZ}{H':Hp}{h':LV}{kvs:List (Key×V)}{vs:List (Key×LM)}(z:kvs.length<=LW)(hd:(a==NB)=false)(rel:KV kvs vs)(dd:h'.DictOf (aS P w) a vs):
  cF P w H' h' a (.dK kvs):=⟨z,hd,vs,rel,dd⟩
theorem DH{H':Hp}{Q:Unit->LN->Prop}(hu:A.units+1<cLine)(I:Inv X pins σ H s)(g:DU H a y v H')(ry:RelV y u)(rv:RelV v r)(h:∀s',Inv X pins σ H' s'->Q () s'):
  LP (model X.prog X.w) A (setItem (.ref a) u r) Q E s:=by
 rcases g with⟨kvs,k,e,ey,l,eH⟩|⟨kvs,k,b,e,ey,eb,l,eH⟩
 ·subst ey eH
  obtain⟨z,hd,vs,rel,dd⟩:=CL I.hok e
  have hz:vs.length<=LW:=by rw[<-rel.length];exact z
  have hl:(putK kvs k v).length<=LW:=by have:=mI kvs k v;omega
  refine wpAny_setItem_pairs (hsz:=hz) (o4 ry) dd fun h' dd' hs=>h _ ?_
  have he:∃q,h'.get? a=some q:=let ⟨q,_,_,hq,_⟩:=dd';⟨q,hq⟩
  exact o5 I (by rw[e];exact NV) hs he (qI hl hd (rel.put k rv) dd')
 ·subst ey eH
  cases(show u=Mj b from ry)
  obtain⟨z,hd,xs,rel,dd⟩:=JU I.hok e
  have hz:xs.length<=LW:=by rw[<-Mr rel];exact z
  have hl:(putK kvs k v).length<=LW:=by have:=mI kvs k v;omega
  refine wpAny_setItem_heap (hsz:=hz) (Qq hu) (vh I.hok eb) dd fun h' dd' hs=>h _ ?_
  obtain⟨q,es,ep,hq,h2,h3,h4,_,h5⟩:=dd'
  refine o5 I (by rw[e];exact NV) hs ⟨q,hq⟩ ⟨hl,hd,_,(rel.put k eb rv).keeps fun c ys ec=>?_,q,es,ep,hq,h2,h3,h4,h5⟩
  rw[aq (KR ec e (fun z=>nomatch z))]
  exact ec
end
section
variable {X:Cx}{pins:List (LL×LS)}{σ:St}{H:Hp}{s:LN}{a:LL}{kvs:List (Key×V)}{k:Key}{u:LM}{A:Mb}{E:LM->LN->Prop}
theorem JP{Q:Unit->LN->Prop}(I:Inv X pins σ H s)(e:H a=some (.dK kvs))(ry:RelV (kV k) u)(l:(fM kvs k).isSome=true)(h:∀s',Inv X pins σ (upd H a (.dK (px kvs k))) s'->Q () s'):
  LP (model X.prog X.w) A (delItem (.ref a) u) Q E s:=by
 obtain⟨z,hd,vs,rel,dd⟩:=CL I.hok e
 refine wpAny_delItem_slot dd.typeIs (by decide) TJ
  (Pg TJ dd.typeIs UT (Wm _ _) (meets_dict_delitem_pairs (aS X.prog X.w) a (o4 ry)) ⟨vs,dd,by rw[<-rel.length];exact z,by rw[<-(rel.val k).isSome_eq];exact l,fun h' dd' hs=>h _ ?_⟩)
 have he:∃q,h'.get? a=some q:=let ⟨q,_,_,hq,_⟩:=dd';⟨q,hq⟩
 exact o5 I (by rw[e];exact NV) hs he (qI (Ma (Aw kvs k) z) hd (rel.drop k) dd')
theorem KP{v:V}{more:List LM}{Q:LM->LN->Prop}(I:Inv X pins σ H s)(e:H a=some (.dK kvs))(ry:RelV (kV k) u)(l:fM kvs k=some v)(hm:more=[]\/∃x,more=[x])
  (h:∀w' s',Inv X pins σ (upd H a (.dK (px kvs k))) s'->RelV v w'->Q w' s'):LP (model X.prog X.w) A (call (.builtin "dict.pop") (.ref a::u::more)) Q E s:=by
 obtain⟨z,hd,vs,rel,dd⟩:=CL I.hok e
 obtain⟨w',hw,rw'⟩:=mi.some_of (v:=v) (o:=valueAt vs k) (by rw[<-l];exact rel.val k)
 have hp:(keyPart u).isSome=true:=by
  cases k with
  |inl i=>obtain⟨t,q⟩:=(show ∃t,u=NX i t from ry);subst q;rfl
  |inr x=>obtain⟨t,q⟩:=(show ∃t,u=OI x t from ry);subst q;rfl
 have ha:argsOk "dict.pop" ⟨.ref a::u::more,[]⟩:=by
  rcases hm with q|⟨x,q⟩
  ·subst q;exact Vj _ _
  ·subst q;exact U3 _ _ _
 refine Pg SX dd.typeIs VY ha (meets_dict_pop_there (aS X.prog X.w) a (o4 ry) more hm hp)
  ⟨vs,w',dd,by rw[<-rel.length];exact z,hw,fun h' dd' hs=>h w' _ ?_ rw'⟩
 have he:∃q,h'.get? a=some q:=let ⟨q,_,_,hq,_⟩:=dd';⟨q,hq⟩
 exact o5 I (by rw[e];exact NV) hs he (qI (Ma (Aw kvs k) z) hd (rel.drop k) dd')
theorem KS{Q:LM->LN->Prop}(I:Inv X pins σ H s)(e:Rd H a (.dK kvs))(h:∀t s',Inv X pins σ H s'->Q (.int kvs.length t) s'):LP (model X.prog X.w) A (call (.builtin "len") [.ref a]) Q E s:=by
 obtain⟨z,hd,vs,rel,dd⟩:=fu I.hok e
 refine call_len_dict hd dd (by rw[<-rel.length];rw[sizeLine_eq]at z;omega) ?_
 rw[<-rel.length]
 exact h _ _ (I.tok _)
theorem G2{Q:Bool->LN->Prop}(I:Inv X pins σ H s)(e:Rd H a (.dK kvs))(h:∀s',Inv X pins σ H s'->Q (!kvs.isEmpty) s'):LP (model X.prog X.w) A (truthy (.ref a)) Q E s:=by
 obtain⟨z,hd,vs,rel,dd⟩:=fu I.hok e
 refine wpAny_truthy_dict hd dd (by rw[<-rel.length];rw[sizeLine_eq]at z;omega) ?_
 have q:kvs.isEmpty=vs.isEmpty:=by cases rel<;>rfl
 rw[<-q]
 exact h _ (I.tok _)
end
noncomputable def J5(i:LU):Prop:=∀ov iv,subscripted i false ov iv=operate [ov,iv] (getItem ov iv)
theorem Gm{prog:L5}{w:LZ}{A:Mb}{E:LM->LN->Prop}{s:LN}{env:Mo}{value slice:LU}{pos:L8}{T id:String}{Q:LM->LN->Prop}
  (hl:Pt (.type T) "__getitem__"=pure (some (.builtin id))) (hs:J5 slice)
  (h:LP (model prog w) A (eval value env) (fun o s₁=>LP (model prog w) A (eval slice env) (fun i s₂=>s₂.TypeIs o T/\LP (model prog w) A (getItem o i) Q E s₂) E s₁) E s):
  LP (model prog w) A (eval (.Subscript value slice pos) env) Q E s:=by
 refine Subscript_ (M3 h (fun o s₁ h₁=>M3 h₁ (fun i s₂ h₂=>?_) fun _ _ x=>x) fun _ _ x=>x)
 obtain⟨hT,h₂⟩:=h₂
 unfold subscriptTail
 refine LQ ?_
 rw[getitemInPython_of_ne hT.not_modules]
 refine LQ (wpAny_specialOf hT hl ?_)
 have fin:LP (model prog w) A (subscripted slice false o i) (fun r s₃=>LP (model prog w) A (letTemporaryGo value o r >>= fun _=>pure r) Q E s₃) E s₂:=by
  rw[hs o i]
  exact wpAny_operating (M3 h₂ (fun r s₃ h₃=>LQ (wpAny_letTemporaryGo (Mc h₃))) fun _ _ x=>x)
 first
  |exact Mc (LQ fin)
  |exact LQ (Mc (LQ fin))
  |exact LQ fin
theorem Af{X:Cx}{pins:List (LL×LS)}{σ:St}{H:Hp}{s:LN}{a:LL}{y:V}{o:Option V}(I:Inv X pins σ H s)(g:oo H a y o):s.TypeIs (.ref a) "dict":=by
 rcases g with⟨kvs,k,e,_,_⟩|⟨kvs,k,b,e,_,_,_⟩
 ·obtain⟨_,_,vs,_,dd⟩:=fu I.hok e
  exact dd.typeIs
 ·obtain⟨_,_,xs,_,dd⟩:=wD I.hok e
  exact dd.typeIs
noncomputable def mo(td ty:TE):TE:=fun σ H Q=>td σ H fun x H1=>ty σ H1 fun y H2=>∃a v,x=.ref a/\oo H2 a y (some v)/\Q v H2
noncomputable def Js(ty td:TE):TE:=fun σ H Q=>ty σ H fun y H1=>td σ H1 fun x H2=>∃a o,x=.ref a/\oo H2 a y o/\Q (.bl o.isSome) H2
noncomputable def sM(ty td:TE):TE:=fun σ H Q=>ty σ H fun y H1=>td σ H1 fun x H2=>∃a o,x=.ref a/\oo H2 a y o/\Q (.bl (!o.isSome)) H2
noncomputable def nW(td ty tv:TE):TS:=fun D σ H=>tv σ H fun v H1=>td σ H1 fun x H2=>ty σ H2 fun y H3=>∃a H4,x=.ref a/\DU H3 a y v H4/\D.nx σ H4
section
variable {X:Cx}{o i e value:LU}{pos pos' tpos:L8}{td ty tv:TE}
theorem hJ(hu:X.A.units+1<cLine)(ho:PE X o td)(hi:PE X i ty)(hs:J5 i):PE X (.Subscript o i pos) (mo td ty):=by
 intro pins s σ H Q I h
 refine Gm UR.lookup hs (ck (ho pins s σ H _ I h) fun u s1 ⟨x,H1,I1,rx,q1⟩=>ck (hi pins s1 σ H1 _ I1 q1) fun iv s2 ⟨y,H2,I2,ry,a,v,ex,g,q2⟩=>?_)
 subst ex
 obtain rfl:u=Mj a:=rx
 exact⟨Af I2 g,C6 hu I2 g ry fun w' s3 I3 rw'=>⟨v,H2,I3,rw',q2⟩⟩
theorem Ii(hu:X.A.units+1<cLine)(hi:PE X i ty)(ho:PE X o td):PC X .In i o (Js ty td):=by
 intro pins s σ H Q I h
 refine ck (hi pins s σ H _ I h) fun iv s1 ⟨y,H1,I1,ry,q1⟩=>ck (ho pins s1 σ H1 _ I1 q1) fun u s2 ⟨x,H2,I2,rx,a,ov,ex,g,q2⟩=>?_
 subst ex
 obtain rfl:u=Mj a:=rx
 exact Lw hu I2 g ry fun s3 I3=>⟨.bl ov.isSome,H2,I3,rfl,q2⟩
theorem xf(hu:X.A.units+1<cLine)(hi:PE X i ty)(ho:PE X o td):PC X .NotIn i o (sM ty td):=by
 intro pins s σ H Q I h
 refine ck (hi pins s σ H _ I h) fun iv s1 ⟨y,H1,I1,ry,q1⟩=>ck (ho pins s1 σ H1 _ I1 q1) fun u s2 ⟨x,H2,I2,rx,a,ov,ex,g,q2⟩=>?_
 subst ex
 obtain rfl:u=Mj a:=rx
 exact GA hu I2 g ry fun s3 I3=>⟨.bl (!ov.isSome),H2,I3,rfl,q2⟩
theorem i3(hu:X.A.units+1<cLine)(ho:PE X o td)(hi:PE X i ty)(hv:PE X value tv)(hs:swapsWith value (some (.Subscript o i pos')) pos.line X.env=pure false):
  PS X (.Assign [.Subscript o i pos'] value pos) (nW td ty tv):=by
 intro pins s σ H D I h
 refine wpAny_Assign_Subscript (ck (hv pins s σ H _ I h) fun r s1 ⟨v,H1,I1,rv,q1⟩=>ck (ho pins s1 σ H1 _ I1 q1) fun u s2 ⟨x,H2,I2,rx,q2⟩=>ck (hi pins s2 σ H2 _ I2 q2) fun iv s3 ⟨y,H3,I3,ry,a,H4,ex,g,q3⟩=>?_) hs
 subst ex
 obtain rfl:u=Mj a:=rx
 exact DH hu I3 g ry rv fun s4 I4=>⟨σ,H4,I4,q3⟩
end
theorem zP{P:L5}{w:LZ}{H:Hp}(h:LV)(hb:NB<h.objs.size):cF P w H (h.push {cls:=.type "dict",data:=.dict #[]}) h.objs.size (.dK []):=
 ⟨MK _,beq_eq_false_iff_ne.mpr (Mm (Ms hb)),[],.nil,RU h⟩
noncomputable def yb:TE:=fun _ H Q=>∀p,H p=none->Q (.ref p) (upd H p (.dK []))
section
variable {X:Cx}{pos:L8}
theorem AJ:PE X (.Dict [] [] pos) yb:=fun pins s σ H Q I h=>
 wpAny_Dict_empty ⟨.ref s.heap.objs.size,_,I.laid (a:=s.heap.objs.size) (o:=.dK []) (t':=s.toks) (fun _ _ q=>Mq _ q) (L0 _) (zP s.heap I.big),rfl,h _ (I.hok.fresh (L0 _))⟩
end
noncomputable def Be:List (TE×TE)->St->Hp->(List (V×V)->Hp->Prop)->Prop
 |[],_,H,Q=>Q [] H
 |(tk,tv)::r,σ,H,Q=>tk σ H fun x H1=>tv σ H1 fun y H2=>Be r σ H2 fun ps H3=>Q ((x,y)::ps) H3
noncomputable abbrev VV:List (V×V)->List (LM×LM)->Prop:=L7 fun p q=>RelV p.1 q.1/\RelV p.2 q.2
noncomputable def K1(X:Cx)(pos:L8)(keys:List (Option LU))(values:List LU)(trs:List (TE×TE)):Prop:=
 ∀(pins:List (LL×LS))(s:LN)(σ:St)(H:Hp)(Q:List (V×V)->Hp->Prop),Inv X pins σ H s->Be trs σ H Q->
  LP (model X.prog X.w) X.A (evalPairs (pairTrees keys values X.env pos)) (fun vs s'=>∃ps H',Inv X pins σ H' s'/\VV ps vs/\Q ps H') X.xe s
theorem Ge{X:Cx}{pos:L8}:K1 X pos [] [] []:=fun pins s σ H Q I h=>pairTrees_nil_walk ⟨[],H,I,.nil,h⟩
theorem ug{X:Cx}{pos:L8}{k v:LU}{ks:List (Option LU)}{vs:List LU}{tk tv:TE}{trs:List (TE×TE)}(hk:PE X k tk)(hv:PE X v tv)(hr:K1 X pos ks vs trs):
  K1 X pos (some k::ks) (v::vs) ((tk,tv)::trs):=fun pins s σ H Q I h=>
 pairTrees_cons_walk (ck (hk pins s σ H _ I h) fun u s1 ⟨x,H1,I1,rx,q1⟩=>ck (hv pins s1 σ H1 _ I1 q1) fun w2 s2 ⟨y,H2,I2,ry,q2⟩=>
  ck (hr pins s2 σ H2 _ I2 q2) fun ws s3 ⟨ps,H3,I3,rel,q3⟩=>⟨(x,y)::ps,H3,I3,.cons ⟨rx,ry⟩ rel,q3⟩)
noncomputable def oj(kvs more:List (Key×V)):List (Key×V):=more.foldl (fun acc kv=>putK acc kv.1 kv.2) kvs
theorem KV.merge:∀{more:List (Key×V)}{rs:List (Key×LM)}{kvs:List (Key×V)}{vs:List (Key×LM)},KV more rs->KV kvs vs->KV (oj kvs more) (merged vs rs):=by
 intro more rs kvs vs r
 unfold KV at r
 induction r generalizing kvs vs with
 |nil=>intro q;exact q
 |@cons p q ps qs h t ih=>
  intro r0
  have e:KV (putK kvs p.1 p.2) (stored vs q.1 q.2):=by
   have:=r0.put p.1 h.2
   rw[<-h.1];exact this
  exact ih e
theorem nK:∀(more kvs:List (Key×V)),(oj kvs more).length<=kvs.length+more.length
 |[],kvs=>by show kvs.length<=kvs.length+0;omega
 |p::r,kvs=>by
  have h1:=nK r (putK kvs p.1 p.2)
  have h2:=mI kvs p.1 p.2
  show(oj (putK kvs p.1 p.2) r).length<=_
  rw[MW];omega
theorem sY{P:L5}{w:LZ}:∀{kvs:List (Key×V)}{ws:List (LM×LM)},VV (kvs.map fun kv=>(kV kv.1,kv.2)) ws->∃rs,Carries (aS P w) ws rs/\KV kvs rs
 |[],_,r=>by rw[Pl]at r;cases r;exact⟨[],NV,.nil⟩
 |p::kvs,_,r=>by
  rw[MQ]at r
  cases r with
  |@cons a b as bs h t=>
   obtain⟨rs,c,q⟩:=sY (P:=P) (w:=w) t
   obtain⟨b1,b2⟩:=b
   exact⟨(p.1,b2)::rs,⟨o4 h.1,rfl,c⟩,.cons ⟨rfl,h.2⟩ q⟩
noncomputable def EG(trs:List (TE×TE)):TE:=fun σ H Q=>∀p,H p=none->Be trs σ (upd H p (.dK [])) fun ps H2=>H2 p=some (.dK [])/\∃kvs:List (Key×V),ps=kvs.map (fun kv=>(kV kv.1,kv.2))/\kvs.length<=15/\Q (.ref p) (upd H2 p (.dK (oj [] kvs)))
theorem GG{X:Cx}{pos:L8}{keys:List (Option LU)}{values:List LU}{trs:List (TE×TE)}(h:K1 X pos keys values trs)(hall:keys.all (·.isSome)=true)(hl:keys.length=values.length)(h0:keys≠[])
  (h15:keys.length<=15):PE X (.Dict keys values pos) (EG trs):=by
 intro pins s σ H Q I q
 have hn:=I.hok.fresh (L0 s.heap.objs.size)
 have I1:=I.laid (a:=s.heap.objs.size) (o:=.dK []) (h':=s.heap.push {cls:=.type "dict",data:=.dict #[]}) (t':=s.toks) (fun _ _ q=>Mq _ q) (L0 _) (zP s.heap I.big)
 refine wpAny_Dict_walk (knd:=aS X.prog X.w) hall hl h0 h15 (ck (h pins _ σ _ _ I1 (q _ hn)) fun ws s2 ⟨ps,H2,I2,rel,e,kvs,ep,lk,q2⟩=>?_)
 subst ep
 obtain⟨rs,c,rk⟩:=sY (P:=X.prog) (w:=X.w) rel
 obtain⟨z,hd,vs0,r0,dd⟩:=CL I2.hok e
 cases r0
 refine⟨rs,c,dd,fun h' dd' hs=>⟨.ref s.heap.objs.size,_,?_,rfl,q2⟩⟩
 have hz:(oj [] kvs).length<=LW:=by
  have h1:=nK kvs []
  rw[RB]at h1
  rw[sizeLine_eq];omega
 have he:∃q,h'.get? s.heap.objs.size=some q:=let ⟨q,_,_,hq,_⟩:=dd';⟨q,hq⟩
 exact o5 I2 (by rw[e];exact NV) hs he (qI hz hd (rk.merge .nil) dd')
structure M1(X:Cx)(o:LU)(m:LK)(apos:L8)(e:LU)(cpos:L8):Prop where
 base:OU o m X.env (eval o X.env)=eval o X.env
 few:((MA cpos (L6 [e] X.env)).all (fun x=>!x.1)&&(NZ cpos (NT [] X.env)).all (fun x=>x.1.isSome)
  && decide (([e]:List LU).length+([]:List Keyword).length+(if([]:List Keyword).isEmpty then 0 else 1)<30))=true
 line:(apos.endLine==cpos.line)=true
 trees:MA cpos (L6 [e] X.env)=[(false,eval e X.env)]
noncomputable def LC(H:Hp)(a:LL):Prop:=(∃kvs,Rd H a (.dK kvs))\/∃kvs,Rd H a (.dT kvs)
theorem JD{X:Cx}{pins:List (LL×LS)}{σ:St}{H:Hp}{s:LN}{a:LL}(I:Inv X pins σ H s)(d:LC H a):
  s.TypeIs (.ref a) "dict"/\(∀b,Mj a=.ref b->∃ob,s.heap.get? b=some ob/\ob.dict=none)/\(a==NB)=false:=by
 rcases d with⟨kvs,e⟩|⟨kvs,e⟩
 ·obtain⟨_,hd,vs,_,dd⟩:=fu I.hok e
  refine⟨dd.typeIs,fun b q=>?_,hd⟩
  cases q
  obtain⟨ob,_,_,h1,h2,_⟩:=dd
  exact⟨ob,h1,h2.2.1⟩
 ·obtain⟨_,hd,xs,_,dd⟩:=wD I.hok e
  refine⟨dd.typeIs,fun b q=>?_,hd⟩
  cases q
  obtain⟨ob,_,_,h1,h2,_⟩:=dd
  exact⟨ob,h1,h2.2.1⟩
section
variable {X:Cx}{pins:List (LL×LS)}{σ:St}{H:Hp}{s:LN}{a:LL}{y d:V}{u r:LM}{o:Option V}{A:Mb}{E:LM->LN->Prop}
end
noncomputable def yU(td ty:TE):TE:=fun σ H Q=>td σ H fun x H1=>∃a,x=.ref a/\LC H1 a/\ty σ H1 fun y H2=>∃kvs k v,H2 a=some (.dK kvs)/\y=kV k/\fM kvs k=some v/\Q v (upd H2 a (.dK (px kvs k)))
section
variable {X:Cx}{o e f:LU}{apos cpos:L8}{td ty tx:TE}
theorem As(ho:PE X o td)(he:PE X e ty)(m:M1 X o "pop" apos e cpos):PE X (.Call (.Attribute o "pop" apos) [e] [] cpos) (yU td ty):=by
 intro pins s σ H Q I h
 refine wpAny_Call_method m.base m.few m.line PH SX V0 (ck (ho pins s σ H _ I h) fun u s1 ⟨x,H1,I1,rx,a,ex,d,q1⟩=>?_)
 subst ex
 obtain rfl:u=Mj a:=rx
 obtain⟨t1,t2,_⟩:=JD I1 d
 exists t1,t2
 rw[m.trees]
 refine Py rfl (Ro (Rg (ck (he pins s1 σ H1 _ I1 q1) fun iv s2 ⟨y,H2,I2,ry,kvs,k,v,ea,ey,l,q2⟩=>QW ?_)))
 subst ey
 exact KP I2 ea ry l (.inl rfl) fun w' s3 I3 rw'=>⟨v,_,I3,rw',q2⟩
end
section
variable {X:Cx}{pins:List (LL×LS)}{σ:St}{H:Hp}{s:LN}{a:LL}{kvs:List (Key×V)}{A:Mb}{E:LM->LN->Prop}
end
section
variable {X:Cx}{pins:List (LL×LS)}{σ:St}{H:Hp}{s:LN}{a:LL}{y:V}{u:LM}{A:Mb}{E:LM->LN->Prop}
end
section
variable {X:Cx}
theorem D6:eu X (.builtin "len") (fun xs H Q=>∃a kvs,xs=[V.ref a]/\H a=some (.dK kvs)/\Q (.int kvs.length) H):=by
 intro pins s σ H xs us Q I r h
 obtain⟨a,kvs,rfl,ha,q⟩:=h
 obtain⟨u,rfl,ru⟩:=vals1 r
 cases ru
 exact KS I (.inl ha) fun t s' I'=>⟨.int kvs.length,H,I',⟨t,rfl⟩,q⟩
end
section
variable {κ:Type} [DecidableEq κ]
theorem jc:∀{l:List κ}{k:κ},l.Nodup->¬k∈l->(l++[k]).Nodup
 |[],k,_,_=>by simp
 |a::r,k,h,hk=>by
  obtain⟨h1,h2⟩:=MJ.mp h
  show(a::(r++[k])).Nodup
  refine MJ.mpr ⟨fun m=>?_,jc h2 fun m=>hk (L9.mpr (NP m))⟩
  rcases Mp.mp m with q|q
  ·exact h1 q
  ·exact hk (L9.mpr (LR (Mz.mp q).symm))
end
end L2
namespace L2
open PySem PySem.Spec PyProof.Rows PySem.W
section
variable {X:Cx}{pins:List (LL×LS)}{σ:List (Option V)}{H H':Hp}{s:LN}{h':LV}
theorem Inv.many{t':Nat}(I:Inv X pins σ H s)(k:∀b u,s.heap.get? b=some u->h'.get? b=some u)(sub:∀b o,H b=some o->H' b=some o)(new:∀b o,H' b=some o->H b=some o\/(s.heap.objs.size<=b/\cF X.prog X.w H' h' b o)):
  Inv X pins σ H' {s with heap:=h',toks:=t'}:=by
 refine I.un (t':=t') ⟨fun b o q _ _ _=>k b o q,fun b o q _ _ _=>⟨o.slots,k b o q⟩,fun b o q n _=>?_,fun b o q _=>⟨o,k b o q⟩,fun b xs q=>sub b _ q,fun b o u q=>sub b _ q,fun b ps q=>⟨#[],by simpa using sub b _ q⟩⟩ fun b o e=>?_
 ·cases e:H' b with
  |none=>rfl
  |some u=>
   rcases new b u e with z|⟨z,_⟩
   ·rw[n]at z;cases z
   ·exact absurd (Mi q) (Nat.not_lt.mpr z)
 ·rcases new b o e with z|⟨_,z⟩
  ·exact(I.hok b o z).stay (fun c u _ q=>k c u q) (fun c q=>sub c _ q) fun c xs q=>sub c _ q
  ·exact z
noncomputable def mE(v d:LL):HO:=.ext fun h=>h.IsItemsView v d
noncomputable def BF:V->List V->Hp->VK->Prop:=fun x vs H Q=>∃(d:LL)(kvs:List (Key×V)),x=.ref d/\vs=[]/\H d=some (.dK kvs)/\∀v,H v=none->Q (.ref v) (upd H v (mE v d))
theorem Fv:K9 X "dict.items" BF:=by
 intro pins s σ H x xs v us Q I rx r h
 obtain⟨d,kvs,rfl,rfl,e,q⟩:=h
 cases r
 cases(show v=Mj d from rx)
 obtain⟨z,hd,vs,rel,dd⟩:=fu I.hok (.inl e)
 refine Pg PY dd.typeIs RY (S5 _) (meets_dict_items (aS X.prog X.w) d hd) ⟨⟨vs,dd⟩,?_⟩
 refine⟨.ref s.heap.objs.size,upd H s.heap.objs.size (mE s.heap.objs.size d),I.laid (t':=s.toks) (fun b u e=>Mq _ e) (L0 _) ⟨⟨_,Mu _ rfl,rfl,rfl⟩,⟨_,Mu _ rfl⟩,fun h1 h2 x k=>?_⟩,rfl,q _ (I.hok.fresh (L0 _))⟩
 obtain⟨o,ho,r⟩:=x
 exact⟨o,k o ho,r⟩
noncomputable def Fe:List V->Hp->VK->Prop:=fun xs H Q=>∃(v d:LL)(kvs:List (Key×V)),xs=[.ref v]/\H v=some (mE v d)/\H d=some (.dK kvs)/\
 ∀(l:LL)(ts:List LL)(H':Hp),H l=none->av H H'->H' l=some (.lst (ts.map V.ref))->L7 (fun (p:Key×V) t=>H t=none/\t≠l/\H' t=some (.tup [kV p.1,p.2])) kvs ts->Q (.ref l) H'
theorem qh{k:Key}{u:LM}{prog:L5}{w:LZ}(h:(aS prog w).is k u=true):RelV (kV k) u:=by
 rcases cE (show vd k u=true from h)with⟨i,t,rfl,rfl⟩|⟨x,t,rfl,rfl⟩
 ·exact⟨t,rfl⟩
 ·exact⟨t,rfl⟩
theorem jT{κ:Type}:∀{kvs:List (κ×V)}{vs:List (κ×LM)},KV kvs vs->∀(i:Nat)(p:κ×LM),vs[i]?=some p->∃q,kvs[i]?=some q/\q.1=p.1/\RelV q.2 p.2
 |_,_,.nil,i,p,h=>by simp at h
 |q::_,_,.cons hq _,0,p,h=>by
  simp at h
  subst h
  exact⟨q,rfl,hq.1,hq.2⟩
 |_,_,.cons _ t,i+1,p,h=>by
  obtain⟨q,h1,h2⟩:=jT t i p (by simpa using h)
  exact⟨q,by simpa using h1,h2⟩
noncomputable def lU(H:Hp)(kvs:List (Key×V))(as:List LL):Hp:=fun b=>match as.findIdx? (·==b)with
 |some i=>(kvs[i]?).map fun q=>.tup [kV q.1,q.2]
 |none=>H b
theorem Dk{H:Hp}{kvs:List (Key×V)}{as:List LL}(nd:as.Pairwise (· < ·)){i:Nat}{a:LL}(h:as[i]?=some a):lU H kvs as a=(kvs[i]?).map fun q=>.tup [kV q.1,q.2]:=by
 unfold lU
 obtain⟨hi,e⟩:=Mx.mp h
 have:as.findIdx? (·==a)=some i:=by
  rw[List.findIdx?_eq_some_iff_getElem]
  refine⟨hi,by simpa using e,fun j hj=>?_⟩
  have:=Ni.mp nd j i (by omega) hi hj
  rw[e]at this
  have:as[j]≠a:=Ms this
  simpa using this
 rw[this]
theorem uy{H:Hp}{kvs:List (Key×V)}{as:List LL}{b:LL}(h:b∉as):lU H kvs as b=H b:=by
 unfold lU
 have:as.findIdx? (·==b)=none:=by
  rw[List.findIdx?_eq_none_iff]
  intro x hx
  have:x≠b:=fun z=>h (z▸hx)
  simpa using this
 rw[this]
theorem AU(hc:X.calm=true):eu X (.type "list") Fe:=by
 intro pins s σ H xs us Q I r h
 obtain⟨v,d,kvs,rfl,hv,hd,q⟩:=h
 obtain⟨u,rfl,ru⟩:=vals1 r
 cases ru
 obtain⟨z,hdS,vs,rel,dd⟩:=fu I.hok (.inl hd)
 obtain⟨ep,hat⟩:=dd.dictAt
 have hvw:s.heap.IsItemsView v d:=(show cF X.prog X.w H s.heap v (mE v d)from I.hok v _ hv).1
 have hlen:kvs.length=vs.length:=Mr rel
 refine kdx_call (knd:=aS X.prog X.w) (I.ok.hd hc) hvw hat (by rw[<-hlen];exact z) fun h' tk acc c as hk hS hl G hacc=>?_
 have hfr:∀a∈as,s.heap.objs.size<a:=G.above
 let l:=s.heap.objs.size
 let Hp2:Hp:=upd (lU H kvs as) l (.lst (as.map V.ref))
 have hla:l∉as:=fun z=>Nk _ (hfr l z)
 have hsub:∀b o,H b=some o->Hp2 b=some o:=fun b o e=>by
  have hb:b<s.heap.objs.size:=I.hok.lt e
  show upd (lU H kvs as) l _ b=_
  rw[aq (Ms hb),uy fun z=>Rx hb (hfr b z)]
  exact e
 have hpair:∀(j:Nat)(a:LL),as[j]?=some a->∃p,kvs[j]?=some p/\Hp2 a=some (.tup [kV p.1,p.2])/\∃key x,h'.get? a=some {cls:=.type "tuple",data:=.seq #[key,x]}/\RelV (kV p.1) key/\RelV p.2 x:=fun j a e=>by
  obtain⟨key,k,x,e1,e2,e3⟩:=G.pairs j a e
  obtain⟨p,p1,p2,p3⟩:=jT rel j (k,x) e1
  refine⟨p,p1,?_,key,x,e3,by rw[p2];exact qh e2,p3⟩
  show upd (lU H kvs as) l _ a=_
  rw[aq (fun z=>hla (by rw[<-z];exact Nr e)),Dk G.rise e,p1]
  rfl
 have I2:Inv X pins σ Hp2 {s with heap:=h',toks:=tk}:=by
  refine I.many (t':=tk) hk hsub fun b o e=>?_
  by_cases hb:b=l
  ·subst hb
   have e':some (HO.lst (as.map V.ref))=some o:=by rw[<-e];exact ao.symm
   cases e'
   refine .inr ⟨L0 _,?_,as.map Mj,c,?_,?_⟩
   ·rw[Md,hl,<-hlen];exact z
   ·clear hpair e hsub hla hfr G hacc hl
    induction as with
    |nil=>exact .nil
    |cons a as ih=>exact .cons rfl ih
   ·have e1:(as.map Mj).toArray=acc:=by rw[<-hacc]
    rw[e1];exact hS
  ·by_cases hba:b∈as
   ·obtain⟨j,hj,ej⟩:=NF hba
    obtain⟨p,p1,p2,key,x,p3,p4,p5⟩:=hpair j b (by rw[Mg hj,ej])
    rw[p2]at e
    cases e
    exact .inr ⟨NU (hfr b hba),by show 2<=LW;decide,[key,x],.cons p4 (.cons p5 .nil),⟨_,p3,rfl,_,rfl⟩⟩
   ·refine .inl ?_
    have e':upd (lU H kvs as) l (.lst (as.map V.ref)) b=some o:=e
    rw[aq hb,uy hba]at e'
    exact e'
 refine⟨.ref l,Hp2,I2,rfl,q l as Hp2 (I.hok.fresh (L0 _)) hsub ao ?_⟩
 have hl':as.length=kvs.length:=by rw[hl,hlen]
 have go:∀(ks:List (Key×V))(bs:List LL),bs.length=ks.length->(∀(j:Nat)(a:LL),bs[j]?=some a->∃p,ks[j]?=some p/\H a=none/\a≠l/\Hp2 a=some (.tup [kV p.1,p.2]))->L7 (fun (p:Key×V) t=>H t=none/\t≠l/\Hp2 t=some (.tup [kV p.1,p.2])) ks bs:=by
  intro ks
  induction ks with
  |nil=>intro bs hb _;rw[RL hb];exact .nil
  |cons p ks ih=>
   intro bs hb hj
   cases bs with
   |nil=>simp at hb
   |cons a bs=>
    obtain⟨p',e1,e2⟩:=hj 0 a rfl
    simp at e1
    subst e1
    exact .cons e2 (ih bs (by simpa using hb) fun j a e=>by simpa using hj (j+1) a (by simpa using e))
 refine go kvs as hl' fun j a e=>?_
 obtain⟨p,p1,p2,_⟩:=hpair j a e
 have hm:=Nr e
 exact⟨p,p1,I.hok.fresh (NU (hfr a hm)),fun z=>hla (z▸hm),p2⟩
end
theorem lG:Pt (.type "list") "keys"=pure none:=by rw[QP,builtinLookup_eq_fast];kernel_rfl
section
variable {prog:L5}{w:LZ}{A:Mb}{E:LM->LN->Prop}{s:LN}
theorem Dx{a:LL}{o:LS}{xs:Array LM}{k:Nat}{Q:Option LM->LN->Prop}(hx:s.heap.get? a=some o)(hc:o.cls=.type "list")(hdat:o.data=.seq xs k)(hd:o.dict=none)(hA:A.handled=none)
  (h:∀h' tk,(∀b o,s.heap.get? b=some o->h'.get? b=some o)->Q none {s with heap:=h',toks:=tk}):LP (model prog w) A (getAttr? (.ref a) "keys") Q E s:=by
 obtain⟨c,dct,dat,sl⟩:=o
 simp only at hc hdat hd
 subst hc hdat hd
 obtain⟨hp,g,d,tk,os⟩:=s
 have hT:∀tk',(⟨hp,g,d,tk',os⟩:LN).TypeIs (.ref a) "list":=fun _=>⟨_,hx,rfl⟩
 have f1:=sub_AttributeError
 have f3:=Rf.lookup
 have f4:=Rf.bind (.ref a)
 have f5:=am_list_getattr_none
 have f6:=lG
 unfold getAttr? getAttrBy? getAttrBy
 repeat (any_goals (first|assumption|exact hT _|((with_reducible show LP _ _ (call (O5 "list.__getattribute__") _ _) _ _ _);refine N3 Rf (hT _) am_entry_list_getattribute (Vx _ _) (meets_getattribute_miss_list a xs k sl "keys" _ lG (by decide)) ⟨hx,hA,fun h' tk' e hx'=>?_⟩)|wp_step))
 obtain⟨t',u',he⟩:=hx'.there
 show LP _ _ (P1 _ _ _ _ _ _ _) _ _ _
 unfold P1
 repeat (any_goals (first|assumption|wp_step))
 exact h _ _ hx'.keeps
end
section
variable {prog:L5}{w:LZ}{K:Type} [DecidableEq K] {knd:KeyKind prog w K}{A:Mb}{R:Result->LN->Prop}{I:LL}{fp wr:List LL}{G:Array GenState->Array GenState->Prop}{n:Nat}{P:Nat->LM->Prop}{St:Nat->LN->Prop}
theorem mS:entryFor table "dict.update.loop"=some Nf.«dict.update.loop»:=entryFor_of_tree (by kernel_rfl)
theorem eR:plainId "dict.update.loop"=true:=by decide +kernel
noncomputable def sR(knd:KeyKind prog w K)(h:LV)(T:LL)(kv:K×LM):Prop:=∃o key m,h.get? T=some o/\o.cls=.type "tuple"/\o.data=.seq #[key,kv.2] m/\knd.is kv.1 key=true
theorem BP(W:WalksS prog w A.in1 I fp wr G n P St)(D:LL)(hDf:D∉fp)(vs:List (K×LM))(ts:List LL)(res:LM)(hvn:vs.length=n)(htn:ts.length=n)(hval:∀i v,P i v->∃t,ts[i]?=some t/\v=.ref t)(hT:∀t∈ts,t≠D/\t∉wr)(hn:n<=1000)(nd:(vs.map (·.1)).Nodup):
  ∀(k i:Nat)(s:LN),n-i=k->i<=n->St i s->(∀(j:Nat)(t:LL)(p:K×LM),ts[j]?=some t->vs[j]?=some p->sR knd s.heap t p)->s.heap.DictOf knd D (vs.take i)->
   (∀s',Moved (D::wr) G s s'->s'.heap.DictOf knd D vs->R (.ok (.ret res)) s')->
   NL (model prog w) A (.builtin "dict.update.loop" ⟨[.ref D,.ref I,.int i 0,res],[]⟩) R s:=by
 have hDw:D∉wr:=fun h=>hDf (W.sub _ h)
 have hsub:∀b∈wr,b∈D::wr:=fun b hb=>MU _ hb
 have dstay:∀{kvs:List (K×LM)}{h h':LV},h.DictOf knd D kvs->(∀o,h.get? D=some o->h'.get? D=some o)->h'.DictOf knd D kvs:=fun x k=>let ⟨o,es,ep,ho,r⟩:=x;⟨o,es,ep,k o ho,r⟩
 intro k
 induction k with
 |zero=>
  intro i s hk hi hst hP hD hR
  have hin:i=n:=by omega
  subst hin
  rw[Nt (by omega)]at hD
  refine codeAny_builtin mS ?_
  rw[Pe eR _]
  show LP _ A.in1 (M8 (.ref I) >>= _) _ _ s
  refine LQ (W.done s _ _ hst fun s' hm=>?_)
  show LP _ A.in1 (Ua D [] >>= fun _=>ret res) _ _ s'
  exact LQ (Mc (Mc (hR s' (hm.mono hsub) (dstay hD fun o e=>hm.heap D _ hDw e))))
 |succ k ih=>
  intro i s hk hi hst hP hD hR
  have hlt:i<n:=by omega
  refine codeAny_builtin mS ?_
  rw[Pe eR _]
  show LP _ A.in1 (M8 (.ref I) >>= _) _ _ s
  refine LQ (W.item i s _ _ hlt hst fun v s' hPv hst' hm=>?_)
  obtain⟨t,ht,rfl⟩:=hval i v hPv
  have hvi:vs[i]?=some vs[i]:=Mg (by omega)
  generalize vs[i]=p at hvi
  have hD':=dstay hD fun o e=>hm.heap D _ hDw e
  have hP':∀(j:Nat)(t:LL)(p:K×LM),ts[j]?=some t->vs[j]?=some p->sR knd s'.heap t p:=fun j t p e1 e2=>by
   obtain⟨o,key,m,h1,h2⟩:=hP j t p e1 e2
   exact⟨o,key,m,hm.heap _ _ (hT t (Nr e1)).2 h1,h2⟩
  obtain⟨o,key,m,h1,h2,h3,h4⟩:=hP' i t p ht hvi
  show LP _ A.in1 (holding [Mj t] _ >>= _) _ _ s'
  refine LQ (N1 ?_)
  refine LQ (wpAny_tryCatch ?_)
  unfold Sa
  refine LQ (P7 (T:="tuple") ⟨o,h1,h2⟩ ?_)
  rw[if_pos (by decide)]
  refine LQ (Ob h1 h3 (Mc ?_))
  show LP _ A.in1 (holding [key,p.2] (dictSet D key p.2)) _ _ s'
  refine N1 (wpAny_dictSet_pairs (knd:=knd) h4 hD' (fun h' hd' hsb=>?_) (by rw[MS,sizeLine_eq];omega))
  have hst2:stored (vs.take i) p.1 p.2=vs.take (i+1):=by
   unfold stored
   rw[if_neg]
   ·rw[Oq,hvi];rfl
   ·intro z
    obtain⟨x,hx,e⟩:=Rk.mp z
    obtain⟨j,hj,ej⟩:=NF hx
    have hj':j<i/\j<vs.length:=by rw[MS]at hj;omega
    rw[Ry]at ej
    have e:x.1=p.1:=by simpa using e
    obtain⟨hi',ei⟩:=Mx.mp hvi
    have:=Ni.mp nd j i (by simp;omega) (by simp;omega) hj'.1
    simp only[QM]at this
    rw[ej,ei]at this
    exact this e
  rw[hst2]at hd'
  refine Mc ⟨plainId_quiet eR _,?_⟩
  refine ih (i+1) _ (by omega) hlt (W.frame _ s' _ _ hst' (Nq _) fun b hb o e=>?_) (fun j t p e1 e2=>?_) hd' fun s'' hm'' hS''=>?_
  ·rw[hsb.2 b (fun h:b=D=>hDf (by rw[<-h];exact hb))];exact e
  ·obtain⟨o,key,m,h1,h2⟩:=hP' j t p e1 e2
   exact⟨o,key,m,by rw[hsb.2 _ (hT t (Nr e1)).1];exact h1,h2⟩
  ·refine hR s'' (Moved.trans W.gtrans ((hm.mono hsub).then_heap (Nq _) fun b o hb e=>?_) hm'') hS''
   rw[hsb.2 b (fun h:b=D=>hb (by rw[h];exact Nd))];exact e
end
section
variable {prog:L5}{w:LZ}{K:Type} [DecidableEq K] {knd:KeyKind prog w K}{A:Mb}{E:LM->LN->Prop}{s:LN}
theorem sD{l:LL}{ts:List LL}{vs:List (K×LM)}{Q:LM->LN->Prop}(hh:A.handled=none)(hl:∃m,s.heap.get? l=some {cls:=.type "list",data:=.seq (ts.map Mj).toArray m})(hlen:ts.length=vs.length)
  (hp:∀(j:Nat)(t:LL)(p:K×LM),ts[j]?=some t->vs[j]?=some p->sR knd s.heap t p) (nd:(vs.map (·.1)).Nodup) (hn:vs.length<=1000)
  (h:∀(h':LV)(tk:Nat),(∀b o,s.heap.get? b=some o->h'.get? b=some o)->h'.DictOf knd s.heap.objs.size vs->Q (.ref s.heap.objs.size) {s with heap:=h',toks:=tk}):
  LP (model prog w) A (call (.type "dict") [.ref l]) Q E s:=by
 obtain⟨m,hl⟩:=hl
 refine callType_codes (Q₁:=fun obj s₁=>obj=.ref s.heap.objs.size/\s₁={s with heap:=s.heap.push {cls:=.type "dict",data:=.dict #[]}}) S1 (To _) Tv (kt_code_dict_new _ ⟨rfl,rfl⟩) ?_
 rintro obj s₁ ⟨rfl,rfl⟩
 have hnew:(s.heap.push {cls:=.type "dict",data:=.dict #[]}).DictOf knd s.heap.objs.size []:=RU s.heap
 have hl1:(s.heap.push {cls:=.type "dict",data:=.dict #[]}).get? l=some {cls:=.type "list",data:=.seq (ts.map Mj).toArray m}:=Mq _ hl
 exists hnew.typeIs,Sr _ _
 unfold Nf.«dict.__init__»
 refine LQ ?_
 unfold TU
 refine LQ (wpAny_notOrdered_dict hnew.typeIs ?_)
 show LP _ _ (pure (s.heap.objs.size,[Mj l])) _ _ _
 refine Mc ?_
 show LP _ _ (Qr "dict.__init__" s.heap.objs.size (.ref l) [] .none) _ _ _
 unfold Qr
 refine LQ (P7 (T:="list") ⟨_,hl1,rfl⟩ ?_)
 rw[if_pos (by decide)]
 refine LQ (Dx hl1 rfl rfl rfl hh fun h2 tk2 k2=>?_)
 simp only[TF,if_true]
 refine LQ (wpAny_rule ?_)
 have hl2:h2.IsList l (ts.map Mj).toArray:=⟨_,k2 _ _ hl1,rfl,m,rfl⟩
 refine LQ (Qn hl2 ?_)
 have hdlt:s.heap.objs.size<h2.objs.size:=by
  obtain⟨o,_,_,ho,_⟩:=hnew
  exact Mi (k2 _ _ ho)
 have hllt:l<h2.objs.size:=Mi (k2 _ _ hl1)
 have hls:l<s.heap.objs.size:=Mi hl
 have keep:∀b o,s.heap.get? b=some o->(h2.push {cls:=.type "list_iterator",data:=.fields #[.ref l,.int 0 0]}).get? b=some o:=fun b o e=>Mq _ (k2 _ _ (Mq _ e))
 have hsz:(ts.map Mj).toArray.size=vs.length:=by simp[hlen]
 have htl:∀t∈ts,t<s.heap.objs.size:=fun t ht=>by
  obtain⟨j,hj,e⟩:=NF ht
  obtain⟨o,_,_,h1,_⟩:=hp j t vs[j] (by rw[Mg hj,e]) (Mg (by omega))
  exact Mi h1
 refine Mc ⟨plainId_quiet eR _,?_⟩
 refine BP (knd:=knd) ((Sq (A:=A.in1.in1) hh h2.objs.size l (Ms hllt) (ts.map Mj).toArray).toS) s.heap.objs.size (by simp only[L9,NG,or_false,not_or];exact⟨Ms hdlt,Nh hls⟩)
  vs ts .none hsz.symm (by rw[hsz,hlen]) (fun i v hv=>?_) (fun t ht=>⟨Ms (htl t ht),fun z=>?_⟩) (by rw[hsz];exact hn) nd _ 0 _ rfl (MK _) ⟨⟨_,Mu _ rfl,rfl,rfl⟩,hl2.push _⟩ (fun j t p e1 e2=>?_) ?_ fun s' hm hD=>?_
 ·have hv:(ts.map Mj).toArray[i]?=some v:=hv
  rw[List.getElem?_toArray,MO]at hv
  cases e:ts[i]? with
  |none=>rw[e]at hv;cases hv
  |some t=>rw[e]at hv;exact⟨t,rfl,(MB hv).symm⟩
 ·rw[Mz.mp z]at ht
  exact Rx hdlt (htl _ ht)
 ·obtain⟨o,key,m',h1,h3⟩:=hp j t p e1 e2
  exact⟨o,key,m',keep _ _ h1,h3⟩
 ·obtain⟨o,es,ep,ho,r⟩:=hnew
  exact⟨o,es,ep,Mq _ (k2 _ _ ho),r⟩
 ·rw[Moved.eq_with hm]
  refine⟨rfl,h s'.heap s'.toks (fun b o e=>hm.heap b o (fun z=>?_) (keep b o e)) hD⟩
  have hb:=Mi e
  rcases L9.mp z with z|z
  ·rw[z]at hb;exact Nk _ hb
  ·rw[Mz.mp z]at hb;exact Rx hdlt hb
end
noncomputable def EM(K:LO):List V->Hp->VK->Prop:=fun xs H Q=>∃(l:LL)(ts:List LL)(kvs:List (Key×V)),xs=[.ref l]/\H l=some (.lst (ts.map V.ref))/\L7 (fun (p:Key×V) t=>gf K H t [kV p.1,p.2]) kvs ts/\(kvs.map (·.1)).Nodup/\kvs.length<=1000/\
 ∀d,H d=none->Q (.ref d) (upd H d (.dK kvs))
section
variable {X:Cx}
theorem Cn:∀{ts:List LL}{its:List LM},bF (ts.map V.ref) its->its=ts.map Mj
 |[],_,.nil=>rfl
 |t::ts,_,.cons h r=>by
  cases(show _=Mj t from h)
  rw[Cn r];rfl
theorem BR(hc:X.calm=true):eu X (.type "dict") (EM X.K):=by
 intro pins s σ H xs us Q I r h
 obtain⟨l,ts,kvs,rfl,hl,hp,nd,hn,q⟩:=h
 obtain⟨u,rfl,ru⟩:=vals1 r
 cases ru
 obtain⟨z,its,m,rv,hg⟩:=(show cF X.prog X.w H s.heap l (.lst (ts.map V.ref))from I.hok l _ hl)
 have ei:=Cn rv
 subst ei
 have hl':kvs.length=ts.length:=Mr hp
 have go:∀(ks:List (Key×V))(bs:List LL),L7 (fun (p:Key×V) t=>gf X.K H t [kV p.1,p.2]) ks bs->∃vs:List (Key×LM),KV ks vs/\∀(j:Nat)(t:LL)(p:Key×LM),bs[j]?=some t->vs[j]?=some p->sR (aS X.prog X.w) s.heap t p:=by
  intro ks bs hpr
  induction hpr with
  |nil=>exact⟨[],.nil,fun j t p e=>by simp at e⟩
  |@cons p t ks bs hq _ ih=>
   obtain⟨vs,h1,h2⟩:=ih
   obtain⟨its,rv,⟨o,e1,e2,n,e3⟩,_⟩:=I.tuple hq
   cases rv with
   |@cons _ key _ _ rk rr=>
   cases rr with
   |@cons _ x _ _ rx rr=>
   cases rr
   refine⟨(p.1,x)::vs,.cons ⟨rfl,rx⟩ h1,fun j t' p' f1 f2=>?_⟩
   cases j with
   |zero=>
    simp at f1 f2
    subst f1;subst f2
    exact⟨o,key,n,e1,e2,e3,o4 rk⟩
   |succ j=>exact h2 j t' p' (by simpa using f1) (by simpa using f2)
 obtain⟨vs,hkv,hpa⟩:=go kvs ts hp
 have hvl:kvs.length=vs.length:=Mr hkv
 have ek:vs.map (·.1)=kvs.map (·.1):=by
  clear hpa hvl go hp q nd hn hl' hl
  induction hkv with
  |nil=>rfl
  |cons h _ ih=>rw[MQ,MQ,ih,h.1]
 refine sD (knd:=aS X.prog X.w) (I.ok.hd hc) ⟨m,hg⟩ (by omega) hpa (by rw[ek];exact nd) (by omega) fun h' tk k' dd=>?_
 refine⟨.ref s.heap.objs.size,_,I.laid (t':=tk) (a:=s.heap.objs.size) (o:=.dK kvs) k' (L0 _) (qI (Ma hn (by decide)) (beq_eq_false_iff_ne.mpr (Mm (Ms I.big))) hkv dd),rfl,q _ (I.hok.fresh (L0 _))⟩
end
section
variable {X:Cx}{pins pins0:List (LL×LS)}{σ σ0:List (Option V)}{H H0:Hp}{s s0:LN}{d:LL}{u u' u0:HO}{o:LS}
theorem Inv.retag(I:Inv X pins σ H s)(hd:H d=some u)(h1:∀a,u≠.own a)(h2:∀xs,u≠.tup xs)(b1:∀xs,X.H₀ d≠some (.tup xs))(b2:∀o v,X.H₀ d≠some (.frz o v))(b3:∀ps,X.H₀ d≠some (.tbl ps))
  (new:cF X.prog X.w (upd H d u') s.heap d u'):Inv X pins σ (upd H d u') s:=by
 have ne:∀{b:LL},H b=none->b≠d:=fun h z=>by rw[z,hd]at h;cases h
 refine⟨I.ok,I.os,I.bare,⟨I.base.keep,I.base.slot,fun b ob q n hx=>?_,I.base.there,fun b xs q=>?_,fun b ob w q=>?_,fun b ps q=>?_⟩,I.loc,I.cell,?_,fun x c e=>?_,fun p hp=>?_,fun b w q=>?_,I.len⟩
 ·have:=I.base.free b ob q n hx
  rw[aq (ne this)];exact this
 ·rw[aq (fun z=>b1 xs (by rw[<-z];exact q))];exact I.base.tups b xs q
 ·rw[aq (fun z=>b2 ob w (by rw[<-z];exact q))];exact I.base.frzs b ob w q
 ·rw[aq (fun z=>b3 ps (by rw[<-z];exact q))];exact I.base.tbls b ps q
 ·rw[aq (ne I.free)];exact I.free
 ·rw[aq (ne (I.freeC x c e))];exact I.freeC x c e
 ·obtain⟨a1,a2,a3⟩:=I.pin p hp
  exact⟨a1,by rw[aq (ne a2)];exact a2,a3⟩
 ·by_cases hb:b=d
  ·subst hb
   rw[ao]at q
   cases q
   exact new
  ·rw[aq hb]at q
   refine(I.hok b w q).stay (fun c v _ q'=>q') (fun c q'=>?_) fun c xs q'=>?_
   ·rw[aq (fun z=>by rw[z,hd]at q';exact h1 b (MB q'))];exact q'
   ·rw[aq (fun z=>by rw[z,hd]at q';exact h2 xs (MB q'))];exact q'
theorem Inv.base_dK{kvs:List (Key×V)}(I:Inv X pins σ H s)(hd:H d=some (.dK kvs)):(∀xs,X.H₀ d≠some (.tup xs))/\(∀o v,X.H₀ d≠some (.frz o v))/\∀ps,X.H₀ d≠some (.tbl ps):=by
 refine⟨fun xs z=>?_,fun o v z=>?_,fun ps z=>?_⟩
 ·have:=I.base.tups d xs z;rw[hd]at this;cases this
 ·have:=I.base.frzs d o v z;rw[hd]at this;cases this
 ·obtain⟨m,this⟩:=I.base.tbls d ps z;rw[hd]at this;cases this
theorem Inv.freeze{kvs:List (Key×V)}(I:Inv X pins σ H s)(hd:H d=some (.dK kvs))(ho:s.heap.get? d=some o):Inv X pins σ (upd H d (.frz o (.dK kvs))) s:=by
 obtain⟨b1,b2,b3⟩:=I.base_dK hd
 exact I.retag hd (fun a z=>nomatch z) (fun xs z=>nomatch z) b1 b2 b3 ⟨ho,(show cF X.prog X.w H s.heap d (.dK kvs)from I.hok d _ hd)⟩
theorem Inv.thaw{kvs kvs0:List (Key×V)}(I0:Inv X pins0 σ0 H0 s0)(h0:H0 d=some (.dK kvs0))(I:Inv X pins σ H s)(hd:H d=some (.frz o (.dK kvs))):Inv X pins σ (upd H d (.dK kvs)) s:=by
 obtain⟨b1,b2,b3⟩:=I0.base_dK h0
 exact I.retag hd (fun a z=>nomatch z) (fun xs z=>nomatch z) b1 b2 b3 (show cF X.prog X.w H s.heap d (.frz o (.dK kvs))from I.hok d _ hd).2
end
noncomputable def K0(d:LL)(o:LS)(kvs:List (Key×V)):It:=
 ⟨fun i H=>H d=some (.frz o (.dK kvs))/\i<kvs.length,fun i H x H'=>∃T p,x=.ref T/\H T=none/\kvs[i]?=some p/\H'=upd H T (.tup [kV p.1,p.2]),fun i H=>H d=some (.frz o (.dK kvs))/\kvs.length<=i⟩
theorem jy{X:Cx}{pins:List (LL×LS)}{σ:List (Option V)}{H:Hp}{s:LN}{d:LL}{o:LS}{kvs:List (Key×V)}{es:Array NN}{ep:Nat}(I:Inv X pins σ H s)(hd:H d=some (.frz o (.dK kvs)))(ho:o.data=.dict es ep):
  ∃vs,KV kvs vs/\s.heap.DictAt (aS X.prog X.w) d vs ep:=by
 obtain⟨hg,_,_,vs,rel,o',es',ep',h1,h2,h3,h4⟩:=(show cF X.prog X.w H s.heap d (.frz o (.dK kvs))from I.hok d _ hd)
 rw[hg]at h1
 cases h1
 rw[ho]at h3
 cases h3
 exact⟨vs,rel,o,es,hg,h2,ho,h4⟩
theorem Bx{P:L5}{w:LZ}{K:LO}{elts:List LU}{x1}{pos:L8}(d it:LL)(o:LS)(es:Array NN)(ep:Nat)(ho:o.data=.dict es ep)(kvs:List (Key×V))(hne:d≠it):
  Turn P w K (.Tuple elts x1 pos) (K0 d o kvs) [it] it (fun i h=>∃ok ov,IsItemIter h it d i kvs.length ep ok ov) where
 mem:=by simp
 obj:=fun i h st b hb=>by
  obtain⟨ok,ov,he⟩:=st
  have z:b=it:=by simpa using hb
  subst z
  exact⟨_,he,fun v z=>by
   have z':Pz _=OY v:=z
   cases z'⟩
 keep:=fun i h h' st k=>by
  obtain⟨ok,ov,he⟩:=st
  exact⟨ok,ov,k it (by simp) _ he⟩
 item:=by
  intro X hP hw hK hc i pins s σ H E I hf st hg
  subst hP hw hK
  obtain⟨ok,ov,he⟩:=st
  obtain⟨hd,hi⟩:=hg
  obtain⟨vs,rel,hat⟩:=jy I hd ho
  have hlen:kvs.length=vs.length:=Mr rel
  obtain⟨g0,g1,g2,g3,g4,g5⟩:=hf it (by simp)
  have fT:H s.heap.objs.size=none:=I.fresh
  have hvi:vs[i]?=some vs[i]:=Mg (by omega)
  obtain⟨p,hp1,hp2,hp3⟩:=jT rel i _ hvi
  rw[hlen]at he
  refine wpAny_pyNext_items_item (k:=(vs[i]).1) (v:=(vs[i]).2) he hat hvi fun key h' hkey heo ht hsz hk=>⟨_,rfl,?_⟩
  refine wpAny_letOwnedTupleGo_items heo fun h2 he2 hs2=>?_
  have hs2:NM it h' h2:=hs2
  have heT:it≠s.heap.objs.size:=Ms (Mi he)
  have oldK:∀b o,b≠it->s.heap.get? b=some o->h2.get? b=some o:=fun b o h1 q=>hs2.extBut b o h1 (hk b o h1 q)
  have hT2:h2.get? s.heap.objs.size=some {cls:=.type "tuple",data:=.seq #[key,(vs[i]).2]}:=hs2.extBut _ _ (Mm heT) ht
  have neT:∀b o,s.heap.get? b=some o->b≠s.heap.objs.size:=fun b o q=>Ms (Mi q)
  have nH:∀b w',H b=some w'->b≠it:=fun b w' q z=>by rw[z,g0]at q;cases q
  have I2:Inv X pins σ (upd H s.heap.objs.size (.tup [kV p.1,p.2])) {s with heap:=h2,toks:=s.toks}:=by
   refine I.step (g':=s.gens) (d':=s.drawn) (t':=s.toks) (ch:=[it]) (fun b hb=>?_) (fun b o _ _ hb q _=>?_) (fun b o _ _ hb q _=>?_) (fun b o _ q n=>?_) (fun b o hb q=>?_)
    (fun b ys q=>?_) (fun b o w' q=>?_) (fun b ps q=>?_) (fun m hm=>?_) (fun b w' q=>?_) I.bare
   ·have z:b=it:=by simpa using hb
    subst z;exact⟨g3,g1,g4,g5⟩
   ·exact oldK b o (fun z=>hb (by simp[z])) q
   ·exact⟨o.slots,oldK b o (fun z=>hb (by simp[z])) q⟩
   ·rw[aq (neT b o q)];exact n
   ·exact⟨o,oldK b o (fun z=>hb (by simp[z])) q⟩
   ·rw[aq (aZ q fT)];exact q
   ·rw[aq (aZ q fT)];exact q
   ·exact⟨#[],by rw[aq (aZ q fT),q];simp⟩
   ·obtain⟨o,es,ep,ho,r⟩:=hm
    exact⟨o,es,ep,oldK _ o (Mm g1) ho,r⟩
   ·by_cases hb:b=s.heap.objs.size
    ·subst hb
     rw[ao]at q
     cases q
     exact⟨by show 2<=LW;decide,[key,(vs[i]).2],.cons (by rw[hp2];exact qh hkey) (.cons hp3 .nil),_,hT2,rfl,_,rfl⟩
    ·rw[aq hb]at q
     refine(I.hok b w' q).stay (fun c v hc q'=>oldK c v ?_ q') (fun c q'=>?_) fun c ys q'=>?_
     ·rcases hc with z|z
      ·rw[z];exact nH b w' q
      ·exact nH c _ z
     ·rw[aq (aZ q' fT)];exact q'
     ·rw[aq (aZ q' fT)];exact q'
  refine⟨.ref s.heap.objs.size,_,I2,rfl,⟨s.heap.objs.size,p,rfl,fT,hp1,rfl⟩,⟨key,(vs[i]).2,?_⟩,fun b hb=>?_⟩
  ·rw[hlen];exact he2
  ·have z:b=it:=by simpa using hb
   rw[z,aq heT];exact g0
 done:=by
  intro X hP hw hK hc i pins s σ H E I hf st hg
  subst hP hw hK
  obtain⟨ok,ov,he⟩:=st
  obtain⟨hd,hi⟩:=hg
  obtain⟨vs,rel,hat⟩:=jy I hd ho
  have hlen:kvs.length=vs.length:=Mr rel
  obtain⟨g0,g1,g2,g3,g4,g5⟩:=hf it (by simp)
  rw[hlen]at he
  refine wpAny_pyNext_items_end (I.ok.hd hc) he hat (NR (by omega)) fun h' eb=>⟨rfl,I.turned (t':=s.toks) (fun b o hb e'=>eb b o hb e') g0 g1 g3 g4 g5⟩
 self:=fun A i s Q E st h=>by
  obtain⟨ok,ov,he⟩:=st
  have hT:s.TypeIs (.ref it) "dict_itemiterator":=⟨_,he,rfl⟩
  refine wpAny_pyIter_slot hT SY (O7 SY hT kcp_entry ?_ (Vn _))
  show LP _ _ (ret (.ref it)) _ _ s
  exact Mc ⟨_,rfl,"dict_itemiterator",_,hT,Vh.lookup,h⟩
section
variable {X:Cx}
noncomputable def sX(td:TE):TI:=fun σ H R=>td σ H fun x H1=>∃(d:LL)(kvs:List (Key×V)),x=.ref d/\H1 d=some (.dK kvs)/\∀(o:LS)(v:LL),H1 v=none->v≠d->R (K0 d o kvs) (upd (upd H1 v (mE v d)) d (.frz o (.dK kvs)))
theorem AQ{e:LU}{td:TE}{elts:List LU}{x1}{apos cpos pt:L8}(he:PE X e td)
  (hbase:OU e "items" X.env (eval e X.env)=eval e X.env:=by rfl) (hline:(apos.endLine==cpos.line)=true:=by rfl):
  PI X (.Tuple elts x1 pt) (.Call (.Attribute e "items" apos) [] [] cpos) (sX td):=by
 intro pins s σ H R I h
 refine wpAny_Call_method0_late hbase hline (ck (he pins s σ H _ I h) fun v s1 ⟨x,H1,I1,r1,d,kvs,ex,hd,q1⟩=>?_)
 subst ex
 cases(show v=Mj d from r1)
 obtain⟨z,hdS,vs,rel,dd⟩:=fu I1.hok (.inl hd)
 have hlen:kvs.length=vs.length:=Mr rel
 have h2:∀a,Mj d=.ref a->∃ob,s1.heap.get? a=some ob/\ob.dict=none:=fun a e=>by
  cases e
  obtain⟨o,_,_,ho,hex,_⟩:=id dd
  exact⟨o,ho,hex.2.1⟩
 refine⟨"dict","dict.items",PH,PY,TY,dd.typeIs,h2,Py rfl (Q8 ?_)⟩
 refine Pg PY dd.typeIs RY (S5 _) (meets_dict_items (aS X.prog X.w) d hdS) ⟨⟨vs,dd⟩,?_⟩
 have fV:H1 s1.heap.objs.size=none:=I1.hok.fresh (L0 _)
 have hdlt:d<s1.heap.objs.size:=I1.hok.lt hd
 have IV:Inv X pins σ (upd H1 s1.heap.objs.size (mE s1.heap.objs.size d)) {s1 with heap:=s1.heap.push {cls:=.type "dict_items",data:=.fields #[.ref d]},toks:=s1.toks}:=
  I1.laid (t':=s1.toks) (fun b u e=>Mq _ e) (L0 _) ⟨⟨_,Mu _ rfl,rfl,rfl⟩,⟨_,Mu _ rfl⟩,fun h1 h2 x k=>by
   obtain⟨o,ho,r⟩:=x
   exact⟨o,k o ho,r⟩⟩
 have hd':upd H1 s1.heap.objs.size (mE s1.heap.objs.size d) d=some (.dK kvs):=by rw[aq (Ms hdlt)];exact hd
 obtain⟨o,es,ep,ho,hex,hdat,r⟩:=id dd
 have ho1:(s1.heap.push {cls:=.type "dict_items",data:=.fields #[.ref d]}).get? d=some o:=Mq _ ho
 have IF:=IV.freeze hd' ho1
 have hat:(s1.heap.push {cls:=.type "dict_items",data:=.fields #[.ref d]}).DictAt (aS X.prog X.w) d vs ep:=⟨o,es,ho1,hex,hdat,r⟩
 show LP _ _ (pyIter (.ref s1.heap.objs.size)) _ _ _
 refine wpAny_pyIter_items (knd:=aS X.prog X.w) (d:=d) ⟨_,Mu _ rfl,rfl,rfl⟩ hat ?_
 have hsz:s1.heap.objs.size<(s1.heap.push {cls:=.type "dict_items",data:=.fields #[.ref d]}).objs.size:=by rw[Nl];exact P6 _
 refine⟨_,[_],_,K0 d o kvs,_,rfl,IF.kept (t':=s1.toks) (fun b u e=>Mq _ e),Bx d _ o es ep hdat kvs (Ms (PZ hdlt hsz)),⟨.none,.none,?_⟩,fun b hb=>?_,q1 o _ fV (Nh hdlt)⟩
 ·rw[hlen]
  exact Mu _ rfl
 ·have zb:b=(s1.heap.push {cls:=.type "dict_items",data:=.fields #[.ref d]}).objs.size:=by simpa using hb
  subst zb
  exact IF.fpOk (L0 _) (IF.hok.fresh (L0 _))
noncomputable def gM(te:TE):TE:=fun σ H Q=>∃(d:LL)(kvs0:List (Key×V)),H d=some (.dK kvs0)/\te σ H fun v H'=>∃o kvs,H' d=some (.frz o (.dK kvs))/\Q v (upd H' d (.dK kvs))
theorem sL{e:LU}{te:TE}(he:PE X e te):PE X e (gM te):=by
 intro pins s σ H Q I h
 obtain⟨d,kvs0,hd,q⟩:=h
 refine ck (he pins s σ H _ I q) fun v s1 ⟨x,H1,I1,r1,o,kvs,hf,q1⟩=>?_
 exact⟨x,_,Inv.thaw I hd I1 hf,r1,q1⟩
end
section
variable {X:Cx}
noncomputable def Ku(t:TE):TT:=fun σ H Q=>t σ H fun x H1=>∃a kvs,x=.ref a/\H1 a=some (.dK kvs)/\Q (!kvs.isEmpty) H1
theorem A4{e:LU}{t:TE}(h:PE X e t)(he:∀whole,isTrue e X.env whole=(do let v <-whole;standAt e.pos;holding [v] (truthy v)):=by intro _;rfl):PT X e (Ku t):=by
 intro pins s σ H Q I hw
 refine isTrue_plain (ck (h pins s σ H _ I hw) fun v s1 ⟨x,H1,I1,r1,q1⟩=>?_) (he _)
 obtain⟨a,kvs,rfl,hd,q⟩:=q1
 cases r1
 exact G2 I1 (.inl hd) fun s' I'=>⟨H1,I',q⟩
noncomputable def uc:List V->Hp->VK->Prop:=fun xs H Q=>∃a kvs,xs=[V.ref a]/\H a=some (.dK kvs)/\Q (.int kvs.length) H
theorem iT:eu X (.builtin "len") uc:=D6
end
section
variable {K:LO}{σ:St}{H:Hp}{Q:VK}{D:Ends}{R:Hp->Prop}{ta td ty tv:TE}{t:TA}{f m n:LK}{sp:Sp}{E:XK}{C c d dx:LL}{fs:List (LK×V)}{v y:V}{kvs:List (Key×V)}
noncomputable def KQ(K:LO)(f:LK)(Q:VK):VK:=fun x H1=>∃a C dx fs v,x=.ref a/\H1 a=some (.ins C dx fs)/\jb K C/\c7 K C f/\fs.lookup f=some v/\Q v H1
theorem Kk(h:ta σ H (KQ K f Q)):cZ K ta f σ H Q:=h
theorem b7(h:H c=some (.ins C dx fs))(cl:jb K C)(na:c7 K C f)(l:fs.lookup f=some v)(q:Q v H):KQ K f Q (.ref c) H:=⟨c,C,dx,fs,v,rfl,h,cl,na,l,q⟩
noncomputable def Ke(K:LO)(f:LK)(y:V)(R:Hp->Prop):VK:=fun x H2=>∃a C dx fs,x=.ref a/\H2 a=some (.ins C dx fs)/\jb K C/\c7 K C f/\fs.length<1000/\R (upd H2 a (.ins C dx (bZ f y fs)))
theorem IA(h:tv σ H fun y H1=>ta σ H1 (Ke K f y (D.nx σ))):qG K ta tv f D σ H:=h
theorem lg(h:H c=some (.ins C dx fs))(cl:jb K C)(na:c7 K C f)(l:fs.length<1000)(q:R (upd H c (.ins C dx (bZ f y fs)))):Ke K f y R (.ref c) H:=⟨c,C,dx,fs,rfl,h,cl,na,l,q⟩
noncomputable def Kv(K:LO)(f:LK)(tv:TE)(rd:V->V->Hp->VK->Prop)(σ:St)(R:Hp->Prop):VK:=fun x H1=>∃a C dx fs v,x=.ref a/\H1 a=some (.ins C dx fs)/\jb K C/\c7 K C f/\fs.lookup f=some v/\
 tv σ H1 fun y H2=>rd v y H2 fun z H3=>∃dx' fs',H3 a=some (.ins C dx' fs')/\fs'.length<1000/\R (upd H3 a (.ins C dx' (bZ f z fs')))
theorem JF{rd:V->V->Hp->VK->Prop}(h:ta σ H (Kv K f tv rd σ (D.nx σ))):i0 K ta tv rd f D σ H:=h
theorem wX{rd:V->V->Hp->VK->Prop}(h:H c=some (.ins C dx fs))(cl:jb K C)(na:c7 K C f)(l:fs.lookup f=some v)
  (q:tv σ H fun y H2=>rd v y H2 fun z H3=>∃dx' fs',H3 c=some (.ins C dx' fs')/\fs'.length<1000/\R (upd H3 c (.ins C dx' (bZ f z fs')))):Kv K f tv rd σ R (.ref c) H:=⟨c,C,dx,fs,v,rfl,h,cl,na,l,q⟩
noncomputable def GK(C:LL)(m:LK)(sp:Sp)(E:XK)(t:TA)(σ:St)(Q:VK):VK:=fun x H1=>∃a dx fs,x=.ref a/\H1 a=some (.ins C dx fs)/\fs.lookup m=none/\t σ H1 fun vs H2=>sp (x::vs) H2 Q E
theorem JM(h:ta σ H (GK C m sp E t σ Q)):b9 C m sp [] E ta t σ H Q:=by
 have e:(fun x H1=>∃a dx fs,x=V.ref a/\H1 a=some (HO.ins C dx fs)/\fs.lookup m=none/\t σ H1 fun vs H2=>sp (x::(vs++[])) H2 Q E)=GK C m sp E t σ Q:=by
  unfold GK
  simp only[O8]
 show ta σ H (fun x H1=>∃a dx fs,x=V.ref a/\H1 a=some (HO.ins C dx fs)/\fs.lookup m=none/\t σ H1 fun vs H2=>sp (x::(vs++[])) H2 Q E)
 rw[e]
 exact h
theorem bW(h:H c=some (.ins C dx fs))(l:fs.lookup m=none)(q:t σ H fun vs H2=>sp (.ref c::vs) H2 Q E):GK C m sp E t σ Q (.ref c) H:=⟨c,dx,fs,rfl,h,l,q⟩
theorem Jh(h:∀x dx,H x=none->H dx=none->dx≠x->sp [.ref x] (upd (upd H dx (.own x)) x (.ins C dx [])) (fun v H2=>v=.non/\Q (.ref x) H2) E):CB C sp [] E ay σ H Q:=h
noncomputable def LD(Q:VK)(x y:V)(H:Hp):Prop:=∃a v,x=.ref a/\oo H a y (some v)/\Q v H
theorem Jv(h:td σ H fun x H1=>ty σ H1 fun y H2=>LD Q x y H2):mo td ty σ H Q:=h
theorem kA(h:H d=some (.dK kvs))(l:fM kvs (.inr n)=some v)(q:Q v H):LD Q (.ref d) (.str n) H:=⟨d,v,rfl,by rw[<-l];exact oo.k (k:=.inr n) h,q⟩
noncomputable def LH(v:V)(R:Hp->Prop)(x y:V)(H:Hp):Prop:=∃a H4,x=.ref a/\DU H a y v H4/\R H4
theorem IH(h:tv σ H fun v H1=>td σ H1 fun x H2=>ty σ H2 fun y H3=>LH v (D.nx σ) x y H3):nW td ty tv D σ H:=h
theorem lD(h:H d=some (.dK kvs))(l:kvs.length<LW)(q:R (upd H d (.dK (putK kvs (.inr n) v)))):LH v R (.ref d) (.str n) H:=⟨d,_,rfl,DU.k (k:=.inr n) h l,q⟩
noncomputable def Jn(Q:VK)(neg:Bool)(y x:V)(H:Hp):Prop:=∃a o,x=.ref a/\oo H a y o/\Q (.bl (o.isSome != neg)) H
theorem Kz(h:ty σ H fun y H1=>td σ H1 fun x H2=>Jn Q false y x H2):Js ty td σ H Q:=by
 have e:(fun y H1=>td σ H1 fun x H2=>Jn Q false y x H2)=fun y H1=>td σ H1 fun x H2=>∃a o,x=.ref a/\oo H2 a y o/\Q (.bl o.isSome) H2:=by
  unfold Jn
  simp only[OW]
 rw[e]at h
 exact h
theorem Ib(h:ty σ H fun y H1=>td σ H1 fun x H2=>Jn Q true y x H2):sM ty td σ H Q:=by
 have e:(fun y H1=>td σ H1 fun x H2=>Jn Q true y x H2)=fun y H1=>td σ H1 fun x H2=>∃a o,x=.ref a/\oo H2 a y o/\Q (.bl (!o.isSome)) H2:=by
  unfold Jn
  simp only[PU]
 rw[e]at h
 exact h
theorem Co{neg:Bool}(h:H d=some (.dK kvs))(q:Q (.bl ((fM kvs (.inr n)).isSome != neg)) H):Jn Q neg (.str n) (.ref d) H:=⟨d,_,rfl,oo.k (k:=.inr n) h,q⟩
noncomputable def Ld(ty:TE)(σ:St)(Q:VK):VK:=fun x H1=>∃a,x=.ref a/\LC H1 a/\ty σ H1 fun y H2=>∃kvs k v,H2 a=some (.dK kvs)/\y=kV k/\fM kvs k=some v/\Q v (upd H2 a (.dK (px kvs k)))
theorem Kw(h:td σ H (Ld ty σ Q)):yU td ty σ H Q:=h
theorem Ks{R:Bool->Hp->Prop}(h:td σ H fun x H1=>∃a kvs,x=.ref a/\H1 a=some (.dK kvs)/\R (!kvs.isEmpty) H1):Ku td σ H R:=h
theorem u9(h:H d=some (.dK kvs))(q:Q (.int kvs.length) H):uc [.ref d] H Q:=⟨d,kvs,rfl,h,q⟩
theorem Gu(h:H d=some (.dK kvs))(q:∀v H1,H v=none->av H H1->H1 v=some (mE v d)->Q (.ref v) H1):Hi K "dict" (.ref d) H/\BF (.ref d) [] H Q:=
 ⟨.inr (.inr (.inl ⟨rfl,.inl ⟨kvs,h⟩⟩)),d,kvs,rfl,rfl,h,fun v hv=>q v _ hv (av.updN hv) ao⟩
theorem EJ(h:∀p H1,H p=none->av H H1->H1 p=some (.dK [])->Q (.ref p) H1):yb σ H Q:=fun p hp=>h p _ hp (av.updN hp) ao
end
theorem eU{α β γ:Type}{F:β->γ->Prop}{f:α->β}:∀{xs:List α}{ys:List γ},L7 (fun x y=>F (f x) y) xs ys->L7 F (xs.map f) ys
 |_,_,.nil=>.nil
 |_,_,.cons h t=>.cons h (eU t)
theorem dI{α β:Type}{F:α->β->Prop}:∀{l₁:List α}{l₂:List β}{i:Nat}{a:α},L7 F l₁ l₂->l₁[i]?=some a->∃b,l₂[i]?=some b/\F a b
 |_,_,_,_,.nil,e=>by simp at e
 |_,_,0,_,.cons r _,e=>by simp at e;subst e;exact⟨_,rfl,r⟩
 |_,_,i+1,x,.cons _ t,e=>by
  obtain⟨u,h1,h2⟩:=dI (i:=i) (a:=x) t (by simpa using e)
  exact⟨u,by simpa using h1,h2⟩
section
variable {mp:List (Option Nat)}{g:TG}{tt:TT}{te:TE}{J:It}{P:Hp->Prop}{n:Nat}{f:Nat->St->St}{σ:St}{H:Hp}{Q:VK}
theorem lW(Y:Ys J g P n f)(st:Nat->St)(hf:∀i σ',(σ'=cK mp σ\/∃j,σ'=st j)->f i σ'=st i)(hP:∀H',av H H'->P H')(hz:n<=LW)(b:Nat->Bool)(row:Nat->List V)
  (ht:∀i,i<n->∀(H':Hp)(G:Bool->Hp->Prop),av H H'->(∀H'',av H' H''->G (b i) H'')->tt (st i) H' G)
  (he:∀i,i<n->b i=true->∀(H':Hp)(G:VK),av H H'->(∀a H'',H' a=none->av H' H''->H'' a=some (.tup (row i))->G (.ref a) H'')->te (st i) H' G)
  (hd:∀l bs H',H l=none->av H H'->H' l=some (.lst (bs.map V.ref))->L7 (fun i a=>H' a=some (.tup (row i))) ((Me n).filter b) bs->Q (.ref l) H'):cO mp g tt te J σ H Q:=by
 refine d6 Y st hf hP hz b (fun l i v H'=>∃a,v=.ref a/\a≠l/\H' a=some (.tup (row i))) (fun l i v H1 H2 s ⟨a,e,hl,h1⟩=>⟨a,e,hl,s a _ hl h1⟩) ht
  (fun l i hi hb H' G hl ⟨o,ho⟩ s k=>he i hi hb H' G s fun a H'' h0 s' h1=>k _ H'' ⟨a,rfl,(fun e=>by rw[e,ho]at h0;cases h0),h1⟩ s') fun l ys H' h0 s h1 pr=>?_
 obtain⟨bs,rfl,pr'⟩:=i7 (T:=fun a i=>a≠l/\H' a=some (.tup (row i))) pr
 exact hd l bs H' h0 s h1 (Paired.mapP pr' fun _ _ q=>q.2)
end
theorem zh{K:LO}{d:LL}{o:LS}{kvs:List (Key×V)}(p r:Nat)(u v:Nat->V)(hu:∀i q,kvs[i]?=some q->kV q.1=u i/\q.2=v i):
  Ys (K0 d o kvs) (fK K 2 (bq (au p) (bq (au r) fN))) (fun H=>H d=some (.frz o (.dK kvs))) kvs.length (fun i σ=>(σ.set p (some (u i))).set r (some (v i))) where
 go:=fun i H hi h=>⟨h,hi⟩
 stop:=fun H h=>⟨h,L0 _⟩
 yld:=fun i H x H' σ Q hi h y q=>by
  obtain⟨T,w,rfl,hT,hw,rfl⟩:=y
  obtain⟨e1,e2⟩:=hu i w hw
  exists T,_,rfl,gf.of ao,rfl,_,_,rfl,_,_,rfl,rfl
  have:=q _ (av.updN hT (o:=.tup [kV w.1,w.2]))
  rw[<-e1,<-e2]at this
  exact this
section
variable {K:LO}{mp:List (Option Nat)}{te td:TE}{σ:St}{H:Hp}{Q:VK}{d:LL}{kvs:List (Key×V)}
theorem BS(htd:∀k:VK,k (.ref d) H->td σ H k)(hd:H d=some (.dK kvs))(hz:kvs.length<=LW)(u v:Nat->V)(hu:∀i q,kvs[i]?=some q->kV q.1=u i/\q.2=v i)
  (st:Nat->St) (hf:∀i σ',(σ'=cK mp σ\/∃j,σ'=st j)->(σ'.set 0 (some (u i))).set 1 (some (v i))=st i) (row:Nat->List V)
  (he:∀i,i<kvs.length->∀(H':Hp)(G:VK),(∀a H'',H' a=none->av H' H''->H'' a=some (.tup (row i))->G (.ref a) H'')->te (st i) H' G)
  (hq:∀l bs H2,H l=none->av H H2->H2 l=some (.lst (bs.map V.ref))->L7 (fun i a=>H2 a=some (.tup (row i))) (Me kvs.length) bs->Q (.ref l) H2):
  gM (bL mp (sX td) (fK K 2 (bq (au 0) (bq (au 1) fN))) cY te) σ H Q:=by
 exists d,kvs,hd
 refine lu ?_
 refine htd _ ⟨d,kvs,rfl,hd,fun o w hw hne=>?_⟩
 have hl0:∀a,upd (upd H w (mE w d)) d (.frz o (.dK kvs)) a=none->H a=none:=fun a ha=>by
  by_cases h1:a=d
  ·subst h1;rw[ao]at ha;cases ha
  ·rw[aq h1]at ha
   by_cases h2:a=w
   ·subst h2;exact hw
   ·rwa [aq h2]at ha
 refine lW (zh 0 1 u v hu) st hf (fun H' s=>s _ _ ao) hz (fun _=>true) row (fun i hi H' G s k=>k H' (av.refl _)) (fun i hi _ H' G _ k=>he i hi H' G k) fun l bs H' h0 s h1 pr=>?_
 rw[Nu.mpr (fun _ _=>rfl)]at pr
 have hfd:H' d=some (.frz o (.dK kvs)):=s _ _ ao
 have hld:l≠d:=fun e=>by rw[e,ao]at h0;cases h0
 refine⟨o,kvs,hfd,hq l bs _ (hl0 l h0) (fun a x ha=>?_) (by rw[aq hld];exact h1) (Paired.mapP pr fun i a q=>?_)⟩
 ·by_cases h1:a=d
  ·subst h1
   rw[ao,<-hd];exact ha
  ·rw[aq h1]
   have hw2:a≠w:=fun e=>by rw[e,hw]at ha;cases ha
   exact s _ _ (by rw[aq h1,aq hw2];exact ha)
 ·rw[aq (fun e=>by rw[e,hfd]at q;cases q)];exact q
end
noncomputable def KN(d:LL)(o:LS)(kvs:List (Key×V)):It:=
 ⟨fun i H=>H d=some (.frz o (.dK kvs))/\i<kvs.length,fun i H x H'=>H'=H/\∃p,kvs[i]?=some p/\x=kV p.1,fun i H=>H d=some (.frz o (.dK kvs))/\kvs.length<=i⟩
theorem Em{P:L5}{w:LZ}{K:LO}{tg:LU}(d it:LL)(o:LS)(es:Array NN)(ep:Nat)(ho:o.data=.dict es ep)(kvs:List (Key×V)):
  Turn P w K tg (KN d o kvs) [it] it (fun i h=>h.IsKeyIter it d i kvs.length ep) where
 mem:=by simp
 obj:=fun i h st b hb=>by
  have z:b=it:=by simpa using hb
  subst z
  obtain⟨io,e,c,dt⟩:=st
  exact⟨io,e,fun v z=>by rw[dt]at z;cases z⟩
 keep:=fun i h h' st k=>by
  obtain⟨io,e,r⟩:=st
  exact⟨io,k it (by simp) io e,r⟩
 item:=by
  intro X hP hw hK hc i pins s σ H E I hf st hg
  subst hP hw hK
  obtain⟨hd,hi⟩:=hg
  obtain⟨vs,rel,hat⟩:=jy I hd ho
  have hlen:kvs.length=vs.length:=Mr rel
  obtain⟨f0,f1,f2,f3,f4,f5⟩:=hf it (by simp)
  have hvi:vs[i]?=some vs[i]:=Mg (by omega)
  obtain⟨p,hp1,hp2,hp3⟩:=jT rel i _ hvi
  have st':s.heap.IsKeyIter it d i vs.length ep:=by rw[<-hlen];exact st
  refine wpAny_pyNext_dict_item (knd:=aS X.prog X.w) (k:=(vs[i]).1) (v:=(vs[i]).2) st' hat hvi fun key h' hkey hit' sb=>?_
  have I1:Inv X pins σ H {s with heap:=h',toks:=s.toks}:=I.turned (t':=s.toks) (fun b o hb e=>(sb.2 b hb).trans e) f0 f1 f3 f4 f5
  obtain⟨io,e,c,dt⟩:=id hit'
  refine⟨_,rfl,zy (s:={s with heap:=h'}) e c dt (by decide) ⟨kV p.1,H,I1,by rw[hp2];exact qh hkey,⟨rfl,p,hp1,rfl⟩,by rw[hlen];exact hit',fun b hb=>(hf b hb).1⟩⟩
 done:=by
  intro X hP hw hK hc i pins s σ H E I hf st hg
  subst hP hw hK
  obtain⟨hd,hi⟩:=hg
  obtain⟨vs,rel,hat⟩:=jy I hd ho
  have hlen:kvs.length=vs.length:=Mr rel
  obtain⟨f0,f1,f2,f3,f4,f5⟩:=hf it (by simp)
  have st':s.heap.IsKeyIter it d i vs.length ep:=by rw[<-hlen];exact st
  exact wpAny_pyNext_dict_end (knd:=aS X.prog X.w) (I.ok.hd hc) st' hat (NR (by omega)) fun h' eb=>⟨rfl,I.turned (t':=s.toks) (fun b o hb e'=>eb b o hb e') f0 f1 f3 f4 f5⟩
 self:=fun _ _ _ _ _ st h=>wpAny_pyIter_keyiter st h
section
variable {X:Cx}{tg:LU}
noncomputable def Ay(td:TE):TI:=fun σ H R=>td σ H fun x H1=>∃(d:LL)(kvs:List (Key×V)),x=.ref d/\H1 d=some (.dK kvs)/\∀(o:LS),R (KN d o kvs) (upd H1 d (.frz o (.dK kvs)))
theorem CT{l:LU}{tl:TE}(hl:PE X l tl):PI X tg l (Ay tl):=by
 intro pins s σ H R I h
 refine ck (hl pins s σ H _ I h) fun v s1 ⟨x,H1,I1,r1,d,kvs,ex,hd,q1⟩=>?_
 subst ex
 cases(show v=Mj d from r1)
 obtain⟨z,hdS,vs,rel,dd⟩:=fu I1.hok (.inl hd)
 have hlen:kvs.length=vs.length:=Mr rel
 obtain⟨o,es,ep,ho,hex,hdat,r⟩:=id dd
 have IF:=I1.freeze hd ho
 have hat:s1.heap.DictAt (aS X.prog X.w) d vs ep:=⟨o,es,ho,hex,hdat,r⟩
 refine Pp (knd:=aS X.prog X.w) hdS hat ?_
 refine⟨_,[_],_,KN d o kvs,_,rfl,IF.kept (t':=s1.toks) (fun b u e=>Mq _ e),Em d _ o es ep hdat kvs,⟨_,Mu _ rfl,rfl,by rw[hlen];rfl⟩,fun b hb=>?_,q1 o⟩
 have zb:b=s1.heap.objs.size:=by simpa using hb
 subst zb
 exact IF.fpOk (L0 _) (IF.hok.fresh (L0 _))
end
theorem Cc{d:LL}{o:LS}{kvs:List (Key×V)}(p:Nat)(u:Nat->V)(hu:∀i q,kvs[i]?=some q->kV q.1=u i):
  Ys (KN d o kvs) (au p) (fun H=>H d=some (.frz o (.dK kvs))) kvs.length (fun i σ=>σ.set p (some (u i))) where
 go:=fun i H hi h=>⟨h,hi⟩
 stop:=fun H h=>⟨h,L0 _⟩
 yld:=fun i H x H' σ Q hi h y q=>by
  obtain⟨e,w,hw,ex⟩:=y
  subst e ex
  rw[hu i w hw]
  exact q _ (av.refl _)
section
variable {K:LO}{mp:List (Option Nat)}{tt:TT}{te td:TE}{σ:St}{H:Hp}{Q:VK}{d:LL}{kvs:List (Key×V)}
theorem Dg(htd:∀k:VK,k (.ref d) H->td σ H k)(hd:H d=some (.dK kvs))(hz:kvs.length<=LW)(u:Nat->V)(hu:∀i q,kvs[i]?=some q->kV q.1=u i)
  (st:Nat->St) (hf:∀i σ',(σ'=cK mp σ\/∃j,σ'=st j)->σ'.set 0 (some (u i))=st i) (b:Nat->Bool) (F:Nat->V)
  (ht:∀i,i<kvs.length->∀(H':Hp)(G:Bool->Hp->Prop),eB d H H'->(∀H'',av H' H''->G (b i) H'')->tt (st i) H' G)
  (he:∀i,i<kvs.length->b i=true->∀(H':Hp)(G:VK),eB d H H'->(∀H'',av H' H''->G (F i) H'')->te (st i) H' G)
  (hq:∀l H2,H l=none->av H H2->H2 l=some (.lst (((Me kvs.length).filter b).map F))->Q (.ref l) H2):
  gM (bL mp (Ay td) (au 0) tt te) σ H Q:=by
 exists d,kvs,hd
 refine lu ?_
 refine htd _ ⟨d,kvs,rfl,hd,fun o=>?_⟩
 have hl0:∀a,upd H d (.frz o (.dK kvs)) a=none->H a=none:=fun a ha=>by
  by_cases h1:a=d
  ·subst h1;rw[ao]at ha;cases ha
  ·rwa [aq h1]at ha
 have hx:∀H',av (upd H d (.frz o (.dK kvs))) H'->eB d H H':=fun H' s a x ha h=>s _ _ (by rw[aq ha];exact h)
 refine eE (Cc 0 u hu) st hf (fun H' s=>s _ _ ao) hz b F (fun i hi H' G s k=>ht i hi H' G (hx H' s) k) (fun i hi hb H' G s k=>he i hi hb H' G (hx H' s) k) fun l H' h0 s h1=>?_
 have hfd:H' d=some (.frz o (.dK kvs)):=s _ _ ao
 have hld:l≠d:=fun e=>by rw[e,ao]at h0;cases h0
 refine⟨o,kvs,hfd,hq l _ (hl0 l h0) (fun a x ha=>?_) (by rw[aq hld];exact h1)⟩
 by_cases h1:a=d
 ·subst h1
  rw[ao,<-hd];exact ha
 ·rw[aq h1]
  exact hx H' s a x h1 ha
end
section
variable {X:Cx}
noncomputable def Ej(K:LO)(neg:Bool):R2:=fun x y H Q=>∃(ds:List Mt)(d:Mt),de K H y (.list ds)/\de K H x d/\cV 8 (.list ds)/\cV 8 d/\Q (.bl ((ds.any fun y=>same y d) != neg)) H
theorem zM{ds:List Mt}{d:Mt}(h1:c0 ds=true)(h2:nice d=true):(ds.any fun y=>PV y d)=ds.any fun y=>same y d:=by
 induction ds with
 |nil=>rfl
 |cons a r ih=>
  rw[c0,ND]at h1
  rw[Od,Od,ih h1.2,SeqAt.same_eq_eqv a d (lE a d h1.1 h2)]
theorem yf{ds:List Mt}(h:cV 8 (.list ds)):c0 ds=true/\QC ds<=8:=by
 obtain⟨h1,h2⟩:=h
 rw[nice]at h1
 rw[OX]at h2
 exact⟨h1,by omega⟩
theorem Fh(hu:X.A.units+64<cLine):gQ X (MG .In) (Ej X.K false):=by
 intro pins s σ H x y u v Q I rx ry h
 obtain⟨ds,d,h1,h2,n1,n2,q⟩:=h
 obtain⟨as,a⟩:=el I h1 ry
 obtain⟨bs,b⟩:=el I h2 rx
 obtain⟨m1,m2⟩:=yf n1
 refine SeqAt.in_list_reads a b (eS ds m1) (mD d n2.1) (by have:=n2.2;omega) ?_
 rw[zM m1 n2.1]
 rw[OW]at q
 exact⟨.bl _,H,I,rfl,q⟩
theorem Gj(hu:X.A.units+64<cLine):gQ X (MG .NotIn) (Ej X.K true):=by
 intro pins s σ H x y u v Q I rx ry h
 obtain⟨ds,d,h1,h2,n1,n2,q⟩:=h
 obtain⟨as,a⟩:=el I h1 ry
 obtain⟨bs,b⟩:=el I h2 rx
 obtain⟨m1,m2⟩:=yf n1
 refine SeqAt.notIn_list_reads a b (eS ds m1) (mD d n2.1) (by have:=n2.2;omega) ?_
 rw[zM m1 n2.1]
 rw[PU]at q
 exact⟨.bl _,H,I,rfl,q⟩
end
end L2
namespace L2
open PySem PySem.Spec PyProof.Rows PySem.W PySem.SeqAt PySem.MeetsSeq
open PySem.AutoSeq1 (wpAny_loadPart')
theorem wx(l:LL)(items:Array LM)(n:Nat)(x:LM)(e:LM->Bool)(j:Nat)(hj:j<items.size)(hit:e items[j]=true)(k:Nat)(hs1:items.size<=LW):
  ∀i:Nat,j-i=k->i<=j->(∀m (hm:m<items.size),i<=m->m<j->e items[m]=false)->Meets (Nf.«list.remove.loop» ⟨[.ref l,x,MN i],[]⟩)
   (fun A R s=>s.heap.get? l=some {cls:=.type "list",dict:=none,data:=.seq items n,slots:=#[]}/\(∀y,y∈items->EqAt A.in1 s y x (e y))/\R (.ok (.ret .none)) {s with heap:=s.heap.update l (OL fun xs=>xs.eraseIdxIfInBounds j)}):=by
 induction k with
 |zero=>
  intro i hk hij hno prog w A R s h
  obtain⟨hp,g,d,tk,os⟩:=s;obtain⟨hl,he,h⟩:=h
  have hij':i=j:=by omega
  subst hij'
  wp_walk using wpAny_loadPart' hl
  have hi:items[((i:Nat):Int).toNat]?=some items[i]:=by simp[hj]
  rw[hi]
  refine LQ (he _ (SS hj) prog w _ _ ?_)
  rw[hit]
  have hz':(items.eraseIdxIfInBounds i).size<=LW+1:=Ma (size_erased items _) (QD hs1)
  wp_walk using(wpAny_updateSeq hl rfl (hz:=hs1) (_hz':=hz')),wpAny_loadPart' hl
  simpa using h
 |succ k ih=>
  intro i hk hij hno prog w A R s h
  obtain⟨hp,g,d,tk,os⟩:=s;obtain⟨hl,he,h⟩:=h
  have hlt:i<items.size:=by omega
  wp_walk using wpAny_loadPart' hl
  have hi:items[((i:Nat):Int).toNat]?=some items[i]:=by simp[hlt]
  have hc:((i:Int)+1)=((i+1:Nat):Int):=by push_cast;rfl
  rw[hi]
  refine LQ (he _ (SS hlt) prog w _ _ ?_)
  rw[hno i hlt (L0 _) (by omega)]
  wp_walk
  rw[hc]
  exact⟨plainId_quiet plain_remove_loop _,codeAny_builtin entry_remove_loop (by
   rw[Pe plain_remove_loop _]
   exact ih (i+1) (by omega) (by omega) (fun m hm h1 h2=>hno m hm (by omega) h2) prog w A R _ ⟨hl,he,h⟩)⟩
theorem vG(l:LL)(items:Array LM)(n:Nat)(x:LM)(e:LM->Bool)(j:Nat)(hj:j<items.size)(hit:e items[j]=true)(hno:∀m (hm:m<items.size),m<j->e items[m]=false)(hs1:items.size<=LW):
  Meets (Nf.«list.remove» ⟨[.ref l,x],[]⟩)
   (fun A R s=>s.heap.get? l=some {cls:=.type "list",dict:=none,data:=.seq items n,slots:=#[]}/\(∀y,y∈items->EqAt A.in1 s y x (e y))/\R (.ok (.ret .none)) {s with heap:=s.heap.update l (OL fun xs=>xs.eraseIdxIfInBounds j)}):=by
 intro prog w A R s h
 obtain⟨hp,g,d,tk,os⟩:=s;obtain⟨hl,he,h⟩:=h
 wp_walk using wpAny_loadPart' hl
 exact⟨plainId_quiet plain_remove_loop _,codeAny_builtin entry_remove_loop (by
  rw[Pe plain_remove_loop _]
  exact wx l items n x e j hj hit _ hs1 0 rfl (MK _) (fun m hm _ h2=>hno m hm h2) prog w A R _ ⟨hl,he,h⟩)⟩
section
variable {X:Cx}
noncomputable def yK(K:LO):V->List V->Hp->VK->Prop:=fun x vs H Q=>∃(l:LL)(xs:List V)(y:V)(ds:List Mt)(d:Mt)(j:Nat),x=.ref l/\vs=[y]/\H l=some (.lst xs)/\DatAll K H xs ds/\de K H y d/\cV 8 (.list ds)/\cV 8 d/\
 ds[j]?=some d/\(∀m,m<j->ds[m]?≠some d)/\Q .non (upd H l (.lst (xs.eraseIdx j)))
theorem zq{x:Mt}:∀{ts:List Mt},c0 ts=true->x∈ts->nice x=true
 |b::r,hb,hx=>by
  rw[c0,ND]at hb
  rcases L9.mp hx with e|e
  ·rw[e];exact hb.1
  ·exact zq hb.2 e
theorem xx(hu:X.A.units+64<cLine):HL X "list.remove" (yK X.K):=by
 intro pins s σ H x vs v us Q I rx rv h
 obtain⟨l,xs,y,ds,d,j,rfl,rfl,hH,hA,hD,n1,n2,hj,hno,q⟩:=h
 cases rx
 obtain⟨u,rfl,ru⟩:=rv.one
 obtain⟨z,its,n,r,hl,e⟩:=I.lstM hH
 obtain⟨m1,m2⟩:=yf n1
 obtain⟨as,ra⟩:=mW I hA r
 obtain⟨bs,rb⟩:=el I hD ru
 have hlay:=eS ds m1
 have hmap:=readsAll_map ds _ _ hlay ra
 have hlen:its.length=ds.length:=by rw[<-hmap,Md]
 have hjd:j<ds.length:=(Mx.mp hj).1
 have at_:∀(m:Nat)(hm:m<its.toArray.size),PV (readOf s.heap its.toArray[m]) d=same (ds.getD m .none) d:=fun m hm=>by
  have hm':m<its.length:=by simpa using hm
  have hm2:m<ds.length:=by omega
  have e1:ds.getD m .none=readOf s.heap its[m]:=by
   have:ds[m]?=some (readOf s.heap its[m]):=by rw[<-hmap,MO,Mg hm'];rfl
   rw[MH,this];rfl
  have e2:its.toArray[m]=its[m]:=by simp
  rw[e2,<-e1]
  refine(same_eq_eqv _ d (lE _ d ?_ n2.1)).symm
  have:ds.getD m .none∈ds:=by rw[MH,Mg hm2];exact Na hm2
  exact zq m1 this
 have hjs:j<its.toArray.size:=by rw[MC];omega
 refine N3 Rh ⟨_,e,rfl⟩ F.entry_list_remove (F.args_list_remove_2 _ _)
  (vG l its.toArray n u (fun y=>PV (readOf s.heap y) d) j hjs ?_ ?_ (by rw[MC];omega)) ⟨e,items_eqAt (by simpa using ra) rb hlay (mD d n2.1) (by have:=n2.2;omega),?_⟩
 ·show PV (readOf s.heap its.toArray[j]) d=true
  rw[at_ j hjs,MH,hj]
  exact same_self d
 ·intro m hm hlt
  show PV (readOf s.heap its.toArray[m]) d=false
  rw[at_ m hm]
  refine GD fun z=>hno m hlt ?_
  have hm2:m<ds.length:=by omega
  rw[Mg hm2]
  rw[MH,Mg hm2]at z
  exact congrArg some z
 refine⟨.non,_,I.lset (its':=its.eraseIdx j) hH e ?_ (r.eraseIdx j) ?_,rfl,q⟩
 ·show its.toArray.eraseIdxIfInBounds j=(its.eraseIdx j).toArray
  rw[QL]
 ·have:=qF xs j
  omega
end
end L2
namespace L2
open PySem PySem.Spec PyProof.Rows PySem.W
section
variable {X:Cx}
noncomputable def Fz:List V->Hp->VK->Prop:=fun xs H Q=>∃(d:LL)(kvs:List (Key×V)),xs=[.ref d]/\H d=some (.dK kvs)/\∀l,H l=none->Q (.ref l) (upd H l (.lst (kvs.map fun p=>kV p.1)))
theorem B3(hc:X.calm=true):eu X (.type "list") Fz:=by
 intro pins s σ H xs us Q I r h
 obtain⟨d,kvs,rfl,hd,q⟩:=h
 obtain⟨u,rfl,ru⟩:=vals1 r
 cases ru
 obtain⟨z,hdS,vs,rel,dd⟩:=fu I.hok (.inl hd)
 obtain⟨ep,hat⟩:=dd.dictAt
 have hlen:kvs.length=vs.length:=Mr rel
 refine kdl_call (kdl_dict (knd:=aS X.prog X.w) (kvs:=vs) (ep:=ep) hdS) (I.ok.hd hc) hat (by rw[<-hlen];exact z) fun h' tk acc c hk hl hacc=>?_
 have hal:acc.toList.length=vs.length:=by rw[Qv];exact hacc.1
 refine⟨.ref s.heap.objs.size,_,I.laid (t':=tk) (a:=s.heap.objs.size) (o:=.lst (kvs.map fun p=>kV p.1)) hk (L0 _) ⟨by rw[Md];exact z,acc.toList,c,?_,by rw[QH];exact hl⟩,rfl,q _ (I.hok.fresh (L0 _))⟩
 refine lJ (by rw[Md,hal,hlen]) fun i x u e1 e2=>?_
 obtain⟨k,y,hx,hkey⟩:=hacc.2 i u (by rw[<-P2];exact e2)
 obtain⟨p,hp1,hp2,_⟩:=jT rel i _ hx
 rw[MO,hp1]at e1
 cases e1
 show RelV (kV p.1) u
 rw[hp2]
 exact qh hkey
noncomputable def lQ(v d:LL):HO:=.ext fun h=>h.IsValuesView v d
noncomputable def FE:V->List V->Hp->VK->Prop:=fun x vs H Q=>∃(d:LL)(kvs:List (Key×V)),x=.ref d/\vs=[]/\H d=some (.dK kvs)/\∀v,H v=none->Q (.ref v) (upd H v (lQ v d))
theorem Gg:K9 X "dict.values" FE:=by
 intro pins s σ H x xs v us Q I rx r h
 obtain⟨d,kvs,rfl,rfl,e,q⟩:=h
 cases r
 cases(show v=Mj d from rx)
 obtain⟨z,hd,vs,rel,dd⟩:=fu I.hok (.inl e)
 refine Pg Qg dd.typeIs Ti (Tu _) (meets_dict_values (aS X.prog X.w) d hd) ⟨⟨vs,dd⟩,?_⟩
 refine⟨.ref s.heap.objs.size,upd H s.heap.objs.size (lQ s.heap.objs.size d),I.laid (t':=s.toks) (fun b u e=>Mq _ e) (L0 _) ⟨⟨_,Mu _ rfl,rfl,rfl⟩,⟨_,Mu _ rfl⟩,fun h1 h2 x k=>?_⟩,rfl,q _ (I.hok.fresh (L0 _))⟩
 obtain⟨o,ho,r⟩:=x
 exact⟨o,k o ho,r⟩
noncomputable def zH:List V->Hp->VK->Prop:=fun xs H Q=>∃(v d:LL)(kvs:List (Key×V)),xs=[.ref v]/\H v=some (lQ v d)/\H d=some (.dK kvs)/\∀l,H l=none->Q (.ref l) (upd H l (.lst (kvs.map (·.2))))
theorem y3(hc:X.calm=true):eu X (.type "list") zH:=by
 intro pins s σ H xs us Q I r h
 obtain⟨v,d,kvs,rfl,hv,hd,q⟩:=h
 obtain⟨u,rfl,ru⟩:=vals1 r
 cases ru
 obtain⟨z,hdS,vs,rel,dd⟩:=fu I.hok (.inl hd)
 obtain⟨ep,hat⟩:=dd.dictAt
 have hlen:kvs.length=vs.length:=Mr rel
 have hvw:s.heap.IsValuesView v d:=(show cF X.prog X.w H s.heap v (lQ v d)from I.hok v _ hv).1
 refine kdl_call (kdl_values (knd:=aS X.prog X.w) (kvs:=vs) (ep:=ep)) (I.ok.hd hc) ⟨hvw,hat⟩ (by rw[<-hlen];exact z) fun h' tk acc c hk hl hacc=>?_
 have hal:acc.toList.length=vs.length:=by rw[Qv];exact hacc.1
 refine⟨.ref s.heap.objs.size,_,I.laid (t':=tk) (a:=s.heap.objs.size) (o:=.lst (kvs.map (·.2))) hk (L0 _) ⟨by rw[Md];exact z,acc.toList,c,?_,by rw[QH];exact hl⟩,rfl,q _ (I.hok.fresh (L0 _))⟩
 refine lJ (by rw[Md,hal,hlen]) fun i x u e1 e2=>?_
 obtain⟨k,hx⟩:=hacc.2 i u (by rw[<-P2];exact e2)
 obtain⟨p,hp1,hp2,hp3⟩:=jT rel i _ hx
 rw[MO,hp1]at e1
 cases e1
 exact hp3
end
noncomputable def Kh(d:LL)(o:LS)(kvs:List (Key×V)):It:=
 ⟨fun i H=>H d=some (.frz o (.dK kvs))/\i<kvs.length,fun i H x H'=>H'=H/\∃p,kvs[i]?=some p/\x=p.2,fun i H=>H d=some (.frz o (.dK kvs))/\kvs.length<=i⟩
theorem DN{P:L5}{w:LZ}{K:LO}{tg:LU}(d it:LL)(o:LS)(es:Array NN)(ep:Nat)(ho:o.data=.dict es ep)(kvs:List (Key×V)):
  Turn P w K tg (Kh d o kvs) [it] it (fun i h=>h.IsValIter it d i kvs.length ep) where
 mem:=by simp
 obj:=fun i h st b hb=>by
  have z:b=it:=by simpa using hb
  subst z
  obtain⟨io,e,c,dt⟩:=st
  exact⟨io,e,fun v z=>by rw[dt]at z;cases z⟩
 keep:=fun i h h' st k=>by
  obtain⟨io,e,r⟩:=st
  exact⟨io,k it (by simp) io e,r⟩
 item:=by
  intro X hP hw hK hc i pins s σ H E I hf st hg
  subst hP hw hK
  obtain⟨hd,hi⟩:=hg
  obtain⟨vs,rel,hat⟩:=jy I hd ho
  have hlen:kvs.length=vs.length:=Mr rel
  obtain⟨f0,f1,f2,f3,f4,f5⟩:=hf it (by simp)
  have hvi:vs[i]?=some vs[i]:=Mg (by omega)
  obtain⟨p,hp1,hp2,hp3⟩:=jT rel i _ hvi
  have st':s.heap.IsValIter it d i vs.length ep:=by rw[<-hlen];exact st
  refine wpAny_pyNext_values_item (knd:=aS X.prog X.w) (k:=(vs[i]).1) (v:=(vs[i]).2) st' hat hvi fun h' hit' sb=>?_
  have I1:Inv X pins σ H {s with heap:=h',toks:=s.toks}:=I.turned (t':=s.toks) (fun b o hb e=>(sb.2 b hb).trans e) f0 f1 f3 f4 f5
  obtain⟨io,e,c,dt⟩:=id hit'
  refine⟨_,rfl,zy (s:={s with heap:=h'}) e c dt (by decide) ⟨p.2,H,I1,hp3,⟨rfl,p,hp1,rfl⟩,by rw[hlen];exact hit',fun b hb=>(hf b hb).1⟩⟩
 done:=by
  intro X hP hw hK hc i pins s σ H E I hf st hg
  subst hP hw hK
  obtain⟨hd,hi⟩:=hg
  obtain⟨vs,rel,hat⟩:=jy I hd ho
  have hlen:kvs.length=vs.length:=Mr rel
  obtain⟨f0,f1,f2,f3,f4,f5⟩:=hf it (by simp)
  have st':s.heap.IsValIter it d i vs.length ep:=by rw[<-hlen];exact st
  exact wpAny_pyNext_values_end (knd:=aS X.prog X.w) (I.ok.hd hc) st' hat (NR (by omega)) fun h' eb=>⟨rfl,I.turned (t':=s.toks) (fun b o hb e'=>eb b o hb e') f0 f1 f3 f4 f5⟩
 self:=fun _ _ _ _ _ st h=>wpAny_pyIter_valiter st h
section
variable {X:Cx}{tg:LU}
noncomputable def FJ(td:TE):TI:=fun σ H R=>td σ H fun x H1=>∃(d:LL)(kvs:List (Key×V)),x=.ref d/\H1 d=some (.dK kvs)/\∀(o:LS)(v:LL),H1 v=none->v≠d->R (Kh d o kvs) (upd (upd H1 v (lQ v d)) d (.frz o (.dK kvs)))
theorem GW{e:LU}{td:TE}{apos cpos:L8}(he:PE X e td)
  (hbase:OU e "values" X.env (eval e X.env)=eval e X.env:=by rfl) (hline:(apos.endLine==cpos.line)=true:=by rfl):
  PI X tg (.Call (.Attribute e "values" apos) [] [] cpos) (FJ td):=by
 intro pins s σ H R I h
 refine wpAny_Call_method0_late hbase hline (ck (he pins s σ H _ I h) fun v s1 ⟨x,H1,I1,r1,d,kvs,ex,hd,q1⟩=>?_)
 subst ex
 cases(show v=Mj d from r1)
 obtain⟨z,hdS,vs,rel,dd⟩:=fu I1.hok (.inl hd)
 have hlen:kvs.length=vs.length:=Mr rel
 have h2:∀a,Mj d=.ref a->∃ob,s1.heap.get? a=some ob/\ob.dict=none:=fun a e=>by
  cases e
  obtain⟨o,_,_,ho,hex,_⟩:=id dd
  exact⟨o,ho,hex.2.1⟩
 refine⟨"dict","dict.values",PH,Qg,S8,dd.typeIs,h2,Py rfl (Q8 ?_)⟩
 refine Pg Qg dd.typeIs Ti (Tu _) (meets_dict_values (aS X.prog X.w) d hdS) ⟨⟨vs,dd⟩,?_⟩
 have fV:H1 s1.heap.objs.size=none:=I1.hok.fresh (L0 _)
 have hdlt:d<s1.heap.objs.size:=I1.hok.lt hd
 have IV:Inv X pins σ (upd H1 s1.heap.objs.size (lQ s1.heap.objs.size d)) {s1 with heap:=s1.heap.push {cls:=.type "dict_values",data:=.fields #[.ref d]},toks:=s1.toks}:=
  I1.laid (t':=s1.toks) (fun b u e=>Mq _ e) (L0 _) ⟨⟨_,Mu _ rfl,rfl,rfl⟩,⟨_,Mu _ rfl⟩,fun h1 h2 x k=>by
   obtain⟨o,ho,r⟩:=x
   exact⟨o,k o ho,r⟩⟩
 have hd':upd H1 s1.heap.objs.size (lQ s1.heap.objs.size d) d=some (.dK kvs):=by rw[aq (Ms hdlt)];exact hd
 obtain⟨o,es,ep,ho,hex,hdat,r⟩:=id dd
 have ho1:(s1.heap.push {cls:=.type "dict_values",data:=.fields #[.ref d]}).get? d=some o:=Mq _ ho
 have IF:=IV.freeze hd' ho1
 have hat:(s1.heap.push {cls:=.type "dict_values",data:=.fields #[.ref d]}).DictAt (aS X.prog X.w) d vs ep:=⟨o,es,ho1,hex,hdat,r⟩
 show LP _ _ (pyIter (.ref s1.heap.objs.size)) _ _ _
 refine wpAny_pyIter_values (knd:=aS X.prog X.w) (d:=d) ⟨_,Mu _ rfl,rfl,rfl⟩ hat ?_
 refine⟨_,[_],_,Kh d o kvs,_,rfl,IF.kept (t':=s1.toks) (fun b u e=>Mq _ e),DN d _ o es ep hdat kvs,⟨_,Mu _ rfl,rfl,by rw[hlen];rfl⟩,fun b hb=>?_,q1 o _ fV (Nh hdlt)⟩
 have zb:b=(s1.heap.push {cls:=.type "dict_values",data:=.fields #[.ref d]}).objs.size:=by simpa using hb
 subst zb
 exact IF.fpOk (L0 _) (IF.hok.fresh (L0 _))
end
section
variable {prog:L5}{w:LZ}{κ:Type} [DecidableEq κ] {knd:KeyKind prog w κ}{A:Mb}{E:LM->LN->Prop}{s:LN}
theorem kn{it d:LL}{i ep:Nat}{kvs:List (κ×LM)}{k:κ}{v:LM}{Q:LM->LN->Prop}(st:s.heap.IsKeyIter it d i kvs.length ep)(hm:s.heap.DictAt knd d kvs ep)(hx:kvs[i]?=some (k,v))
  (q:∀key h',knd.is k key=true->h'.IsKeyIter it d (i+1) kvs.length ep->NM it s.heap h'->Q key {s with heap:=h'}):LP (model prog w) A (NQ (.ref it)) Q E s:=by
 unfold NQ
 exact LQ (kdk_special st hm hx fun key h' h1 h2 h3=>Mc (q key h' h1 h2 h3))
theorem mG{it d:LL}{i ep:Nat}{kvs:List (κ×LM)}{Q:LM->LN->Prop}(hA:A.handled=none)(st:s.heap.IsKeyIter it d i kvs.length ep)(hm:s.heap.DictAt knd d kvs ep)(none_:kvs[i]?=none)
  (q:∀h' e,Heap.ExtBut it s.heap h'->(∃x,h'.get? e=some x/\x.cls=.type "StopIteration")->E (.ref e) {s with heap:=h'}):LP (model prog w) A (NQ (.ref it)) Q E s:=by
 obtain⟨io,g1,g2,g3⟩:=id st
 obtain⟨od,es,k1,k2,k3,k4,k5,k6⟩:=id hm
 have len:es.size=kvs.length:=by have:=k5.length;simpa using this
 have past:es.size<=i:=by rw[len];exact List.getElem?_eq_none_iff.mp none_
 unfold NQ
 refine LQ (PD (name:=Pq "__next__") st.typeIs SF (O7 SF st.typeIs Wv ?_ (UD _)))
 refine LQ (Mc (LQ (LQ ?_)))
 first|refine LQ (wpAny_typeNameOfWhole_keyiter st.typeIs (Mc (LQ (wpAny_fieldsOf g1 g3 ?_))))|refine LQ (wpAny_typeNameOf_keyiter st.typeIs (Mc (LQ (wpAny_fieldsOf g1 g3 ?_))))
 rw[show UP "dict_keyiterator"=false from by decide]
 simp only[Ov,if_false]
 show LP _ _ (if(Mj d==M5)=true then _ else _) _ _ s
 refine wpAny_ite_split (fun z=>absurd z MM) fun _=>LQ (Mc (LQ (wpAny_dictEntries k1 k3 ?_)))
 rw[if_neg (by rw[len];simp)]
 refine LQ (Mc (LQ (wpAny_dictEpoch k1 k3 ?_)))
 rw[if_neg (by simp)]
 refine Mc ?_
 simp only[show ¬(((i:Nat):Int)<0)from by omega,if_false,QN,Array.getElem?_eq_none past]
 refine LQ ?_
 first|refine LQ (wpAny_typeNameOfWhole_keyiter st.typeIs (Mc ?_))|refine LQ (wpAny_typeNameOf_keyiter st.typeIs (Mc ?_))
 show LP _ _ (setField (.ref it) 0 .none >>= _) _ _ s
 refine LQ (wpAny_setField g1 g3 (by simp) ?_)
 show LP _ _ (newExc (.type "StopIteration") [] >>= _) _ _ _
 refine LQ ?_
 simp only[newExc,newTuple]
 refine LQ (wpAny_newObj_type (LQ (m:=firstArgMember _ _) (wpAny_of_eq (a:=M5) (by first|rfl|(simp only[firstArgMember];rfl)) (wpAny_newObj_type ?_ (by size_fits)))) (by size_fits))
 simp only[raiseNew]
 refine LQ (wpAny_handled ?_)
 first|rw[show A.in1.handled=none from hA]|rw[hA]
 exact LQ (Mc (wpAny_throw (q _ _ (((Wc ..).extBut.push _).push _) ⟨_,Mu _ rfl,rfl⟩)))
theorem tY(hA:A.handled=none)(it d:LL)(hne:d≠it)(kvs:List (κ×LM))(ep:Nat):
  Draws prog w A it [it,d] kvs.length (fun i v=>∃k x,kvs[i]?=some (k,x)/\knd.is k v=true) (fun i h=>h.IsKeyIter it d i kvs.length ep/\h.DictAt knd d kvs ep) where
 live:=fun _ _ st=>let ⟨o,ho,_⟩:=st.1;⟨o,ho⟩
 frame:=fun _ _ _ st hk=>⟨st.1.at fun o e=>hk it (by simp) o e,st.2.at' fun o e=>hk d (by simp) o e⟩
 item:=fun i s Q E hi st hQ=>by
  obtain⟨⟨k,x⟩,hx⟩:∃p,kvs[i]?=some p:=⟨kvs[i],by simp[hi]⟩
  exact kn st.1 st.2 hx fun key h' h1 h2 h3=>hQ key h' s.toks ⟨k,x,hx,h1⟩ ⟨h2,st.2.extBut h3.extBut hne⟩ h3
 done:=fun s Q E st hE=>mG hA st.1 st.2 (by simp) hE
noncomputable def nR(d:LL)(n ep:Nat):LS:={cls:=.type "dict_keyiterator",data:=.fields #[.ref d,.int 0 0,.int n 0,.int ep 0]}
noncomputable def xH(it:LL):LS:={cls:=.type "enumerate",data:=.fields #[.none,.bool false,.ref it,MN 0,.none,.none]}
theorem vR(d:LL)(lo:(d==NB)=false)(kvs:List (κ×LM))(ep:Nat):
  MeetsIn prog w (Nf.«enumerate.__new__» ⟨[.type "enumerate",.ref d],[]⟩) (fun _ R s=>s.heap.DictAt knd d kvs ep/\R (.ok (.ret (.ref (s.heap.push (nR d kvs.length ep)).objs.size))) {s with heap:=(s.heap.push (nR d kvs.length ep)).push (xH s.heap.objs.size)}):=by
 refine Si fun A R s h=>?_
 obtain⟨hp,g,dr,tk,os⟩:=s
 obtain⟨hm,h⟩:=h
 have hsub:=sub_enumerate
 wp_walk
 refine wpAny_stack_any fun st=>Mc ?_
 split
 ·rename_i c _ _ _ _ _
  cases(c==Rr "enumerate")
  ·wp_walk using(Pp (knd:=knd) lo hm)
   exact⟨_,rfl,h⟩
  ·wp_walk using(Pp (knd:=knd) lo hm)
   exact⟨_,rfl,h⟩
 ·wp_walk using(Pp (knd:=knd) lo hm)
  exact⟨_,rfl,h⟩
end
noncomputable def Hr(d:LL)(o:LS)(kvs:List (Key×V)):It:=
 ⟨fun i H=>H d=some (.frz o (.dK kvs))/\i<kvs.length,fun i H x H'=>∃T p,x=.ref T/\H T=none/\kvs[i]?=some p/\H'=upd H T (.tup [.int i,kV p.1]),fun i H=>H d=some (.frz o (.dK kvs))/\kvs.length=i⟩
theorem Bj{P:L5}{w:LZ}{K:LO}{elts:List LU}{x1}{pos:L8}(d e it:LL)(o:LS)(es:Array NN)(ep:Nat)(ho:o.data=.dict es ep)(kvs:List (Key×V))(hne:e≠it)(hdi:d≠it)(hde:d≠e):
  Turn P w K (.Tuple elts x1 pos) (Hr d o kvs) [e,it] e (fun i h=>(∃old,IsEnum h e it ((i:Nat):Int) old)/\h.IsKeyIter it d i kvs.length ep) where
 mem:=by simp
 obj:=fun i h st b hb=>by
  obtain⟨⟨old,he⟩,o,ho,hc,hd⟩:=st
  rcases L9.mp hb with z|hb
  ·subst z
   exact⟨_,he,fun v z=>by
    have z':Pz _=OY v:=z
    cases z'⟩
  ·have z:b=it:=by simpa using hb
   subst z
   exact⟨o,ho,fun v z=>by rw[hd]at z;cases z⟩
 keep:=fun i h h' st k=>by
  obtain⟨⟨old,he⟩,o,ho,r⟩:=st
  exact⟨⟨old,k e (by simp) _ he⟩,o,k it (by simp) _ ho,r⟩
 item:=by
  intro X hP hw hK hc i pins s σ H E I hf st hg
  subst hP hw hK
  obtain⟨⟨old,he⟩,hit⟩:=st
  obtain⟨hd,hi⟩:=hg
  obtain⟨vs,rel,hat⟩:=jy I hd ho
  have hlen:kvs.length=vs.length:=Mr rel
  have hit0:s.heap.IsKeyIter it d i vs.length ep:=by rw[<-hlen];exact hit
  obtain⟨f0,f1,f2,f3,f4,f5⟩:=hf e (by simp)
  obtain⟨g0,g1,g2,g3,g4,g5⟩:=hf it (by simp)
  have fT:H s.heap.objs.size=none:=I.fresh
  refine wpAny_pyNext_enum_itemD (tY (knd:=aS X.prog X.w) (A:=X.A.in1) (I.ok.hd hc) it d hdi vs ep) he ⟨hit0,hat⟩ (by omega) hne (by simp[hne,Mm hde]) fun u h' tk hP heo hit' ht hsz hk=>⟨_,rfl,?_⟩
  obtain⟨k,y,hxy,hkey⟩:=hP
  obtain⟨p,hp1,hp2,_⟩:=jT rel i _ hxy
  have ru:RelV (kV p.1) u:=by rw[hp2];exact qh hkey
  refine wpAny_letOwnedTupleGo_enum heo fun h2 he2 hs2=>?_
  have hs2:NM e h' h2:=hs2
  have heT:e≠s.heap.objs.size:=Ms (Mi he)
  have oldK:∀b o,b≠e->b≠it->s.heap.get? b=some o->h2.get? b=some o:=fun b o h1 h2' q=>hs2.extBut b o h1 (hk b o h1 h2' q)
  have hT2:h2.get? s.heap.objs.size=some {cls:=.type "tuple",data:=.seq #[.int i tk,u]}:=hs2.extBut _ _ (Mm heT) ht
  have neT:∀b o,s.heap.get? b=some o->b≠s.heap.objs.size:=fun b o q=>Ms (Mi q)
  have nH:∀b w',H b=some w'->b≠e/\b≠it:=fun b w' q=>⟨fun z=>(by rw[z,f0]at q;cases q),fun z=>(by rw[z,g0]at q;cases q)⟩
  have I2:Inv X pins σ (upd H s.heap.objs.size (.tup [.int i,kV p.1])) {s with heap:=h2,toks:=tk+1}:=by
   refine I.step (g':=s.gens) (d':=s.drawn) (t':=tk+1) (ch:=[e,it]) (fun b hb=>?_) (fun b o _ _ hb q _=>?_) (fun b o _ _ hb q _=>?_) (fun b o _ q n=>?_) (fun b o hb q=>?_)
    (fun b ys q=>?_) (fun b o w' q=>?_) (fun b ps q=>?_) (fun m hm=>?_) (fun b w' q=>?_) I.bare
   ·rcases L9.mp hb with z|hb
    ·subst z;exact⟨f3,f1,f4,f5⟩
    ·have z:b=it:=by simpa using hb
     subst z;exact⟨g3,g1,g4,g5⟩
   ·exact oldK b o (fun z=>hb (by simp[z])) (fun z=>hb (by simp[z])) q
   ·exact⟨o.slots,oldK b o (fun z=>hb (by simp[z])) (fun z=>hb (by simp[z])) q⟩
   ·rw[aq (neT b o q)];exact n
   ·exact⟨o,oldK b o (fun z=>hb (by simp[z])) (fun z=>hb (by simp[z])) q⟩
   ·rw[aq (aZ q fT)];exact q
   ·rw[aq (aZ q fT)];exact q
   ·exact⟨#[],by rw[aq (aZ q fT),q];simp⟩
   ·obtain⟨o,es,ep,ho,r⟩:=hm
    exact⟨o,es,ep,oldK _ o (Mm f1) (Mm g1) ho,r⟩
   ·by_cases hb:b=s.heap.objs.size
    ·subst hb
     rw[ao]at q
     cases q
     exact⟨by show 2<=LW;decide,[.int i tk,u],.cons ⟨_,rfl⟩ (.cons ru .nil),_,hT2,rfl,_,rfl⟩
    ·rw[aq hb]at q
     refine(I.hok b w' q).stay (fun c v hc q'=>oldK c v ?_ ?_ q') (fun c q'=>?_) fun c ys q'=>?_
     ·rcases hc with z|z
      ·rw[z];exact(nH b w' q).1
      ·exact(nH c _ z).1
     ·rcases hc with z|z
      ·rw[z];exact(nH b w' q).2
      ·exact(nH c _ z).2
     ·rw[aq (aZ q' fT)];exact q'
     ·rw[aq (aZ q' fT)];exact q'
  refine⟨.ref s.heap.objs.size,_,I2,rfl,⟨s.heap.objs.size,p,rfl,fT,hp1,rfl⟩,⟨⟨u,?_⟩,?_⟩,fun b hb=>?_⟩
  ·have e1:((i+1:Nat):Int)=(i:Int)+1:=by omega
   rw[e1];exact he2
  ·rw[hlen]
   exact hit'.1.at fun o e=>hs2.extBut _ _ (Mm hne) e
  ·have:b≠s.heap.objs.size:=by
    rcases L9.mp hb with z|hb
    ·rw[z];exact heT
    ·have z:b=it:=by simpa using hb
     rw[z]
     obtain⟨o,ho,_⟩:=hit
     exact neT it o ho
   rw[aq this]
   exact(hf b hb).1
 done:=by
  intro X hP hw hK hc i pins s σ H E I hf st hg
  subst hP hw hK
  obtain⟨⟨old,he⟩,hit⟩:=st
  obtain⟨hd,hi⟩:=hg
  obtain⟨vs,rel,hat⟩:=jy I hd ho
  have hlen:kvs.length=vs.length:=Mr rel
  obtain⟨g0,g1,g2,g3,g4,g5⟩:=hf it (by simp)
  have hit0:s.heap.IsKeyIter it d i vs.length ep:=by rw[<-hlen];exact hit
  have en:i=vs.length:=by omega
  subst en
  exact wpAny_pyNext_enum_endD (tY (knd:=aS X.prog X.w) (A:=X.A.in1) (I.ok.hd hc) it d hdi vs ep) he ⟨hit0,hat⟩ fun h' eb=>⟨rfl,I.turned (t':=s.toks) (fun b o hb e'=>eb b o hb e') g0 g1 g3 g4 g5⟩
 self:=fun A i s Q E st h=>by
  obtain⟨⟨old,he⟩,_⟩:=st
  exact Qh he h
section
variable {X:Cx}
noncomputable def B5(td:TE):TI:=fun σ H R=>td σ H fun x H1=>∃(d:LL)(kvs:List (Key×V)),x=.ref d/\H1 d=some (.dK kvs)/\∀(o:LS),R (Hr d o kvs) (upd H1 d (.frz o (.dK kvs)))
theorem ED{l:LU}{tl:TE}{elts:List LU}{x1}{p pos pt:L8}(hg:Gl X "enumerate")(hm:X.mg "enumerate"=none)(hl:PE X l tl)(hs:L6 [l] X.env=[(false,eval l X.env)]:=by rfl):
  PI X (.Tuple elts x1 pt) (.Call (.Name "enumerate" p) [l] [] pos) (B5 tl):=by
 intro pins s σ H R I h
 refine Call_ (jx I hg hm boot_enumerate (OC (ck (aa hl ah hs pos pins s σ H (fun vs H1=>∃x,vs=[x]/\∃(d:LL)(kvs:List (Key×V)),x=.ref d/\H1 d=some (.dK kvs)/\∀(o:LS),R (Hr d o kvs) (upd H1 d (.frz o (.dK kvs)))) I ?_) fun us s1 ⟨vs,H1,I1,r1,q1⟩=>?_) hs rfl))
 ·have e:(fun (x:V) (H1:Hp)=>∃y,[x]=[y]/\∃(d:LL)(kvs:List (Key×V)),y=V.ref d/\H1 d=some (HO.dK kvs)/\∀(o:LS),R (Hr d o kvs) (upd H1 d (.frz o (.dK kvs))))=fun x H1=>∃(d:LL)(kvs:List (Key×V)),x=.ref d/\H1 d=some (.dK kvs)/\∀(o:LS),R (Hr d o kvs) (upd H1 d (.frz o (.dK kvs))):=by
   funext x H1
   simp
  show tl σ H (fun (x:V) (H1:Hp)=>∃y,[x]=[y]/\∃(d:LL)(kvs:List (Key×V)),y=V.ref d/\H1 d=some (HO.dK kvs)/\∀(o:LS),R (Hr d o kvs) (upd H1 d (.frz o (.dK kvs))))
  rw[e]
  exact h
 ·obtain⟨x,rfl,d,kvs,rfl,hd,q⟩:=q1
  obtain⟨u,rfl,ru⟩:=vals1 r1
  cases ru
  obtain⟨z,hdS,vs,rel,dd⟩:=fu I1.hok (.inl hd)
  have hlen:kvs.length=vs.length:=Mr rel
  obtain⟨o,es,ep,ho,hex,hdat,r⟩:=id dd
  have IF:=I1.freeze hd ho
  have hat:s1.heap.DictAt (aS X.prog X.w) d vs ep:=⟨o,es,ho,hex,hdat,r⟩
  have hdlt:d<s1.heap.objs.size:=I1.hok.lt hd
  refine callType_newIn Wd (by decide) (VF _) (Uw _) (fun obj=>VX obj _) V1 (vR (knd:=aS X.prog X.w) d hdS vs ep) ⟨hat,?_⟩
  have hz1:(s1.heap.push (nR d vs.length ep)).objs.size=s1.heap.objs.size+1:=Nl ..
  show _/\_
  rw[hz1]
  have he:IsEnum ((s1.heap.push (nR d vs.length ep)).push (xH s1.heap.objs.size)) (s1.heap.objs.size+1) s1.heap.objs.size 0 .none:=by
   have:=Mu (s1.heap.push (nR d vs.length ep)) (o:=xH s1.heap.objs.size) rfl
   rw[hz1]at this;exact this
  refine⟨⟨_,he,rfl⟩,Qh he ?_⟩
  have hk:∀b u,s1.heap.get? b=some u->((s1.heap.push (nR d vs.length ep)).push (xH s1.heap.objs.size)).get? b=some u:=fun b u e=>Mq _ (Mq _ e)
  refine⟨s1.heap.objs.size+1,[s1.heap.objs.size+1,s1.heap.objs.size],_,Hr d o kvs,_,rfl,IF.kept (t':=s1.toks) hk,Bj d _ _ o es ep hdat kvs (Tn _) (Ms hdlt) (Ms (Qw hdlt)),⟨⟨.none,he⟩,⟨_,Mq _ (Mu _ rfl),rfl,by rw[hlen];rfl⟩⟩,fun b hb=>?_,q o⟩
  have hb':s1.heap.objs.size<=b:=by
   rcases L9.mp hb with z|hb
   ·rw[z];exact Nq _
   ·have z:b=s1.heap.objs.size:=by simpa using hb
    rw[z];exact L0 _
  exact IF.fpOk hb' (IF.hok.fresh hb')
end
theorem FW{K:LO}{d:LL}{o:LS}{kvs:List (Key×V)}(p r:Nat)(u:Nat->V)(hu:∀i q,kvs[i]?=some q->kV q.1=u i):
  Ys (Hr d o kvs) (fK K 2 (bq (au p) (bq (au r) fN))) (fun H=>H d=some (.frz o (.dK kvs))) kvs.length (fun i σ=>(σ.set p (some (.int i))).set r (some (u i))) where
 go:=fun i H hi h=>⟨h,hi⟩
 stop:=fun H h=>⟨h,rfl⟩
 yld:=fun i H x H' σ Q hi h y q=>by
  obtain⟨T,w,rfl,hT,hw,rfl⟩:=y
  exists T,_,rfl,gf.of ao,rfl,_,_,rfl,_,_,rfl,rfl
  have:=q _ (av.updN hT (o:=.tup [.int i,kV w.1]))
  rw[<-hu i w hw]at this
  exact this
section
variable {prog:L5}{w:LZ}{κ:Type} [DecidableEq κ] {knd:KeyKind prog w κ}{A:Mb}{E:LM->LN->Prop}{s:LN}
variable {z TI TO i1 i2 d l:LL}{n ep:Nat}{kvs:List (κ×LM)}{ys:Array LM}{a b:LM}
noncomputable abbrev dN(s:LN)(z TO i1 i2:LL)(h':LV):Prop:=∀c o,c≠z->c≠TO->c≠i1->c≠i2->s.heap.get? c=some o->h'.get? c=some o
theorem Dd{k:κ}{v y:LM}{Q:LM->LN->Prop}(D:Nz z TI TO i1 i2 d l)(hz:M6 s.heap z TI TO .none)(hTI:ME s.heap TI (.ref i1) (.ref i2))(hTO:ME s.heap TO a b)
  (h1:s.heap.IsKeyIter i1 d n kvs.length ep) (hd:s.heap.DictAt knd d kvs ep) (h2:s.heap.IsListIter i2 l n) (hl:s.heap.IsList l ys) (hx:kvs[n]?=some (k,v)) (hy:ys[n]?=some y)
  (q:∀x h',knd.is k x=true->M6 h' z TI TO (MN s.heap.objs.size)->ME h' TO x y->h'.IsKeyIter i1 d (n+1) kvs.length ep->h'.IsListIter i2 l (n+1)->ME h' s.heap.objs.size x y->h'.objs.size=s.heap.objs.size+1->dN s z TO i1 i2 h'->Q (.ref s.heap.objs.size) {s with heap:=h'}):
  LP (model prog w) A (Nf.«zip.__next__» ⟨[.ref z],[]⟩) (fun fin s'=>∃v,fin=.done (.ret v)/\Q v s') E s:=by
 show LP _ _ (field (.ref z) 2 >>= _) _ _ _
 refine LQ (MV hz rfl (x:=.bool false) rfl (LQ (MV hz rfl (x:=.ref TI) rfl (LQ (Ob hTI rfl (LQ ?_))))))
 unfold P5
 refine LQ (MV hz rfl (x:=.none) rfl (Mc ?_))
 simp only[if_true]
 refine LQ (wpAny_rule (LQ (MV hz rfl (x:=.ref TO) rfl (LQ (O6 hz (by simp) fun m1 z1 e1=>LQ ?_)))))
 have z1:M6 m1 z TI TO .ellipsis:=z1
 simp only[Sz,Up,Pr,Po]
 refine LQ (LQ (wpAny_onRaise ?_))
 show LP _ _ (NQ (.ref i1) >>= _) _ _ _
 refine LQ (kn (knd:=knd) (h1.at fun o e=>e1.extBut _ _ D.i1z e) (hd.extBut e1.extBut D.l1z) hx fun x m2 hkey g1 e2=>Mc ?_)
 have t2:ME m2 TO a b:=e2.extBut _ _ D.TOi1 (e1.extBut _ _ D.TOz hTO)
 refine LQ (Ob t2 rfl (LQ (wpAny_updateSeq_pair t2 fun m3 t3 e3=>LQ (wpAny_letGo (Mc (LQ (LQ (wpAny_onRaise ?_))))))))
 have t3:ME m3 TO x b:=t3
 show LP _ _ (NQ (.ref i2) >>= _) _ _ _
 refine LQ (Ur (h2.at fun o e=>e3.extBut _ _ D.TOi2.symm (e2.extBut _ _ D.i12.symm (e1.extBut _ _ D.i2z e))) (hl.at fun o e=>e3.extBut _ _ D.l2TO (e2.extBut _ _ D.l2i1 (e1.extBut _ _ D.l2z e))) hy fun m4 g2 e4=>Mc ?_)
 have t4:ME m4 TO x b:=e4.extBut _ _ D.TOi2 t3
 refine LQ (Ob t4 rfl (LQ (wpAny_updateSeq_pair t4 fun m5 t5 e5=>LQ (wpAny_letGo (Mc (Mc ?_))))))
 have t5:ME m5 TO x y:=t5
 refine LQ (Ob t5 rfl (LQ (wpAny_newTuple ?_)))
 have sz:m5.objs.size=s.heap.objs.size:=by rw[e5.1,e4.1,e3.1,e2.1,e1.1]
 have z5:M6 m5 z TI TO .ellipsis:=e5.extBut _ _ D.TOz.symm (e4.extBut _ _ D.i2z.symm (e3.extBut _ _ D.TOz.symm (e2.extBut _ _ D.i1z.symm z1)))
 have old:∀c o,c≠z->c≠TO->c≠i1->c≠i2->s.heap.get? c=some o->m5.get? c=some o:=fun c o c1 c2 c3 c4 e=>e5.extBut _ _ c2 (e4.extBut _ _ c4 (e3.extBut _ _ c2 (e2.extBut _ _ c3 (e1.extBut _ _ c1 e))))
 have g1':m5.IsKeyIter i1 d (n+1) kvs.length ep:=g1.at fun o e=>e5.extBut _ _ D.TOi1.symm (e4.extBut _ _ D.i12 (e3.extBut _ _ D.TOi1.symm e))
 have g2':m5.IsListIter i2 l (n+1):=g2.at fun o e=>e5.extBut _ _ D.TOi2.symm e
 have zlt:z<m5.objs.size:=Mi z5
 show LP _ _ (Tg (.ref z) (.ref m5.objs.size) >>= _) _ _ _
 refine LQ ?_
 unfold Tg
 have z6:M6 (m5.push {cls:=.type "tuple",data:=.seq #[x,y]}) z TI TO .ellipsis:=Mq _ z5
 refine LQ (O6 z6 (by simp) fun m7 z7 e7=>?_)
 have z7:M6 m7 z TI TO (MN m5.objs.size):=z7
 refine O6 z7 (by simp) fun m8 z8 e8=>?_
 have z8:M6 m8 z TI TO (MN m5.objs.size):=z8
 have lift:∀c o,c≠z->m5.get? c=some o->m8.get? c=some o:=fun c o c1 e=>e8.extBut _ _ c1 (e7.extBut _ _ c1 (Mq _ e))
 have t8:ME m8 m5.objs.size x y:=e8.extBut _ _ (Nh zlt) (e7.extBut _ _ (Nh zlt) (Mu _ rfl))
 have s8:m8.objs.size=m5.objs.size+1:=by rw[e8.1,e7.1,Nl]
 rw[sz]at z8 t8 s8
 refine Mc ⟨_,rfl,?_⟩
 show Q (.ref m5.objs.size) _
 rw[sz]
 exact q x m8 hkey z8 (lift _ _ D.TOz t5) (g1'.at fun o e=>lift _ o D.i1z e) (g2'.at fun o e=>lift _ o D.i2z e) t8 s8 fun c o c1 c2 c3 c4 e=>lift c o c1 (old c o c1 c2 c3 c4 e)
theorem FQ{Q:Fin->LN->Prop}(hA:A.handled=none)(D:Nz z TI TO i1 i2 d l)(hz:M6 s.heap z TI TO .none)(hTI:ME s.heap TI (.ref i1) (.ref i2))
  (h1:s.heap.IsKeyIter i1 d n kvs.length ep) (hd:s.heap.DictAt knd d kvs ep) (hx:kvs[n]?=none)
  (q:∀h' e,dN s z TO i1 i2 h'->(∃o,h'.get? e=some o/\o.cls=.type "StopIteration")->E (.ref e) {s with heap:=h'}):LP (model prog w) A (Nf.«zip.__next__» ⟨[.ref z],[]⟩) Q E s:=by
 show LP _ _ (field (.ref z) 2 >>= _) _ _ _
 refine LQ (MV hz rfl (x:=.bool false) rfl (LQ (MV hz rfl (x:=.ref TI) rfl (LQ (Ob hTI rfl (LQ ?_))))))
 unfold P5
 refine LQ (MV hz rfl (x:=.none) rfl (Mc ?_))
 simp only[if_true]
 refine LQ (wpAny_rule (LQ (MV hz rfl (x:=.ref TO) rfl (LQ (O6 hz (by simp) fun m1 z1 e1=>LQ ?_)))))
 have z1:M6 m1 z TI TO .ellipsis:=z1
 simp only[Sz,Up,Pr,Po]
 refine LQ (LQ (wpAny_onRaise ?_))
 show LP _ _ (NQ (.ref i1) >>= _) _ _ _
 refine LQ (mG (knd:=knd) hA (h1.at fun o e=>e1.extBut _ _ D.i1z e) (hd.extBut e1.extBut D.l1z) hx fun m2 e e2 ⟨oe,he,hc⟩=>?_)
 have z2:M6 m2 z TI TO .ellipsis:=e2 _ _ D.i1z.symm z1
 have ez:e≠z:=fun x=>by subst x;rw[z2]at he;cases he;simp at hc
 exact O6 z2 (by simp) fun m3 _ e3=>q m3 e (fun c o c1 _ c3 _ x=>e3.extBut _ _ c1 (e2 _ _ c3 (e1.extBut _ _ c1 x))) ⟨oe,e3.extBut _ _ ez he,hc⟩
theorem nB{k:κ}{v y:LM}{Q:Option LM->LN->Prop}(D:Nz z TI TO i1 i2 d l)(hz:M6 s.heap z TI TO .none)(hTI:ME s.heap TI (.ref i1) (.ref i2))(hTO:ME s.heap TO a b)
  (h1:s.heap.IsKeyIter i1 d n kvs.length ep) (hd:s.heap.DictAt knd d kvs ep) (h2:s.heap.IsListIter i2 l n) (hl:s.heap.IsList l ys) (hx:kvs[n]?=some (k,v)) (hy:ys[n]?=some y)
  (q:∀x h',knd.is k x=true->M6 h' z TI TO (MN s.heap.objs.size)->ME h' TO x y->h'.IsKeyIter i1 d (n+1) kvs.length ep->h'.IsListIter i2 l (n+1)->ME h' s.heap.objs.size x y->h'.objs.size=s.heap.objs.size+1->dN s z TO i1 i2 h'->Q (some (.ref s.heap.objs.size)) {s with heap:=h'}):
  LP (model prog w) A (M8 (.ref z)) Q E s:=by
 have hT:s.TypeIs (.ref z) "zip":=⟨_,hz,rfl⟩
 unfold M8
 exact LQ (Qy (PD (name:=Pq "__next__") hT Oz (O7 Oz hT Qm (Dd D hz hTI hTO h1 hd h2 hl hx hy fun x h' a0 a1 a2 a3 a4 a5 a6 a7=>Mc (q x h' a0 a1 a2 a3 a4 a5 a6 a7)) (Qc _))))
theorem ph{Q:Option LM->LN->Prop}(hA:A.handled=none)(D:Nz z TI TO i1 i2 d l)(hz:M6 s.heap z TI TO .none)(hTI:ME s.heap TI (.ref i1) (.ref i2))
  (h1:s.heap.IsKeyIter i1 d n kvs.length ep) (hd:s.heap.DictAt knd d kvs ep) (hx:kvs[n]?=none) (q:∀h',dN s z TO i1 i2 h'->Q none {s with heap:=h'}):LP (model prog w) A (M8 (.ref z)) Q E s:=by
 have hT:s.TypeIs (.ref z) "zip":=⟨_,hz,rfl⟩
 unfold M8
 refine LQ (Qy (PD (name:=Pq "__next__") hT Oz (O7 Oz hT Qm (FQ (knd:=knd) (by first|exact hA|exact(show A.in1.handled=none from hA)) D hz hTI h1 hd hx fun h' e hk ⟨o,ho,hc⟩=>?_) (Qc _))))
 exact LQ (wpAny_isInstance (T:="StopIteration") (b:=true) ⟨o,ho,hc⟩ isSubtype_stop (Mc (q _ hk)))
end
noncomputable def K3(K:LO)(d l:LL)(o:LS)(kvs:List (Key×V)):It:=
 ⟨fun i H=>H d=some (.frz o (.dK kvs))/\∃ys y p,aK K H l ys/\ys[i]?=some y/\kvs[i]?=some p,
  fun i H x H'=>∃T p v,x=.ref T/\H T=none/\H'=upd H T (.tup [kV p.1,v])/\kvs[i]?=some p/\∀ys,aK K H l ys->ys[i]?=some v,
  fun i H=>H d=some (.frz o (.dK kvs))/\kvs.length=i⟩
theorem DK{P:L5}{w:LZ}{K:LO}{elts:List LU}{x1}{pos:L8}(d l z TI TO i1 i2:LL)(o:LS)(es:Array NN)(ep:Nat)(ho:o.data=.dict es ep)(kvs:List (Key×V))(D:Nz z TI TO i1 i2 d l):
  Turn P w K (.Tuple elts x1 pos) (K3 K d l o kvs) [z,TO,i1,i2,TI] z (fun i h=>M6 h z TI TO .none/\ME h TI (.ref i1) (.ref i2)/\(∃u v,ME h TO u v)/\h.IsKeyIter i1 d i kvs.length ep/\h.IsListIter i2 l i) where
 mem:=by simp
 obj:=fun i h st c hb=>by
  obtain⟨hz,hTI,⟨u,v,hTO⟩,⟨o1,ho1,hc1,hd1⟩,o2,ho2,hc2,hd2⟩:=st
  have hb':c=z\/c=TO\/c=i1\/c=i2\/c=TI:=by simpa using hb
  rcases hb' with rfl|rfl|rfl|rfl|rfl
  ·exact⟨_,hz,fun v q=>by have q':Pz _=OY v:=q;cases q'⟩
  ·exact⟨_,hTO,fun v q=>by have q':RI _ _=OY v:=q;cases q'⟩
  ·exact⟨o1,ho1,fun v q=>by rw[hd1]at q;cases q⟩
  ·exact⟨o2,ho2,fun v q=>by rw[hd2]at q;cases q⟩
  ·exact⟨_,hTI,fun v q=>by have q':RI _ _=OY v:=q;cases q'⟩
 keep:=fun i h h' st k=>by
  obtain⟨hz,hTI,⟨u,v,hTO⟩,⟨o1,ho1,r1⟩,o2,ho2,r2⟩:=st
  exact⟨k z (by simp) _ hz,k TI (by simp) _ hTI,⟨u,v,k TO (by simp) _ hTO⟩,⟨o1,k i1 (by simp) _ ho1,r1⟩,o2,k i2 (by simp) _ ho2,r2⟩
 item:=by
  intro X hP hw hK hc i pins s σ H E I hf st hg
  subst hP hw hK
  obtain⟨hz,hTI,⟨u0,v0,hTO⟩,hi1,hi2⟩:=st
  obtain⟨hd,ys,y,p,hS2,hy,hp⟩:=hg
  obtain⟨vs,rel,hat⟩:=jy I hd ho
  have hlen:kvs.length=vs.length:=Mr rel
  have hi10:s.heap.IsKeyIter i1 d i vs.length ep:=by rw[<-hlen];exact hi1
  obtain⟨its2,rv2,pl2,hz2⟩:=I.list hS2
  obtain⟨v,hv,rv⟩:=rv2.get hy
  have hik:i<vs.length:=by rw[<-hlen];exact(Mx.mp hp).1
  have hvi:vs[i]?=some ((vs[i]).1,(vs[i]).2):=Mg hik
  obtain⟨p',hp1,hp2,_⟩:=jT rel i _ hvi
  rw[hp]at hp1
  cases hp1
  have fT:H s.heap.objs.size=none:=I.fresh
  refine nB (knd:=aS X.prog X.w) D hz hTI hTO hi10 hat hi2 pl2.isList (y:=v) hvi (by simpa using hv) fun u h' hkey kz kTO k1 k2 hT hsz hk=>⟨_,rfl,?_⟩
  have ru:RelV (kV p.1) u:=by rw[hp2];exact qh hkey
  refine wpAny_letOwnedTupleGo_zip kz fun h2 kz2 hs2=>?_
  have hs2:NM z h' h2:=hs2
  have zT:z≠s.heap.objs.size:=Ms (Mi hz)
  have oldK:∀c o,c∉[z,TO,i1,i2,TI]->s.heap.get? c=some o->h2.get? c=some o:=fun c o hc q=>by
   have hc':¬(c=z\/c=TO\/c=i1\/c=i2\/c=TI):=by simpa using hc
   exact hs2.extBut c o (fun e=>hc' (.inl e)) (hk c o (fun e=>hc' (.inl e)) (fun e=>hc' (.inr (.inl e))) (fun e=>hc' (.inr (.inr (.inl e)))) (fun e=>hc' (.inr (.inr (.inr (.inl e))))) q)
  have hT2:h2.get? s.heap.objs.size=some {cls:=.type "tuple",data:=.seq #[u,v]}:=hs2.extBut _ _ (Mm zT) hT
  have neT:∀b o,s.heap.get? b=some o->b≠s.heap.objs.size:=fun b o q=>Ms (Mi q)
  have nH:∀b w',H b=some w'->b∉[z,TO,i1,i2,TI]:=fun b w' q hb=>by rw[(hf b hb).1]at q;cases q
  have I2:Inv X pins σ (upd H s.heap.objs.size (.tup [kV p.1,y])) {s with heap:=h2}:=by
   refine I.step (g':=s.gens) (d':=s.drawn) (t':=s.toks) (ch:=[z,TO,i1,i2,TI]) (fun b hb=>?_) (fun b o _ _ hb q _=>oldK b o hb q) (fun b o _ _ hb q _=>⟨o.slots,oldK b o hb q⟩) (fun b o _ q n=>?_) (fun b o hb q=>⟨o,oldK b o hb q⟩)
    (fun b ys' q=>?_) (fun b o w' q=>?_) (fun b ps q=>?_) (fun m hm=>?_) (fun b w' q=>?_) I.bare
   ·obtain⟨_,f1,_,f3,f4,f5⟩:=hf b hb
    exact⟨f3,f1,f4,f5⟩
   ·rw[aq (neT b o q)];exact n
   ·rw[aq (aZ q fT)];exact q
   ·rw[aq (aZ q fT)];exact q
   ·exact⟨#[],by rw[aq (aZ q fT),q];simp⟩
   ·obtain⟨o,es,ep,ho,r⟩:=hm
    exact⟨o,es,ep,oldK _ o (fun q=>(hf _ q).2.1 rfl) ho,r⟩
   ·by_cases hb:b=s.heap.objs.size
    ·subst hb
     rw[ao]at q
     cases q
     exact⟨by show 2<=LW;decide,[u,v],.cons ru (.cons rv .nil),_,hT2,rfl,_,rfl⟩
    ·rw[aq hb]at q
     refine(I.hok b w' q).stay (fun c v' hc q'=>oldK c v' ?_ q') (fun c q'=>?_) fun c ys' q'=>?_
     ·rcases hc with e|e
      ·rw[e];exact nH b w' q
      ·exact nH c _ e
     ·rw[aq (aZ q' fT)];exact q'
     ·rw[aq (aZ q' fT)];exact q'
  refine⟨.ref s.heap.objs.size,_,I2,rfl,⟨s.heap.objs.size,p,y,rfl,fT,rfl,hp,fun ys' hys=>?_⟩,⟨kz2,?_,⟨u,v,?_⟩,?_,?_⟩,fun b hb=>?_⟩
  ·rw[I.list_inj hys hS2];exact hy
  ·exact hs2.extBut _ _ D.TIz (hk _ _ D.TIz D.TITO D.TIi1 D.TIi2 hTI)
  ·exact hs2.extBut _ _ D.TOz kTO
  ·rw[hlen];exact k1.at fun o e=>hs2.extBut _ _ D.i1z e
  ·exact k2.extBut hs2.extBut D.i2z
  ·have:b≠s.heap.objs.size:=by
    have hb':b=z\/b=TO\/b=i1\/b=i2\/b=TI:=by simpa using hb
    obtain⟨o1,ho1,_⟩:=hi1
    obtain⟨o2,ho2,_⟩:=hi2
    rcases hb' with rfl|rfl|rfl|rfl|rfl
    ·exact zT
    ·exact neT _ _ hTO
    ·exact neT _ _ ho1
    ·exact neT _ _ ho2
    ·exact neT _ _ hTI
   rw[aq this]
   exact(hf b hb).1
 done:=by
  intro X hP hw hK hc i pins s σ H E I hf st hg
  subst hP hw hK
  obtain⟨hz,hTI,⟨u0,v0,hTO⟩,hi1,hi2⟩:=st
  obtain⟨hd,hi⟩:=hg
  obtain⟨vs,rel,hat⟩:=jy I hd ho
  have hlen:kvs.length=vs.length:=Mr rel
  have hi10:s.heap.IsKeyIter i1 d i vs.length ep:=by rw[<-hlen];exact hi1
  refine ph (knd:=aS X.prog X.w) (I.ok.hd hc) D hz hTI hi10 hat (NR (by omega)) fun h' hk=>⟨rfl,I.turnedL (t':=s.toks) (ch:=[z,TO,i1,i2,TI]) hf fun c o hc q=>?_⟩
  have hc':¬(c=z\/c=TO\/c=i1\/c=i2\/c=TI):=by simpa using hc
  exact hk c o (fun e=>hc' (.inl e)) (fun e=>hc' (.inr (.inl e))) (fun e=>hc' (.inr (.inr (.inl e)))) (fun e=>hc' (.inr (.inr (.inr (.inl e))))) q
 self:=fun A i s Q E st h=>QS st.1 h
noncomputable def EY(l:LL):LS:={cls:=.type "list_iterator",data:=.fields #[.ref l,.int 0 0]}
noncomputable def JC(h:LV)(d n ep:Nat):LV:=h.push (nR d n ep)
noncomputable def HQ(h:LV)(d n ep l:Nat):LV:=(JC h d n ep).push (EY l)
noncomputable def ID(h:LV)(d n ep l:Nat):LV:=(HQ h d n ep l).push {cls:=.type "tuple",data:=.seq #[.ref h.objs.size,.ref (JC h d n ep).objs.size]}
noncomputable def Ia(h:LV)(d n ep l:Nat):LV:=(ID h d n ep l).push {cls:=.type "tuple",data:=.seq #[.none,.none]}
noncomputable def Lv(h:LV)(d n ep l:Nat):LV:=(Ia h d n ep l).push {cls:=.type "zip",data:=.fields #[.none,.bool false,.bool false,.ref (HQ h d n ep l).objs.size,.ref (ID h d n ep l).objs.size]}
section
variable {prog:L5}{w:LZ}{κ:Type} [DecidableEq κ] {knd:KeyKind prog w κ}{A:Mb}{E:LM->LN->Prop}{s:LN}
theorem E1(d l:LL)(lo:(d==NB)=false)(kvs:List (κ×LM))(ep:Nat)(ys:Array LM):
  MeetsIn prog w (Nf.«zip.__new__» ⟨[.type "zip",.ref d,.ref l],[]⟩) (fun _ R s=>s.heap.DictAt knd d kvs ep/\s.heap.IsList l ys/\R (.ok (.ret (.ref (Ia s.heap d kvs.length ep l).objs.size))) {s with heap:=Lv s.heap d kvs.length ep l}):=by
 refine Si fun A R s h=>?_
 obtain⟨hp,g,dr,tk,os⟩:=s
 obtain⟨hm,hl,h⟩:=h
 have hsub:=sub_zip
 have hL:Heap.IsList (Shared.heap ⟨hp.push (nR d kvs.length ep),g,dr,tk,os⟩) l ys:=Wu hl _
 unfold nR at hL
 wp_walk using(Pp (knd:=knd) lo hm),(Qn hL)
 exact⟨_,rfl,h⟩
theorem xo{d l:LL}(lo:(d==NB)=false){kvs:List (κ×LM)}{ep:Nat}{ys:Array LM}{Q:LM->LN->Prop}(hm:s.heap.DictAt knd d kvs ep)(hl:s.heap.IsList l ys)
  (q:∀h',M6 h' (s.heap.objs.size+4) (s.heap.objs.size+2) (s.heap.objs.size+3) .none->ME h' (s.heap.objs.size+2) (.ref s.heap.objs.size) (.ref (s.heap.objs.size+1))->ME h' (s.heap.objs.size+3) .none .none->h'.IsKeyIter s.heap.objs.size d 0 kvs.length ep->h'.IsListIter (s.heap.objs.size+1) l 0->
   (∀c o,s.heap.get? c=some o->h'.get? c=some o)->Q (.ref (s.heap.objs.size+4)) {s with heap:=h'}):LP (model prog w) A (call (.type "zip") [.ref d,.ref l]) Q E s:=by
 refine callType_newIn VH (by decide) (Wi _ _) (Vg _ _) (fun obj=>U2 obj _ _) Vo (E1 (knd:=knd) d l lo kvs ep ys) ⟨hm,hl,?_⟩
 have a1:(JC s.heap d kvs.length ep).objs.size=s.heap.objs.size+1:=Nl ..
 have a2:(HQ s.heap d kvs.length ep l).objs.size=s.heap.objs.size+2:=by unfold HQ;rw[Nl,a1]
 have a3:(ID s.heap d kvs.length ep l).objs.size=s.heap.objs.size+3:=by unfold ID;rw[Nl,a2]
 have a4:(Ia s.heap d kvs.length ep l).objs.size=s.heap.objs.size+4:=by unfold Ia;rw[Nl,a3]
 have b1:∀c o,s.heap.get? c=some o->(JC s.heap d kvs.length ep).get? c=some o:=fun c o e=>Mq _ e
 have b2:∀c o,(JC s.heap d kvs.length ep).get? c=some o->(HQ s.heap d kvs.length ep l).get? c=some o:=fun c o e=>Mq _ e
 have b3:∀c o,(HQ s.heap d kvs.length ep l).get? c=some o->(ID s.heap d kvs.length ep l).get? c=some o:=fun c o e=>Mq _ e
 have b4:∀c o,(ID s.heap d kvs.length ep l).get? c=some o->(Ia s.heap d kvs.length ep l).get? c=some o:=fun c o e=>Mq _ e
 have b5:∀c o,(Ia s.heap d kvs.length ep l).get? c=some o->(Lv s.heap d kvs.length ep l).get? c=some o:=fun c o e=>Mq _ e
 have g1:=b5 _ _ (b4 _ _ (b3 _ _ (b2 _ _ (Mu s.heap (o:=nR d kvs.length ep) rfl))))
 have g2:=b5 _ _ (b4 _ _ (b3 _ _ (Mu (JC s.heap d kvs.length ep) (o:=EY l) rfl)))
 have g3:=b5 _ _ (b4 _ _ (Mu (HQ s.heap d kvs.length ep l) (o:={cls:=.type "tuple",data:=.seq #[.ref s.heap.objs.size,.ref (JC s.heap d kvs.length ep).objs.size]}) rfl))
 have g4:=b5 _ _ (Mu (ID s.heap d kvs.length ep l) (o:={cls:=.type "tuple",data:=.seq #[.none,.none]}) rfl)
 have g5:(Lv s.heap d kvs.length ep l).get? (Ia s.heap d kvs.length ep l).objs.size=some _:=Mu _ rfl
 rw[a1]at g2
 rw[a2,a1]at g3
 rw[a3]at g4
 rw[a4,a2,a3]at g5
 show _/\_
 rw[a4]
 exact⟨⟨_,g5,rfl⟩,q _ g5 g3 g4 ⟨_,g1,rfl,rfl⟩ ⟨_,g2,rfl,rfl⟩ fun c o e=>b5 _ _ (b4 _ _ (b3 _ _ (b2 _ _ (b1 _ _ e))))⟩
end
section
variable {X:Cx}
noncomputable def ER(K:LO)(ta:TA):TI:=fun σ H R=>ta σ H fun vs H1=>∃(d l:LL)(kvs:List (Key×V)),vs=[.ref d,.ref l]/\H1 d=some (.dK kvs)/\(∃ys,aK K H1 l ys)/\d≠l/\∀(o:LS),R (K3 K d l o kvs) (upd H1 d (.frz o (.dK kvs)))
theorem GF{a b:LU}{ta:TA}{elts:List LU}{x1}{p pos pt:L8}(hg:Gl X "zip")(hm:X.mg "zip"=none)(ha:PA X [a,b] ta)(hs:L6 [a,b] X.env=(false,eval a X.env)::L6 [b] X.env:=by rfl)(hs2:(MA pos (L6 [b] X.env)).any (·.1)=false:=by rfl):
  PI X (.Tuple elts x1 pt) (.Call (.Name "zip" p) [a,b] [] pos) (ER X.K ta):=by
 intro pins s σ H R I h
 refine Call_ (jx I hg hm boot_zip (OC (ck (ha pos pins s σ H _ I h) fun us s1 ⟨vs,H1,I1,r1,q1⟩=>?_) hs hs2))
 obtain⟨d,l,kvs,e,hd,⟨ys,hS2⟩,hdl,q⟩:=q1
 subst e
 cases r1 with
 |cons r rr=>
  cases rr with
  |cons r' rr=>
   cases rr
   cases r
   cases r'
   obtain⟨z,hdS,vs,rel,dd⟩:=fu I1.hok (.inl hd)
   have hlen:kvs.length=vs.length:=Mr rel
   obtain⟨o,es,ep,ho,hex,hdat,r⟩:=id dd
   have IF:=I1.freeze hd ho
   have hat:s1.heap.DictAt (aS X.prog X.w) d vs ep:=⟨o,es,ho,hex,hdat,r⟩
   obtain⟨its2,rv2,pl2,hz2⟩:=I1.list hS2
   have lt1:d<s1.heap.objs.size:=I1.hok.lt hd
   have lt2:l<s1.heap.objs.size:=by obtain⟨o,e,_⟩:=pl2.isList;exact Mi e
   refine xo (knd:=aS X.prog X.w) hdS hat pl2.isList fun h' kz kTI kTO k1 k2 hk=>?_
   refine QS kz ?_
   refine⟨s1.heap.objs.size+4,[s1.heap.objs.size+4,s1.heap.objs.size+3,s1.heap.objs.size,s1.heap.objs.size+1,s1.heap.objs.size+2],_,_,_,rfl,IF.kept (t':=s1.toks) hk,DK d l _ _ _ _ _ o es ep hdat kvs (Tf _ _ _ lt1 lt2),⟨kz,kTI,⟨_,_,kTO⟩,by rw[hlen];exact k1,k2⟩,fun c hc=>?_,q o⟩
   have hc':s1.heap.objs.size<=c:=by
    have hc':c=s1.heap.objs.size+4\/c=s1.heap.objs.size+3\/c=s1.heap.objs.size\/c=s1.heap.objs.size+1\/c=s1.heap.objs.size+2:=by simpa using hc
    rcases hc' with e|e|e|e|e
    ·rw[e];exact Ox _ _
    ·rw[e];exact Ox _ _
    ·rw[e];exact L0 _
    ·rw[e];exact Ox _ _
    ·rw[e];exact Ox _ _
   exact IF.fpOk hc' (IF.hok.fresh hc')
end
theorem G0{K:LO}{d l:LL}{o:LS}{kvs:List (Key×V)}{ys:List V}(p r:Nat)(u:Nat->V)(hu:∀i q,kvs[i]?=some q->kV q.1=u i)(hl:kvs.length<=ys.length):
  Ys (K3 K d l o kvs) (fK K 2 (bq (au p) (bq (au r) fN))) (fun H=>H d=some (.frz o (.dK kvs))/\aK K H l ys) kvs.length (fun i σ=>(σ.set p (some (u i))).set r (some (ys.getD i .non))) where
 go:=fun i H hi h=>⟨h.1,ys,ys[i]'(by omega),kvs[i],h.2,Mg (by omega),Mg hi⟩
 stop:=fun H h=>⟨h.1,rfl⟩
 yld:=fun i H x H' σ Q hi h y q=>by
  obtain⟨T,w,v,rfl,hT,rfl,hw,hv⟩:=y
  have e:ys.getD i .non=v:=by simp[Mf,hv ys h.2]
  exists T,_,rfl,gf.of ao,rfl,_,_,rfl,_,_,rfl,rfl
  have:=q _ (av.updN hT (o:=.tup [kV w.1,v]))
  rw[<-hu i w hw,e]at this
  exact this
theorem nY:Pt (.type "zip") "keys"=pure none:=by rw[QP,builtinLookup_eq_fast];kernel_rfl
theorem qt:Pt (.type "zip") "__getattr__"=pure none:=by rw[QP,builtinLookup_eq_fast];kernel_rfl
theorem kL:entryFor table "zip.__getattribute__"=some Nf.«object.__getattribute__»:=
 entryFor_alias (id':="object.__getattribute__") (by kernel_rfl) (by decide +kernel) (by decide +kernel) (by kernel_rfl)
theorem sV(a:LL)(xs:Array LM)(sl:Array (Option LM))(u:Tok):
  Meets (Nf.«object.__getattribute__» ⟨[.ref a,.str "keys" u],[]⟩) (fun A R s=>s.heap.get? a=some {cls:=.type "zip",dict:=none,data:=.fields xs,slots:=sl}/\raisesAttr (.ref a) "keys" A R s):=
 Meets.of_wp fun prog w A R s hs=>by
  obtain⟨hp,g,d,tk,os⟩:=s
  obtain⟨hx,hs⟩:=hs
  have hT:(⟨hp,g,d,tk,os⟩:LN).TypeIs (.ref a) "zip":=⟨_,hx,rfl⟩
  have hmiss:=nY
  have hname:(["__module__","__name__","__qualname__","__doc__","__annotations__"]:List LK).contains "keys"=false:=by decide +kernel
  unfold Nf.«object.__getattribute__»
  repeat (any_goals (first|assumption|wp_step))
  exact wpAny_raiseAttrError hs.1 hs.2 (attrMsg_fits (by decide +kernel) (by size_fits))
section
variable {prog:L5}{w:LZ}{A:Mb}{E:LM->LN->Prop}{s:LN}
theorem BW{a:LL}{o:LS}{xs:Array LM}{Q:Option LM->LN->Prop}(hx:s.heap.get? a=some o)(hc:o.cls=.type "zip")(hdat:o.data=.fields xs)(hd:o.dict=none)(hA:A.handled=none)
  (h:∀h' tk,(∀b o,s.heap.get? b=some o->h'.get? b=some o)->Q none {s with heap:=h',toks:=tk}):LP (model prog w) A (getAttr? (.ref a) "keys") Q E s:=by
 obtain⟨c,dct,dat,sl⟩:=o
 simp only at hc hdat hd
 subst hc hdat hd
 obtain⟨hp,g,d,tk,os⟩:=s
 have hT:∀tk',(⟨hp,g,d,tk',os⟩:LN).TypeIs (.ref a) "zip":=fun _=>⟨_,hx,rfl⟩
 have f1:=sub_AttributeError
 have f3:=Rj.lookup
 have f4:=Rj.bind (.ref a)
 have f5:=qt
 have f6:=nY
 unfold getAttr? getAttrBy? getAttrBy
 repeat (any_goals (first|assumption|exact hT _|((with_reducible show LP _ _ (call (O5 "zip.__getattribute__") _ _) _ _ _);refine N3 Rj (hT _) kL (Wj _ _) (sV a xs sl _) ⟨hx,hA,fun h' tk' e hx'=>?_⟩)|wp_step))
 obtain⟨t',u',he⟩:=hx'.there
 show LP _ _ (P1 _ _ _ _ _ _ _) _ _ _
 unfold P1
 repeat (any_goals (first|assumption|wp_step))
 exact h _ _ hx'.keeps
end
noncomputable abbrev jn(h:LV)(z TI TO:LL)(f0:LM)(f:Bool):Prop:=h.get? z=some {cls:=.type "zip",data:=.fields #[f0,.bool f,.bool false,.ref TI,.ref TO]}
section
variable {prog:L5}{w:LZ}{κ:Type} [DecidableEq κ] {knd:KeyKind prog w κ}{A:Mb}{E:LM->LN->Prop}{s:LN}
variable {z TI TO i1 i2 d l T:LL}{n ep:Nat}{kvs:List (κ×LM)}{ys:Array LM}{f:Bool}{oT:LS}
theorem xi{Q:Bool->LN->Prop}(hz:jn s.heap z TI TO (MN T) f)(hT:s.heap.get? T=some oT)(q:∀h',jn h' z TI TO (MN T) true->NM z s.heap h'->Q false {s with heap:=h'}):
  LP (model prog w) A (P5 (.ref z)) Q E s:=by
 unfold P5
 refine LQ (MV hz rfl (x:=MN T) rfl ?_)
 show LP _ _ (loadIfAlive ((T:Int).toNat) >>= _) _ _ _
 rw[QN]
 refine LQ (kdx_alive hT ?_)
 simp only[Option.isNone_some,Ov,if_false]
 refine LQ (MV hz rfl (x:=.bool f) rfl ?_)
 cases f with
 |true=>
  rw[if_neg (show ¬((Om true != Om true)=true)from MM)]
  exact Mc (q _ hz (We _ _))
 |false=>
  rw[if_pos (show(Om false != Om true)=true from rfl)]
  exact LQ (O6 hz (by simp) fun h₃ he₃ hs₃=>Mc (q h₃ he₃ hs₃))
theorem Eb{k:κ}{v y:LM}{Q:LM->LN->Prop}(D:Nz z TI TO i1 i2 d l)(hz:jn s.heap z TI TO (MN T) f)(hT:s.heap.get? T=some oT)(hTI:ME s.heap TI (.ref i1) (.ref i2))
  (h1:s.heap.IsKeyIter i1 d n kvs.length ep) (hd:s.heap.DictAt knd d kvs ep) (h2:s.heap.IsListIter i2 l n) (hl:s.heap.IsList l ys) (hx:kvs[n]?=some (k,v)) (hy:ys[n]?=some y)
  (q:∀x h',knd.is k x=true->jn h' z TI TO (MN T) true->h'.IsKeyIter i1 d (n+1) kvs.length ep->h'.IsListIter i2 l (n+1)->ME h' s.heap.objs.size x y->h'.objs.size=s.heap.objs.size+1->dN s z TO i1 i2 h'->Q (.ref s.heap.objs.size) {s with heap:=h'}):
  LP (model prog w) A (Nf.«zip.__next__» ⟨[.ref z],[]⟩) (fun fin s'=>∃v,fin=.done (.ret v)/\Q v s') E s:=by
 show LP _ _ (field (.ref z) 2 >>= _) _ _ _
 refine LQ (MV hz rfl (x:=.bool false) rfl (LQ (MV hz rfl (x:=.ref TI) rfl (LQ (Ob hTI rfl (LQ ?_))))))
 refine xi hz hT fun m1 z1 e1=>?_
 simp only[Ov,if_false]
 refine LQ ?_
 simp only[<-TQ,Pr,Po]
 refine LQ (LQ (N1 ?_))
 show LP _ _ (NQ (.ref i1) >>= _) _ _ _
 refine LQ (kn (knd:=knd) (h1.at fun o e=>e1.extBut _ _ D.i1z e) (hd.extBut e1.extBut D.l1z) hx fun x m2 hkey g1 e2=>Mc (Mc ?_))
 refine LQ (LQ (N1 ?_))
 show LP _ _ (NQ (.ref i2) >>= _) _ _ _
 refine LQ (Ur (h2.at fun o e=>e2.extBut _ _ D.i12.symm (e1.extBut _ _ D.i2z e)) (hl.at fun o e=>e2.extBut _ _ D.l2i1 (e1.extBut _ _ D.l2z e)) hy fun m3 g2 e3=>Mc (Mc (Mc ?_)))
 show LP _ _ (newTuple [x,y] >>= _) _ _ _
 refine LQ (wpAny_newTuple (Mc ⟨_,rfl,?_⟩))
 have sz:m3.objs.size=s.heap.objs.size:=by rw[e3.1,e2.1,e1.1]
 have old:∀c o,c≠z->c≠i1->c≠i2->s.heap.get? c=some o->m3.get? c=some o:=fun c o c1 c3 c4 e=>e3.extBut _ _ c4 (e2.extBut _ _ c3 (e1.extBut _ _ c1 e))
 have z3:jn m3 z TI TO (MN T) true:=e3.extBut _ _ D.i2z.symm (e2.extBut _ _ D.i1z.symm z1)
 have t8:ME (m3.push {cls:=.type "tuple",data:=.seq #[x,y]}) m3.objs.size x y:=Mu _ rfl
 show Q (.ref m3.objs.size) _
 rw[sz]
 rw[sz]at t8
 exact q x (m3.push {cls:=.type "tuple",data:=.seq #[x,y]}) hkey (Mq _ z3) (g1.at fun o e=>Mq _ (e3.extBut _ _ D.i12 e)) (g2.at fun o e=>Mq _ e) t8 (by rw[Nl,sz]) fun c o c1 _ c3 c4 e=>Mq _ (old c o c1 c3 c4 e)
theorem Fo{Q:Fin->LN->Prop}(hA:A.handled=none)(D:Nz z TI TO i1 i2 d l)(hz:jn s.heap z TI TO (MN T) f)(hT:s.heap.get? T=some oT)(hTI:ME s.heap TI (.ref i1) (.ref i2))
  (h1:s.heap.IsKeyIter i1 d n kvs.length ep) (hd:s.heap.DictAt knd d kvs ep) (hx:kvs[n]?=none)
  (q:∀h' e,dN s z TO i1 i2 h'->(∃o,h'.get? e=some o/\o.cls=.type "StopIteration")->E (.ref e) {s with heap:=h'}):LP (model prog w) A (Nf.«zip.__next__» ⟨[.ref z],[]⟩) Q E s:=by
 show LP _ _ (field (.ref z) 2 >>= _) _ _ _
 refine LQ (MV hz rfl (x:=.bool false) rfl (LQ (MV hz rfl (x:=.ref TI) rfl (LQ (Ob hTI rfl (LQ ?_))))))
 refine xi hz hT fun m1 z1 e1=>?_
 simp only[Ov,if_false]
 refine LQ ?_
 simp only[<-TQ,Pr,Po]
 refine LQ (LQ (N1 ?_))
 show LP _ _ (NQ (.ref i1) >>= _) _ _ _
 exact LQ (mG (knd:=knd) hA (h1.at fun o e=>e1.extBut _ _ D.i1z e) (hd.extBut e1.extBut D.l1z) hx fun m2 e e2 he=>q m2 e (fun c o c1 _ c3 _ x=>e2 _ _ c3 (e1.extBut _ _ c1 x)) he)
theorem vE{k:κ}{v y:LM}{Q:Option LM->LN->Prop}(D:Nz z TI TO i1 i2 d l)(hz:jn s.heap z TI TO (MN T) f)(hT:s.heap.get? T=some oT)(hTI:ME s.heap TI (.ref i1) (.ref i2))
  (h1:s.heap.IsKeyIter i1 d n kvs.length ep) (hd:s.heap.DictAt knd d kvs ep) (h2:s.heap.IsListIter i2 l n) (hl:s.heap.IsList l ys) (hx:kvs[n]?=some (k,v)) (hy:ys[n]?=some y)
  (q:∀x h',knd.is k x=true->jn h' z TI TO (MN T) true->h'.IsKeyIter i1 d (n+1) kvs.length ep->h'.IsListIter i2 l (n+1)->ME h' s.heap.objs.size x y->h'.objs.size=s.heap.objs.size+1->dN s z TO i1 i2 h'->Q (some (.ref s.heap.objs.size)) {s with heap:=h'}):
  LP (model prog w) A (M8 (.ref z)) Q E s:=by
 have hTy:s.TypeIs (.ref z) "zip":=⟨_,hz,rfl⟩
 unfold M8
 exact LQ (Qy (PD (name:=Pq "__next__") hTy Oz (O7 Oz hTy Qm (Eb D hz hT hTI h1 hd h2 hl hx hy fun x h' a0 a1 a3 a4 a5 a6 a7=>Mc (q x h' a0 a1 a3 a4 a5 a6 a7)) (Qc _))))
theorem yB{Q:Option LM->LN->Prop}(hA:A.handled=none)(D:Nz z TI TO i1 i2 d l)(hz:jn s.heap z TI TO (MN T) f)(hT:s.heap.get? T=some oT)(hTI:ME s.heap TI (.ref i1) (.ref i2))
  (h1:s.heap.IsKeyIter i1 d n kvs.length ep) (hd:s.heap.DictAt knd d kvs ep) (hx:kvs[n]?=none) (q:∀h',dN s z TO i1 i2 h'->Q none {s with heap:=h'}):LP (model prog w) A (M8 (.ref z)) Q E s:=by
 have hTy:s.TypeIs (.ref z) "zip":=⟨_,hz,rfl⟩
 unfold M8
 refine LQ (Qy (PD (name:=Pq "__next__") hTy Oz (O7 Oz hTy Qm (Fo (knd:=knd) (by first|exact hA|exact(show A.in1.handled=none from hA)) D hz hT hTI h1 hd hx fun h' e hk ⟨o,ho,hc⟩=>?_) (Qc _))))
 exact LQ (wpAny_isInstance (T:="StopIteration") (b:=true) ⟨o,ho,hc⟩ isSubtype_stop (Mc (q _ hk)))
noncomputable def uh(h:LV)(z TI TO i1 i2 d l D:LL)(i n ep:Nat):Prop:=
 ((M6 h z TI TO .none/\∃u v,ME h TO u v)\/∃(T:LL)(oT:LS)(f:Bool),jn h z TI TO (MN T) f/\h.get? T=some oT/\T≠z/\T≠TO/\T≠i1/\T≠i2/\T≠D)/\ME h TI (.ref i1) (.ref i2)/\h.IsKeyIter i1 d i n ep/\h.IsListIter i2 l i
theorem uh.at{h h':LV}{Dn:LL}{i:Nat}(x:uh h z TI TO i1 i2 d l Dn i n ep)(k:∀b o,b≠Dn->h.get? b=some o->h'.get? b=some o)(a1:z≠Dn)(a2:TI≠Dn)(a3:TO≠Dn)(a4:i1≠Dn)(a5:i2≠Dn):uh h' z TI TO i1 i2 d l Dn i n ep:=by
 obtain⟨x1,x2,x3,x4⟩:=x
 refine⟨?_,k _ _ a2 x2,x3.at fun o e=>k _ _ a4 e,x4.at fun o e=>k _ _ a5 e⟩
 rcases x1 with⟨p,u,v,r⟩|⟨T,oT,f,p,r,t1,t2,t3,t4,t5⟩
 ·exact .inl ⟨k _ _ a1 p,u,v,k _ _ a3 r⟩
 ·exact .inr ⟨T,oT,f,k _ _ a1 p,k _ _ t5 r,t1,t2,t3,t4,t5⟩
theorem Bv{k:κ}{v y:LM}{Dn:LL}{Q:Option LM->LN->Prop}(D:Nz z TI TO i1 i2 d l)(hs:uh s.heap z TI TO i1 i2 d l Dn n kvs.length ep)(hDn:Dn<s.heap.objs.size)(hd:s.heap.DictAt knd d kvs ep)(hl:s.heap.IsList l ys)(hx:kvs[n]?=some (k,v))(hy:ys[n]?=some y)
  (q:∀x h',knd.is k x=true->uh h' z TI TO i1 i2 d l Dn (n+1) kvs.length ep->ME h' s.heap.objs.size x y->h'.objs.size=s.heap.objs.size+1->dN s z TO i1 i2 h'->Q (some (.ref s.heap.objs.size)) {s with heap:=h'}):LP (model prog w) A (M8 (.ref z)) Q E s:=by
 obtain⟨x1,hTI,h1,h2⟩:=hs
 have kTI:∀h',dN s z TO i1 i2 h'->ME h' TI (.ref i1) (.ref i2):=fun h' hk=>hk _ _ D.TIz D.TITO D.TIi1 D.TIi2 hTI
 have l1:i1<s.heap.objs.size:=by obtain⟨o,e,_⟩:=h1;exact Mi e
 have l2:i2<s.heap.objs.size:=by obtain⟨o,e,_⟩:=h2;exact Mi e
 rcases x1 with⟨hz,u,v',hTO⟩|⟨T,oT,f,hz,hT,t1,t2,t3,t4,t5⟩
 ·refine nB (knd:=knd) D hz hTI hTO h1 hd h2 hl hx hy fun x h' a0 a1 a2 a3 a4 a5 a6 a7=>q x h' a0 ⟨.inr ⟨_,_,false,a1,a5,?_,?_,?_,?_,?_⟩,kTI _ a7,a3,a4⟩ a5 a6 a7
  ·exact Nh (Mi hz)
  ·exact Nh (Mi hTO)
  ·exact Nh l1
  ·exact Nh l2
  ·exact Nh hDn
 ·exact vE (knd:=knd) D hz hT hTI h1 hd h2 hl hx hy fun x h' a0 a1 a3 a4 a5 a6 a7=>q x h' a0 ⟨.inr ⟨T,oT,true,a1,a7 _ _ t1 t2 t3 t4 hT,t1,t2,t3,t4,t5⟩,kTI _ a7,a3,a4⟩ a5 a6 a7
theorem Ee{Dn:LL}{Q:Option LM->LN->Prop}(hA:A.handled=none)(D:Nz z TI TO i1 i2 d l)(hs:uh s.heap z TI TO i1 i2 d l Dn n kvs.length ep)(hd:s.heap.DictAt knd d kvs ep)(hx:kvs[n]?=none)
  (q:∀h',dN s z TO i1 i2 h'->Q none {s with heap:=h'}):LP (model prog w) A (M8 (.ref z)) Q E s:=by
 obtain⟨x1,hTI,h1,h2⟩:=hs
 rcases x1 with⟨hz,u,v',hTO⟩|⟨T,oT,f,hz,hT,t1,t2,t3,t4,t5⟩
 ·exact ph (knd:=knd) hA D hz hTI h1 hd hx q
 ·exact yB (knd:=knd) hA D hz hT hTI h1 hd hx q
end
section
variable {prog:L5}{w:LZ}{κ:Type} [DecidableEq κ] {knd:KeyKind prog w κ}{A:Mb}{R:Result->LN->Prop}{E:LM->LN->Prop}
variable {z TI TO i1 i2 d l Dn:LL}{ep:Nat}{kvs:List (κ×LM)}{ys:Array LM}
theorem Df(hA:A.handled=none)(Dz:Nz z TI TO i1 i2 d l)(a1:z≠Dn)(a2:TI≠Dn)(a3:TO≠Dn)(a4:i1≠Dn)(a5:i2≠Dn)(a6:d≠Dn)(a7:l≠Dn)(vs:List (κ×LM))(res:LM)
  (hlen:vs.length=kvs.length) (hvs:∀(i:Nat)(p:κ×LM),vs[i]?=some p->∃v,kvs[i]?=some (p.1,v)/\ys[i]?=some p.2) (hn:vs.length<=1000) (nd:(vs.map (·.1)).Nodup):
  ∀(k i:Nat)(s:LN),kvs.length-i=k->i<=kvs.length->uh s.heap z TI TO i1 i2 d l Dn i kvs.length ep->s.heap.DictAt knd d kvs ep->s.heap.IsList l ys->s.heap.DictOf knd Dn (vs.take i)->
   (∀h' tk,(∀b o,b≠z->b≠TO->b≠i1->b≠i2->b≠Dn->s.heap.get? b=some o->h'.get? b=some o)->h'.DictOf knd Dn vs->R (.ok (.ret res)) {s with heap:=h',toks:=tk})->
   NL (model prog w) A (.builtin "dict.update.loop" ⟨[.ref Dn,.ref z,.int i 0,res],[]⟩) R s:=by
 have dstay:∀{kvs:List (κ×LM)}{h h':LV},h.DictOf knd Dn kvs->(∀o,h.get? Dn=some o->h'.get? Dn=some o)->h'.DictOf knd Dn kvs:=fun x k=>let ⟨o,es,ep,ho,r⟩:=x;⟨o,es,ep,k o ho,r⟩
 intro k
 induction k with
 |zero=>
  intro i s hk hi hst hd hl hD hR
  have hin:i=kvs.length:=by omega
  rw[Nt (by omega)]at hD
  refine codeAny_builtin mS ?_
  rw[Pe eR _]
  show LP _ A.in1 (M8 (.ref z) >>= _) _ _ s
  refine LQ (Ee (knd:=knd) hA Dz hst hd (NR (by omega)) fun h' hk=>?_)
  show LP _ A.in1 (Ua Dn [] >>= fun _=>ret res) _ _ _
  exact LQ (Mc (Mc (hR h' s.toks (fun b o b1 b2 b3 b4 _ e=>hk b o b1 b2 b3 b4 e) (dstay hD fun o e=>hk Dn o a1.symm a3.symm a4.symm a5.symm e))))
 |succ k ih=>
  intro i s hk hi hst hd hl hD hR
  have hlt:i<kvs.length:=by omega
  have hvi:vs[i]?=some vs[i]:=Mg (by omega)
  generalize vs[i]=p at hvi
  obtain⟨x0,hx,hy⟩:=hvs i p hvi
  have hDlt:Dn<s.heap.objs.size:=by obtain⟨o,_,_,ho,_⟩:=id hD;exact Mi ho
  refine codeAny_builtin mS ?_
  rw[Pe eR _]
  show LP _ A.in1 (M8 (.ref z) >>= _) _ _ s
  refine LQ (Bv (knd:=knd) Dz hst hDlt hd hl hx hy fun key h1 hkey hst1 hp1 hsz1 hk1=>?_)
  have hD1:=dstay hD fun o e=>hk1 Dn o a1.symm a3.symm a4.symm a5.symm e
  show LP _ A.in1 (holding [Mj s.heap.objs.size] _ >>= _) _ _ _
  refine LQ (N1 ?_)
  refine LQ (wpAny_tryCatch ?_)
  unfold Sa
  refine LQ (P7 (T:="tuple") ⟨_,hp1,rfl⟩ ?_)
  rw[if_pos (by decide)]
  refine LQ (Ob hp1 rfl (Mc ?_))
  show LP _ A.in1 (holding [key,p.2] (dictSet Dn key p.2)) _ _ _
  refine N1 (wpAny_dictSet_pairs (knd:=knd) hkey hD1 (fun h2 hd2 hsb=>?_) (by rw[MS,sizeLine_eq];omega))
  have hst2:stored (vs.take i) p.1 p.2=vs.take (i+1):=by
   unfold stored
   rw[if_neg]
   ·rw[Oq,hvi];rfl
   ·intro z
    obtain⟨x,hx,e⟩:=Rk.mp z
    obtain⟨j,hj,ej⟩:=NF hx
    have hj':j<i/\j<vs.length:=by rw[MS]at hj;omega
    rw[Ry]at ej
    have e:x.1=p.1:=by simpa using e
    obtain⟨hi',ei⟩:=Mx.mp hvi
    have:=Ni.mp nd j i (by simp;omega) (by simp;omega) hj'.1
    simp only[QM]at this
    rw[ej,ei]at this
    exact this e
  rw[hst2]at hd2
  have k2:∀b o,b≠Dn->h1.get? b=some o->h2.get? b=some o:=fun b o hb e=>by rw[hsb.2 b hb];exact e
  refine Mc ⟨plainId_quiet eR _,?_⟩
  refine ih (i+1) {s with heap:=h2,toks:=s.toks+1} (by omega) hlt (hst1.at k2 a1 a2 a3 a4 a5) ?_ ?_ hd2 fun h' tk' hk' hS'=>?_
  ·exact hd.at' fun o e=>k2 _ _ a6 (hk1 _ _ Dz.l1z Dz.l1TO Dz.l1i1 Dz.l1i2 e)
  ·exact hl.at fun o e=>k2 _ _ a7 (hk1 _ _ Dz.l2z Dz.l2TO Dz.l2i1 Dz.l2i2 e)
  ·exact hR h' tk' (fun b o b1 b2 b3 b4 b5 e=>hk' b o b1 b2 b3 b4 b5 (k2 _ _ b5 (hk1 b o b1 b2 b3 b4 e))) hS'
theorem vo{s:LN}{Q:LM->LN->Prop}(hh:A.handled=none)(Dz:Nz z TI TO i1 i2 d l)(hz:M6 s.heap z TI TO .none)(hTI:ME s.heap TI (.ref i1) (.ref i2))(hTO:∃u v,ME s.heap TO u v)(h1:s.heap.IsKeyIter i1 d 0 kvs.length ep)(h2:s.heap.IsListIter i2 l 0)
  (hd:s.heap.DictAt knd d kvs ep) (hl:s.heap.IsList l ys) (vs:List (κ×LM)) (hlen:vs.length=kvs.length) (hvs:∀(i:Nat)(p:κ×LM),vs[i]?=some p->∃v,kvs[i]?=some (p.1,v)/\ys[i]?=some p.2) (hn:vs.length<=1000) (nd:(vs.map (·.1)).Nodup)
  (h:∀(h':LV)(tk:Nat),(∀b o,b≠z->b≠TO->b≠i1->b≠i2->s.heap.get? b=some o->h'.get? b=some o)->h'.DictOf knd s.heap.objs.size vs->Q (.ref s.heap.objs.size) {s with heap:=h',toks:=tk}):
  LP (model prog w) A (call (.type "dict") [.ref z]) Q E s:=by
 refine callType_codes (Q₁:=fun obj s₁=>obj=.ref s.heap.objs.size/\s₁={s with heap:=s.heap.push {cls:=.type "dict",data:=.dict #[]}}) S1 (To _) Tv (kt_code_dict_new _ ⟨rfl,rfl⟩) ?_
 rintro obj s₁ ⟨rfl,rfl⟩
 have hnew:(s.heap.push {cls:=.type "dict",data:=.dict #[]}).DictOf knd s.heap.objs.size []:=RU s.heap
 have up:∀b o,s.heap.get? b=some o->(s.heap.push {cls:=.type "dict",data:=.dict #[]}).get? b=some o:=fun b o e=>Mq _ e
 exists hnew.typeIs,Sr _ _
 unfold Nf.«dict.__init__»
 refine LQ ?_
 unfold TU
 refine LQ (wpAny_notOrdered_dict hnew.typeIs ?_)
 show LP _ _ (pure (s.heap.objs.size,[Mj z])) _ _ _
 refine Mc ?_
 show LP _ _ (Qr "dict.__init__" s.heap.objs.size (.ref z) [] .none) _ _ _
 unfold Qr
 refine LQ (P7 (T:="zip") ⟨_,up _ _ hz,rfl⟩ ?_)
 rw[if_pos (by decide)]
 refine LQ (BW (up _ _ hz) rfl rfl rfl hh fun m2 tk2 k2=>?_)
 have up2:∀b o,s.heap.get? b=some o->m2.get? b=some o:=fun b o e=>k2 _ _ (up _ _ e)
 simp only[TF,if_true]
 refine LQ (wpAny_rule ?_)
 refine LQ (QS (up2 _ _ hz) ?_)
 refine Mc ⟨plainId_quiet eR _,?_⟩
 have lt:∀{b:LL}{o:LS},s.heap.get? b=some o->b≠s.heap.objs.size:=fun e=>Ms (Mi e)
 obtain⟨u,v,hTO⟩:=hTO
 have n4:i1≠s.heap.objs.size:=by obtain⟨o,e,_⟩:=h1;exact lt e
 have n5:i2≠s.heap.objs.size:=by obtain⟨o,e,_⟩:=h2;exact lt e
 have n6:d≠s.heap.objs.size:=by obtain⟨o,es,e,_⟩:=hd;exact lt e
 have n7:l≠s.heap.objs.size:=by obtain⟨o,e,_⟩:=hl;exact lt e
 refine Df (knd:=knd) (A:=A.in1) hh Dz (lt hz) (lt hTI) (lt hTO) n4 n5 n6 n7 vs .none hlen hvs hn nd _ 0 {s with heap:=m2,toks:=tk2} rfl (MK _) ⟨.inl ⟨up2 _ _ hz,u,v,up2 _ _ hTO⟩,up2 _ _ hTI,h1.at fun o e=>up2 _ _ e,h2.at fun o e=>up2 _ _ e⟩ (hd.at' fun o e=>up2 _ _ e) (hl.at fun o e=>up2 _ _ e) ?_ fun h' tk' hk hS=>?_
 ·obtain⟨o,es,ep,ho,r⟩:=hnew
  exact⟨o,es,ep,k2 _ _ ho,r⟩
 ·exact⟨rfl,h h' tk' (fun b o b1 b2 b3 b4 e=>hk b o b1 b2 b3 b4 (lt e) (up2 _ _ e)) hS⟩
end
noncomputable def zN(kvs:List (Key×V))(ys:List V):List (Key×V):=kvs.zipWith (fun p y=>(p.1,y)) ys
noncomputable def BK(K:LO)(ta:TA):TE:=fun σ H Q=>ta σ H fun vs H1=>∃(d l:LL)(kvs:List (Key×V))(ys:List V),vs=[.ref d,.ref l]/\H1 d=some (.dK kvs)/\aK K H1 l ys/\kvs.length<=ys.length/\kvs.length<=1000/\(kvs.map (·.1)).Nodup/\∀e,H1 e=none->Q (.ref e) (upd H1 e (.dK (zN kvs ys)))
section
variable {X:Cx}
theorem E9(hc:X.calm=true){a b:LU}{ta:TA}{p p2 pos pos2:L8}(hgd:Gl X "dict")(hmd:X.mg "dict"=none)(hg:Gl X "zip")(hm:X.mg "zip"=none)(ha:PA X [a,b] ta)(hs:L6 [a,b] X.env=(false,eval a X.env)::L6 [b] X.env:=by rfl)(hs2:(MA pos (L6 [b] X.env)).any (·.1)=false:=by rfl)
  (hs3:L6 [.Call (.Name "zip" p) [a,b] [] pos] X.env=[(false,eval (.Call (.Name "zip" p) [a,b] [] pos) X.env)]:=by rfl):
  PE X (.Call (.Name "dict" p2) [.Call (.Name "zip" p) [a,b] [] pos] [] pos2) (BK X.K ta):=by
 intro pins s σ H Q I h
 refine Call_ (jx I hgd hmd boot_dict (OC ?_ hs3 rfl))
 rw[hs3]
 show LP _ _ (spliced ((false,eval (.Call (.Name "zip" p) [a,b] [] pos) X.env)::MA pos2 [])) _ _ s
 refine Rg ?_
 refine Call_ (jx I hg hm boot_zip (OC (ck (ha pos pins s σ H _ I h) fun us s1 ⟨vs,H1,I1,r1,q1⟩=>?_) hs hs2))
 obtain⟨d,l,kvs,ys,e,hd,hS2,hkl,hk1,nd,q⟩:=q1
 subst e
 cases r1 with
 |cons r rr=>
  cases rr with
  |cons r' rr=>
   cases rr
   cases r
   cases r'
   obtain⟨zz,hdS,vs,rel,dd⟩:=fu I1.hok (.inl hd)
   have hlen:kvs.length=vs.length:=Mr rel
   obtain⟨o,es,ep,ho,hex,hdat,r⟩:=id dd
   have hat:s1.heap.DictAt (aS X.prog X.w) d vs ep:=⟨o,es,ho,hex,hdat,r⟩
   obtain⟨its2,rv2,pl2,hz2⟩:=I1.list hS2
   have lt1:d<s1.heap.objs.size:=I1.hok.lt hd
   have lt2:l<s1.heap.objs.size:=by obtain⟨o,e,_⟩:=pl2.isList;exact Mi e
   have hil:ys.length=its2.length:=rv2.length
   refine xo (knd:=aS X.prog X.w) hdS hat pl2.isList fun h' kz kTI kTO k1 k2 hk=>QW ?_
   have hkv:KV (zN kvs ys) (vs.zipWith (fun (p:Key×LM) y=>(p.1,y)) its2):=by
    unfold zN
    clear q nd hk1 hkl hat r hdat hex ho dd hlen zz hd hS2 pl2 k1 hz2 hil
    induction rel generalizing ys its2 with
    |nil=>exact .nil
    |cons h _ ih=>
     cases rv2 with
     |nil=>exact .nil
     |cons h2 r2=>exact .cons ⟨h.1,h2⟩ (ih _ _ r2)
   have ek:(vs.map (·.1))=kvs.map (·.1):=by
    clear hkv q nd hk1 hkl hat r hdat hex ho dd hlen zz hd k1
    induction rel with
    |nil=>rfl
    |cons h _ ih=>rw[MQ,MQ,ih,h.1]
   have hzl:(vs.zipWith (fun (p:Key×LM) y=>(p.1,y)) its2).length=vs.length:=by rw[Ss];omega
   have ekz:((vs.zipWith (fun (p:Key×LM) y=>(p.1,y)) its2).map (·.1))=vs.map (·.1):=by
    apply O1 (by simp;omega)
    intro i h1 h2
    simp
   refine vo (knd:=aS X.prog X.w) (I.ok.hd hc) (Tf _ _ _ lt1 lt2) kz kTI ⟨_,_,kTO⟩ k1 k2 (hat.at' fun o e=>hk _ _ e) (pl2.isList.at fun o e=>hk _ _ e) (vs.zipWith (fun (p:Key×LM) y=>(p.1,y)) its2) hzl ?_ (by omega) (by rw[ekz,ek];exact nd) fun h2 tk hk2 hD=>?_
   ·intro i p hp
    rw[List.getElem?_zipWith]at hp
    cases e1:vs[i]? with
    |none=>rw[e1]at hp;simp at hp
    |some p1=>
     cases e2:its2[i]? with
     |none=>rw[e1,e2]at hp;simp at hp
     |some y=>
      rw[e1,e2]at hp
      simp at hp
      subst hp
      exact⟨p1.2,rfl,by simpa using e2⟩
   ·have hlt:s1.heap.objs.size<=h'.objs.size:=by
     exact NU (Q9 (Ox _ 4) (Mi kz))
    have kk:∀b u,s1.heap.get? b=some u->h2.get? b=some u:=fun b u e=>by
     have hb:=Mi e
     exact hk2 b u (Ms (MD hb (Ox _ _))) (Ms (MD hb (Ox _ _))) (Ms hb) (Ms (MD hb (Ox _ _))) (hk b u e)
    refine⟨.ref h'.objs.size,_,I1.laid (t':=tk) (a:=h'.objs.size) (o:=.dK (zN kvs ys)) kk hlt (qI ?_ ?_ hkv hD),rfl,q _ (I1.hok.fresh hlt)⟩
    ·rw[zN,Ss]
     exact Ma (Ma (Nat.min_le_left _ _) hk1) (by decide)
    ·exact beq_eq_false_iff_ne.mpr (Mm (Ms (MD I1.big hlt)))
end
structure GZ(d:LL)(kvs:List (Key×V))(o:LS)(H Hf:Hp):Prop where
 fd:Hf d=some (.frz o (.dK kvs))
 low:∀a,Hf a=none->H a=none
 keep:∀a x,a≠d->H a=some x->Hf a=some x
section
variable {K:LO}{mp:List (Option Nat)}{tt:TT}{te td:TE}{ta:TA}{σ:St}{H Hf:Hp}{Q:VK}{d l:LL}{kvs:List (Key×V)}{o:LS}
theorem yX:GZ d kvs o H (upd H d (.frz o (.dK kvs))):=
 ⟨ao,fun a ha=>by
  by_cases h1:a=d
  ·subst h1;rw[ao]at ha;cases ha
  ·rwa [aq h1]at ha,fun a x ha h=>by rw[aq ha];exact h⟩
theorem F7{w:LL}{x:HO}(hw:H w=none):GZ d kvs o H (upd (upd H w x) d (.frz o (.dK kvs))):=
 ⟨ao,fun a ha=>by
  by_cases h1:a=d
  ·subst h1;rw[ao]at ha;cases ha
  ·rw[aq h1]at ha
   by_cases h2:a=w
   ·subst h2;exact hw
   ·rwa [aq h2]at ha,fun a y ha h=>by
  have hw2:a≠w:=fun e=>by rw[e,hw]at h;cases h
  rw[aq ha,aq hw2];exact h⟩
noncomputable def Ik(d:LL)(Q:VK):VK:=fun v H'=>∃o kvs,H' d=some (.frz o (.dK kvs))/\Q v (upd H' d (.dK kvs))
theorem CW{g:TG}(htd:∀k:VK,k (.ref d) H->td σ H k)(hd:H d=some (.dK kvs))(h:∀o Hf,GZ d kvs o H Hf->cO mp g tt te (KN d o kvs) σ Hf (Ik d Q)):gM (bL mp (Ay td) g tt te) σ H Q:=
 ⟨d,kvs,hd,lu (htd _ ⟨d,kvs,rfl,hd,fun o=>h o _ yX⟩)⟩
theorem C9{g:TG}(htd:∀k:VK,k (.ref d) H->td σ H k)(hd:H d=some (.dK kvs))(h:∀o Hf,GZ d kvs o H Hf->cO mp g tt te (Kh d o kvs) σ Hf (Ik d Q)):gM (bL mp (FJ td) g tt te) σ H Q:=
 ⟨d,kvs,hd,lu (htd _ ⟨d,kvs,rfl,hd,fun o v hv hne=>h o _ (F7 hv)⟩)⟩
theorem Bw{g:TG}(htd:∀k:VK,k (.ref d) H->td σ H k)(hd:H d=some (.dK kvs))(h:∀o Hf,GZ d kvs o H Hf->cO mp g tt te (Hr d o kvs) σ Hf (Ik d Q)):gM (bL mp (B5 td) g tt te) σ H Q:=
 ⟨d,kvs,hd,lu (htd _ ⟨d,kvs,rfl,hd,fun o=>h o _ yX⟩)⟩
theorem DO{g:TG}{ys:List V}(hta:∀k:List V->Hp->Prop,k [.ref d,.ref l] H->ta σ H k)(hd:H d=some (.dK kvs))(hl:aK K H l ys)(hne:d≠l)(h:∀o Hf,GZ d kvs o H Hf->cO mp g tt te (K3 K d l o kvs) σ Hf (Ik d Q)):gM (bL mp (ER K ta) g tt te) σ H Q:=
 ⟨d,kvs,hd,lu (hta _ ⟨d,l,kvs,rfl,hd,⟨ys,hl⟩,hne,fun o=>h o _ yX⟩)⟩
variable {J:It}{g:TG}{P:Hp->Prop}{n:Nat}{f:Nat->St->St}
theorem Av(F:GZ d kvs o H Hf)(hd:H d=some (.dK kvs))(Y:Ys J g P n f)(st:Nat->St)(hf:∀i σ',(σ'=cK mp σ\/∃j,σ'=st j)->f i σ'=st i)(hP:∀H',H' d=some (.frz o (.dK kvs))->eB d H H'->P H')(hz:n<=LW)(b:Nat->Bool)(R:LL->Nat->V->Hp->Prop)
  (hR:∀l i v H1 H2,eB l H1 H2->R l i v H1->R l i v H2) (hRd:∀l i v H1,H1 d=some (.frz o (.dK kvs))->R l i v H1->R l i v (upd H1 d (.dK kvs)))
  (ht:∀i,i<n->∀(H':Hp)(G:Bool->Hp->Prop),eB d H H'->(∀H'',av H' H''->G (b i) H'')->tt (st i) H' G)
  (he:∀l i,i<n->b i=true->∀(H':Hp)(G:VK),H l=none->(∃o,H' l=some o)->(∃o,H' d=some o)->eB d H H'->(∀v H'',R l i v H''->av H' H''->G v H'')->te (st i) H' G)
  (hq:∀l ys H2,H l=none->av H H2->H2 l=some (.lst ys)->L7 (fun i v=>R l i v H2) ((Me n).filter b) ys->Q (.ref l) H2):cO mp g tt te J σ Hf (Ik d Q):=by
 have hx:∀H',av Hf H'->eB d H H':=fun H' s a x ha h=>s _ _ (F.keep a x ha h)
 refine d6 Y st hf (fun H' s=>hP H' (s _ _ F.fd) (hx H' s)) hz b R hR (fun i hi H' G s k=>ht i hi H' G (hx H' s) k) (fun l i hi hb H' G h0 h1 s k=>he l i hi hb H' G (F.low l h0) h1 ⟨_,s _ _ F.fd⟩ (hx H' s) k) fun l ys H' h0 s h1 pr=>?_
 have hfd:H' d=some (.frz o (.dK kvs)):=s _ _ F.fd
 have hld:l≠d:=fun e=>by rw[e,F.fd]at h0;cases h0
 refine⟨o,kvs,hfd,hq l ys _ (F.low l h0) (fun a x ha=>?_) (by rw[aq hld];exact h1) (Paired.mapP pr fun i v q=>hRd l i v H' hfd q)⟩
 by_cases h1:a=d
 ·subst h1
  rw[ao,<-hd];exact ha
 ·rw[aq h1]
  exact hx H' s a x h1 ha
theorem xt(F:GZ d kvs o H Hf)(hd:H d=some (.dK kvs))(Y:Ys J g P n f)(st:Nat->St)(hf:∀i σ',(σ'=cK mp σ\/∃j,σ'=st j)->f i σ'=st i)(hP:∀H',H' d=some (.frz o (.dK kvs))->eB d H H'->P H')(hz:n<=LW)(b:Nat->Bool)(U:Nat->V)
  (ht:∀i,i<n->∀(H':Hp)(G:Bool->Hp->Prop),eB d H H'->(∀H'',av H' H''->G (b i) H'')->tt (st i) H' G)
  (he:∀i,i<n->b i=true->∀(H':Hp)(G:VK),eB d H H'->(∀H'',av H' H''->G (U i) H'')->te (st i) H' G)
  (hq:∀l H2,H l=none->av H H2->H2 l=some (.lst (((Me n).filter b).map U))->Q (.ref l) H2):cO mp g tt te J σ Hf (Ik d Q):=by
 refine Av F hd Y st hf hP hz b (fun _ i v _=>v=U i) (fun _ _ _ _ _ _ h=>h) (fun _ _ _ _ _ h=>h) ht (fun l i hi hb H' G _ _ _ s k=>he i hi hb H' G s fun H'' s'=>k _ H'' rfl s') fun l ys H' h0 s h1 pr=>?_
 have e:=kK pr
 subst e
 exact hq l H' h0 s h1
theorem xg(F:GZ d kvs o H Hf)(hd:H d=some (.dK kvs))(Y:Ys J g P n f)(st:Nat->St)(hf:∀i σ',(σ'=cK mp σ\/∃j,σ'=st j)->f i σ'=st i)(hP:∀H',H' d=some (.frz o (.dK kvs))->eB d H H'->P H')(hz:n<=LW)(b:Nat->Bool)(U:Nat->HO)
  (ht:∀i,i<n->∀(H':Hp)(G:Bool->Hp->Prop),eB d H H'->(∀H'',av H' H''->G (b i) H'')->tt (st i) H' G)
  (he:∀i,i<n->b i=true->∀(H':Hp)(G:VK),eB d H H'->(∀a H'',H' a=none->av H' H''->H'' a=some (U i)->G (.ref a) H'')->te (st i) H' G)
  (hq:∀l bs H2,H l=none->av H H2->H2 l=some (.lst (bs.map V.ref))->L7 (fun i a=>H a=none/\a≠l/\H2 a=some (U i)) ((Me n).filter b) bs->Q (.ref l) H2):cO mp g tt te J σ Hf (Ik d Q):=by
 refine Av F hd Y st hf hP hz b (fun l i v H'=>∃a,v=.ref a/\H a=none/\a≠l/\H' a=some (U i)) (fun l i v H1 H2 s ⟨a,e,g0,hl,h1⟩=>⟨a,e,g0,hl,s a _ hl h1⟩) (fun l i v H1 hfr ⟨a,e,g0,hl,h1⟩=>⟨a,e,g0,hl,by
  have:a≠d:=fun z=>by rw[z,hd]at g0;cases g0
  rw[aq this];exact h1⟩) ht
  (fun l i hi hb H' G hl ⟨o,ho⟩ ⟨o2,ho2⟩ s k=>he i hi hb H' G s fun a H'' h0 s' h1=>k _ H'' ⟨a,rfl,?_,(fun e=>by rw[e,ho]at h0;cases h0),h1⟩ s') fun l ys H' h0 s h1 pr=>?_
 ·cases e:H a with
  |none=>rfl
  |some x=>
   have:a≠d:=fun z=>by rw[z,ho2]at h0;cases h0
   rw[s a x this e]at h0;cases h0
 ·obtain⟨bs,rfl,pr'⟩:=i7 (T:=fun a i=>H a=none/\a≠l/\H' a=some (U i)) pr
  exact hq l bs H' h0 s h1 pr'
end
theorem Gw{d:LL}{o:LS}{kvs:List (Key×V)}(p:Nat)(u:Nat->V)(hu:∀i q,kvs[i]?=some q->q.2=u i):
  Ys (Kh d o kvs) (au p) (fun H=>H d=some (.frz o (.dK kvs))) kvs.length (fun i σ=>σ.set p (some (u i))) where
 go:=fun i H hi h=>⟨h,hi⟩
 stop:=fun H h=>⟨h,L0 _⟩
 yld:=fun i H x H' σ Q hi h y q=>by
  obtain⟨e,w,hw,ex⟩:=y
  subst e ex
  rw[hu i w hw]
  exact q _ (av.refl _)
theorem u4{X:Cx}{st:LX}{te:TE}{i:Nat}(h:PS X st (bC te (au i))):PS X st (bC (gM te) (au i)):=by
 intro pins s σ H D I q
 obtain⟨d,kvs0,hd,q⟩:=q
 refine ck (h pins s σ H {nx:=fun σ' H'=>∃o kvs,H' d=some (.frz o (.dK kvs))/\D.nx σ' (upd H' d (.dK kvs)),rt:=fun _ _=>False} I q) fun f s1 q1=>?_
 match f,q1 with
 |.next,⟨σ',H',I',o,kvs,hf,q2⟩=>exact⟨σ',_,Inv.thaw I hd I' hf,q2⟩
 |.brk,⟨σ',H',I',q2⟩=>exact q2.elim
 |.cont,⟨σ',H',I',q2⟩=>exact q2.elim
 |.ret u,⟨v,σ',H',I',r,q2⟩=>exact q2.elim
end L2
namespace L2
open PySem PySem.Spec PyProof.Rows
section
variable {X:Cx}
noncomputable def Hx(te:TE):TE:=fun σ H Q=>te σ H fun x H1=>∃z:LK,x=.str z/\z.length<=LW/\Q (.str z) H1
theorem Gp{e:LU}{te:TE}{pos:L8}(he:PE X e te):PE X (.FormattedValue e (-1) none pos) (Hx te):=by
 intro pins s σ H Q I h
 refine wpAny_FormattedValue_plain (ck (he pins s σ H _ I h) fun v s1 ⟨x,H1,I1,r1,z,hx,hl,q⟩=>?_)
 subst hx
 obtain⟨tk,rfl⟩:=(show ∃t,v=OI z t from r1)
 have fin:∀(t':Tok)(k:Nat),EP X pins σ Q (.str z t') {s1 with toks:=k}:=fun t' k=>⟨.str z,H1,I1.tok k,⟨t',rfl⟩,q⟩
 exact wpAny_formatField_str (fin _ _) (fin _ _) (hx:=hl)
noncomputable def xG:V->List V->Hp->VK->Prop:=fun x vs H Q=>∃(l:LL)(ns:List LK)(i:LK)(j:Nat),x=.ref l/\vs=[.str i]/\H l=some (.lst (ns.map V.str))/\ns[j]?=some i/\(∀m,m<j->ns[m]?≠some i)/\ns.length<1000/\Q (.int j) H
theorem wQ:HL X "list.index" xG:=by
 intro pins s σ H x vs v us Q I rx rv h
 obtain⟨l,ns,i,j,rfl,rfl,hH,hj,hno,hz,q⟩:=h
 cases rx
 obtain⟨u,rfl,ru⟩:=rv.one
 obtain⟨z,its,n,r,hl,e⟩:=I.lstM hH
 have hlen:its.length=ns.length:=by rw[<-r.length,Md]
 have hjl:j<ns.length:=(Mx.mp hj).1
 have at':∀m (hm:m<its.length),∃k,ns[m]?=some k/\yd (.str i) its[m]=decide (k=i):=fun m hm=>by
  have hm':m<ns.length:=by omega
  obtain⟨u',hu,ru'⟩:=r.get (show(ns.map V.str)[m]?=some (.str ns[m]) by simp[hm'])
  have:its[m]=u':=by
   rw[Mg hm]at hu
   exact MB hu
  exists ns[m],by simp[hm']
  rw[this,AX ru' rfl]
  show(ns[m]==i)=decide (ns[m]=i)
  by_cases h:ns[m]=i
  ·rw[h];simp
  ·rw[decide_eq_false h];exact beq_eq_false_iff_ne.mpr h
 refine N3 RF ⟨_,e,rfl⟩ F.entry_list_index (F.args_list_index_2 _ _)
  (SeqAt.list_indexAt l its.toArray n none #[] u (yd (.str i)) j (by rw[MC];omega) (by omega) ?_ ?_) ⟨e,fun y hy=>jG ru rfl r (by rw[PL];exact Ny.mpr fun _ _=>rfl) y (by simpa using hy),?_⟩
 ·obtain⟨k,h1,h2⟩:=at' j (by omega)
  rw[hj]at h1
  cases h1
  show yd (.str i) its[j]=true
  rw[h2]
  exact decide_eq_true rfl
 ·intro m hm hlt
  have hm':m<its.length:=by rw[MC]at hm;exact hm
  obtain⟨k,h1,h2⟩:=at' m hm'
  show yd (.str i) its[m]=false
  rw[h2]
  exact decide_eq_false fun z=>hno m hlt (by rw[h1,z])
 ·exact⟨.int j,H,I.turnedL (h':=s.heap) (t':=s.toks+1) (ch:=[]) (fun b hb=>by cases hb) (fun b o _ q=>q),⟨_,rfl⟩,q⟩
end
section
variable {X:Cx}{k:Nat}{c m:LK}{ps:List LK}{sp:Sp}{o e:LU}{es:List LU}{ta:TE}{t:TA}{apos pos:L8}{pl:Sem Bool}
end
section
variable {mp:List (Option Nat)}{g:TG}{te:TE}{J:It}{P:Hp->Prop}{n:Nat}{f:Nat->St->St}{σ:St}{H:Hp}{Q:VK}
theorem Eh(Y:Ys J g P n f)(st:Nat->St)(hf:∀i σ',(σ'=cK mp σ\/∃j,σ'=st j)->f i σ'=st i)(hP:∀H',av H H'->P H')(hz:n<=LW)(I:LL->Nat->List V->Hp->Prop)
  (h0:∀l H',H l=none->av H H'->I l 0 [] H') (hI:∀l i ys H1 H2,eB l H1 H2->I l i ys H1->I l i ys H2)
  (he:∀l i ys,i<n->∀(H':Hp)(G:VK),H l=none->(∃o,H' l=some o)->av H H'->I l i ys H'->(∀v H'',I l (i+1) (ys++[v]) H''->av H' H''->G v H'')->te (st i) H' G)
  (hd:∀l ys H',H l=none->av H H'->H' l=some (.lst ys)->I l n ys H'->Q (.ref l) H'):cO mp g cY te J σ H Q:=by
 intro l hl
 refine⟨fun i m acc σ' H'=>m=n-i/\i<=n/\acc.length<=i/\av H H'/\H' l=some (.lst acc)/\I l i acc H'/\(σ'=cK mp σ\/∃j,σ'=st j),
  ⟨n,by simp,MK _,L0 _,av.updN hl,ao,h0 l _ hl (av.updN hl),.inl rfl⟩,?_⟩
 rintro i m acc σ' H' ⟨rfl,hi,ha,s,h1,h2,hσ⟩
 by_cases hlt:i<n
 ·refine .inr ⟨Y.go i H' hlt (hP _ s),by omega,fun acc' σ2 H2=>i+1<=n/\acc'.length<=i+1/\av H H2/\H2 l=some (.lst acc')/\I l (i+1) acc' H2/\(σ2=cK mp σ\/∃j,σ2=st j),fun acc' σ2 H2 p'=>⟨n-(i+1),by omega,rfl,p'⟩,fun x H2 y=>?_⟩
  refine Y.yld i H' x H2 σ' _ hlt (hP _ s) y fun H3 s3=>?_
  rw[hf i σ' hσ]
  have ht:∀(G:Bool->Hp->Prop),G true H3->cY (st i) H3 G:=fun G z=>z
  refine ht _ ?_
  refine CY ?_
  refine he l i acc hlt H3 _ hl ⟨_,s3 _ _ h1⟩ (s.trans s3) (hI l i acc _ _ (s3.x l) h2) fun v H5 r s5=>?_
  have s35:=s3.trans s5
  refine⟨s35 _ _ h1,hlt,?_,(s.trans s35).upd hl,ao,hI l _ _ _ _ p8 r,.inr ⟨i,rfl⟩⟩
  rw[MR,Ou];omega
 ·have e:i=n:=by omega
  subst e
  exact .inl ⟨Y.stop H' (hP _ s),hd l acc H' hl s h1 h2⟩
end
end L2
set_option maxHeartbeats 4000000
namespace My
open PySem L2
local macro_rules | `(tactic| walk_at "q") => `(tactic| with_reducible refine AL ?_)
local macro_rules | `(tactic| walk_at "u1") => `(tactic| first
 |with_reducible refine CK ?_
 |with_reducible refine JY ?_
 |with_reducible refine Cf ?_
 |with_reducible refine Jy ?_
 |with_reducible refine Jp ?_
 |((with_reducible show BA _ _ _ _ _ _);refine⟨_,rfl,?_⟩)
 |((with_reducible show ae _ _ _ _);refine⟨_,rfl,?_⟩)
 |with_reducible refine LI ?_
 |with_reducible refine LB ?_
 |with_reducible refine LA ?_
 |with_reducible refine JS ?_
 |with_reducible refine Kt ?_
 |with_reducible refine JT ?_
 |((with_reducible show lz _ _ _ _);first|refine ym (by first|omega|decide) (by first|omega|decide) ?_|refine F8 (by first|omega|decide) (by first|omega|decide) ?_)
 |((with_reducible show oDiv _ _ _ _);refine F0 (by first|omega|decide) (by first|omega|decide) ?_)
 |((with_reducible show oMod _ _ _ _);refine EB (by first|omega|decide) ?_)
 |((with_reducible show vH _ _ _ _);refine KL (by decide) (by decide) (by decide) ?_)
 |with_reducible refine Ll ?_
 |with_reducible refine Lz ?_
 |with_reducible refine Lb ?_
 |with_reducible refine Lf ?_
 |with_reducible refine La ?_
 |with_reducible refine Lj ?_
 |with_reducible refine KW ?_
 |with_reducible refine Ie ?_
 |with_reducible refine JB ?_
 |with_reducible refine Lr ?_
 |with_reducible refine Lh ?_
 |with_reducible refine KH ?_
 |with_reducible refine Lg ?_
 |with_reducible refine KG ?_
 |with_reducible refine Iv ?_
 |with_reducible refine J1 ?_
 |with_reducible refine Ly ?_
 |with_reducible refine Kc ?_
 |with_reducible refine Ji ?_
 |with_reducible refine JE ?_
 |with_reducible refine Lp ?_
 |with_reducible refine KI ?_
 |with_reducible refine J7 ?_
 |with_reducible refine Kf ?_
 |with_reducible refine Jk ?_
 |with_reducible refine Im ?_
 |((with_reducible show ∃i j:Int,_=_/\_);refine G6 (by first|omega|decide) (by first|omega|decide) (by first|omega|decide) (by first|omega|decide) ?_)
 |((with_reducible show ∃j:Int,[V.int _]=[V.int _]/\_);refine Cq (by first|omega|decide) (by first|omega|decide) ?_)
 |with_reducible refine GH ?_
 |with_reducible refine Ln ?_
 |with_reducible refine IT ?_
 |with_reducible refine GI ?_
 |with_reducible refine EU ?_
 |with_reducible refine lu ?_
 |with_reducible refine Lq ?_
 |with_reducible refine KA ?_
 |with_reducible refine Gx ?_)
local macro_rules | `(tactic| walk_at "o1") => `(tactic| first
 |walk_at "u1"
 |((with_reducible show mC _ _ _ _);refine Hy (by assumption) ?_)
 |((with_reducible show DJ _ _ _ _);refine Hz (by assumption) ?_)
 |((with_reducible show ∃b:LL,V.ref _=V.ref _/\_);refine bA (by assumption) ?_))
local macro_rules | `(tactic| walk_at "w") => `(tactic| repeat (first | with_reducible refine AL ?_ | walk_at "o1"))
local macro_rules | `(tactic| walk_at "sq") => `(tactic| first | assumption | exact aK.of (by assumption) | exact av.seq (by assumption) (by walk_at "sq"))
local macro_rules | `(tactic| walk_at "rows") => `(tactic| first | assumption | exact av.rows (by assumption) (by walk_at "rows"))
local macro_rules | `(tactic| walk_at "fits") => `(tactic| first | exact Uh rfl | (refine Ma ?_ bg; simp; done) | (refine Ma ?_ bg; simp; omega) | (refine Ma ?_ bg; omega))
local macro_rules | `(tactic| walk_at "call") => `(tactic| fail)
local macro_rules | `(tactic| walk_at "early") => `(tactic| fail)
local macro_rules | `(tactic| walk_at "v1") => `(tactic| first
 |walk_at "early"
 |walk_at "u1"
 |with_reducible refine Jl ?_
 |((with_reducible show mC _ _ _ _);refine Hy (by walk_at "sq") ?_)
 |((with_reducible show DJ _ _ _ _);refine Hz (by walk_at "sq") ?_)
 |with_reducible refine JG ?_
 |with_reducible refine Iu ?_
 |((with_reducible show HP _ _ _);refine IG (by walk_at "fits") ?_;intro _ _ _ _ _)
 |((with_reducible show HS _ _ _);refine IZ (by walk_at "fits") ?_;intro _ _ _ _ _)
 |((with_reducible show sJ _ _ _ _);refine Dp (by walk_at "sq") ?_;intro _ _ _ _ _)
 |((with_reducible show AS _ false (V.int _) _ _ _);refine Kd (by walk_at "sq") ?_)
 |((with_reducible show Ht _ _ _ _);refine J0 (by walk_at "sq") ?_)
 |((with_reducible show ∃b:LL,V.ref _=V.ref _/\_);refine bA (by walk_at "sq") ?_)
 |with_reducible refine fI ?_
 |with_reducible refine IJ ?_
 |((with_reducible show Bh _ _ _ _ _ _);refine Io (by walk_at "sq") ?_;intro _ _ _ _ _)
 |with_reducible refine CY ?_
 |with_reducible refine Ft ?_
 |with_reducible refine Kn ?_
 |with_reducible refine J6 ?_
 |walk_at "call")
local macro_rules | `(tactic| walk_at "z") => `(tactic| repeat walk_at "v1")
local macro_rules | `(tactic| walk_at "v") => `(tactic| repeat (first | with_reducible refine AL ?_ | walk_at "v1"))
theorem uD{α:Type}{f:α->V}:∀{xs:List α}{g:α->V}{ys:List V},L7 (fun x v=>∃p,x=g p/\v=f p) (xs.map g) ys->(∀p q,g p=g q->p=q)->ys=xs.map f
 |[],_,_,.nil,_=>rfl
 |x::r,g,_,.cons ⟨p,e,e'⟩ t,inj=>by
  have:=inj _ _ e
  subst this
  rw[e',uD t inj]
  rfl
theorem GV:∀p q:Int,V.int p=V.int q->p=q:=fun _ _ e=>V.int.inj e
theorem F1{ns:List Int}{x:V}(h:x∈ns.map V.int):∃i∈ns,x=V.int i:=by
 obtain⟨i,hi,e⟩:=LY.mp h
 exact⟨i,hi,e.symm⟩
theorem Ae(ns:List Int)(lo hi:Option Int):∃ms:List Int,ng (ns.map V.int) lo hi=ms.map V.int/\ms.length<=ns.length/\∀m∈ms,m∈ns:=by
 exists (ns.drop (HT.vC (ns.map V.int).length 0 lo)).take (HT.vC (ns.map V.int).length (ns.map V.int).length hi-HT.vC (ns.map V.int).length 0 lo),?_,?_
 ·unfold ng
  rw[P8,List.map_drop]
 ·rw[MS,Oh]
  omega
 ·intro m hm
  exact Rq (PM hm)
theorem Ig(xs:List V)(lo hi:Nat):(ng xs (some (lo:Int)) (some (hi:Int))).length<=hi-lo:=by
 unfold ng
 rw[HT.sP,HT.sP,MS]
 omega
noncomputable def zD(ps:List Int)(L:Int):Int:=(ps.map (min · L)).sum
noncomputable def FZ(ps:List Int)(price L:Int):Prop:=1<=L/\price<=zD ps L/\zD ps (L-1)<price
theorem za:∀{a b:List Int},a.Perm b->a.sum=b.sum:=by
 intro a b h
 induction h with
 |nil=>rfl
 |cons x _ ih=>simp only[Pc,ih]
 |swap x y l=>simp only[Pc];omega
 |trans _ _ i1 i2=>exact i1.trans i2
theorem Aq{a b:List Int}(h:a.Perm b)(L:Int):zD a L=zD b L:=za (h.map _)
theorem Bg(a b:List Int)(L:Int):zD (a++b) L=zD a L+zD b L:=by
 unfold zD
 rw[MX,PK]
theorem Ah(x:Int)(b:List Int)(L:Int):zD (x::b) L=min x L+zD b L:=by
 unfold zD
 rw[MQ,Pc]
theorem wH{L:Int}:∀{l:List Int},(∀y∈l,y<=L)->zD l L=l.sum
 |[],_=>rfl
 |x::r,h=>by
  have hx:=h x Nd
  rw[Ah,wH fun y hy=>h y (MU _ hy),Pc]
  omega
theorem Ck{L:Int}:∀{l:List Int},(∀y∈l,L<=y)->zD l L=(l.length:Int)*L
 |[],_=>by simp[zD]
 |x::r,h=>by
  have hx:=h x Nd
  rw[Ah,Ck fun y hy=>h y (MU _ hy),MW]
  have e:((r.length+1:Nat):Int)*L=(r.length:Int)*L+L:=by
   rw[Int.natCast_add,QY]
   simp
  rw[e]
  omega
theorem Dv{pre post:List Int}{x m p price:Int}(hp:p=(post.length:Int)+1)(hm:m=price-pre.sum)(hm0:0<m)(hA:∀y∈pre,y*p<m)(hx:m<=x*p)(hpost:∀y∈post,x<=y):
  FZ (pre++x::post) price ((m+p-1)/p):=by
 have p0:0<p:=by omega
 have e:=Int.mul_ediv_add_emod (m+p-1) p
 have r0:=Pm (m+p-1) (show p≠0 by omega)
 have r1:=QE (m+p-1) p0
 generalize (m+p-1)/p=L at *
 generalize (m+p-1)%p=r at *
 have e1:p*(L-1)=p*L-p:=by rw[Uo,RP]
 have hL:L<=x:=by
  rcases N5 x L with h|h
  ·exfalso
   have:x*p<=(L-1)*p:=RN (by omega) (by omega)
   rw[Qt (L-1) p]at this
   omega
  ·exact h
 have hpre:∀y∈pre,y<=L-1:=fun y hy=>by
  rcases N5 y L with h|h
  ·omega
  ·exfalso
   have h1:L*p<=y*p:=RN h (by omega)
   rw[Qt L p]at h1
   have h2:=hA y hy
   omega
 have hL1:1<=L:=by
  rcases N5 0 L with h|h
  ·omega
  ·exfalso
   have:p*L<=p*0:=Int.mul_le_mul_of_nonneg_left h (by omega)
   rw[Int.mul_zero]at this
   omega
 have g:∀M,M<=L->(∀y∈pre,y<=M)->zD (pre++x::post) M=pre.sum+p*M:=fun M hM hpre=>by
  rw[Bg,wH hpre,Ck (l:=x::post) fun y hy=>by
   rcases L9.mp hy with rfl|hy
   ·omega
   ·have:=hpost y hy;omega]
  rw[MW,hp]
  rfl
 exists hL1,?_
 ·rw[g L (Pn _) fun y hy=>by have:=hpre y hy;omega]
  omega
 ·rw[g (L-1) (by omega) hpre]
  omega
theorem Fs{pre:List Int}{x m p:Int}(hp:1<=p)(hx0:0<=x)(hpre:∀y∈pre,y<=x)(hn:¬m<=x*p):0<m-x/\∀y∈pre++[x],y*(p-1)<m-x:=by
 have e:x*(p-1)=x*p-x:=by rw[Uo,RP]
 have z:0<=x*(p-1):=Sh hx0 (by omega)
 refine⟨by omega,fun y hy=>?_⟩
 rcases Mp.mp hy with h|h
 ·have:y*(p-1)<=x*(p-1):=RN (hpre y h) (by omega)
  omega
 ·have:y=x:=by simpa using h
  subst this
  omega
theorem E7(l:List Int)(x:Int):(l++[x]).sum=l.sum+x:=by
 rw[PK]
 simp
theorem bT{α β:Type}(f:α->β)(d:α)(xs:List α):(Me xs.length).map (fun i=>f (xs.getD i d))=xs.map f:=by
 apply O1
 ·simp
 ·intro k h1 h2
  have hk:k<xs.length:=by simpa using h1
  simp[Mf,hk]
theorem tU{α β:Type}{F:α->β->Prop}:∀{a c:List α}{b d:List β},L7 F a b->L7 F c d->L7 F (a++c) (b++d)
 |_,_,_,_,.nil,h=>h
 |_,_,_,_,.cons r t,h=>.cons r (tU t h)
noncomputable def ni:Nat->Nat
 |0=>1
 |n+1=>NY (ni n) (n+1)
theorem yi:∀n,0<ni n
 |0=>Nat.one_pos
 |n+1=>S0 (yi n) (R4 n)
theorem xm:∀n,n<21->ni n<=232792560:=by decide +kernel
theorem Hj:∀n,n<21->∀k,k<21->(1<=k/\k<=n)->k∣ni n:=by decide +kernel
theorem FG{s n m:Nat}(hs:0<s)(hn:0<n)(hm:s∣m)(hle:m<=NY s n)(hne:m%n≠0):m+s<=NY s n:=by
 obtain⟨a,rfl⟩:=hm
 obtain⟨b,hb⟩:=TV s n
 have h1:n∣NY s n:=Nat.dvd_lcm_right s n
 have h2:s*a≠NY s n:=fun e=>hne (Nat.mod_eq_zero_of_dvd (e▸h1))
 rw[hb]at hle h2 ⊢
 have h3:a<b:=by
  rcases Ue a b with h|h
  ·exact h
  ·exact absurd (Qj hle (TK s h)) h2
 calc s*a+s=s*(a+1):=by rw[Nat.mul_add,Nat.mul_one]
  _<=s*b:=TK s h3
theorem GP{s n m:Nat}(hm0:0<m)(hm:s∣m)(hle:m<=NY s n)(h0:m%n=0):m=NY s n:=
 Qj hle (T7 hm0 (Nat.lcm_dvd hm (Nat.dvd_of_mod_eq_zero h0)))
noncomputable def HG(w:Nat)(b:Nat->Bool):List Int:=((Me w).filter b).map fun k:Nat=>(k:Int)
theorem JO{w:Nat}{b:Nat->Bool}{k:Nat}:((k:Int)∈HG w b)↔(k<w/\b k=true):=by
 unfold HG
 constructor
 ·intro h
  obtain⟨j,hj,e⟩:=LY.mp h
  have:j=k:=by omega
  subst this
  exact⟨NC.mp (Mw.mp hj).1,(Mw.mp hj).2⟩
 ·rintro⟨h1,h2⟩
  exact LY.mpr ⟨k,Mw.mpr ⟨NC.mpr h1,h2⟩,rfl⟩
theorem DG{v w:Nat}(hv:v<=20)(hw:w<=13):ni v ^ w<=232792560 ^ 13:=
 Ma (Nat.pow_le_pow_left (xm v (by omega)) w) (Nat.pow_le_pow_right (by decide) hw)
theorem vi(v w:Nat):0<ni v ^ w:=Nat.pow_pos (yi v)
theorem Fl:(232792560:Int) ^ 13*1000000000000*1000000000000<lM:=by decide +kernel
theorem u3{v w:Nat}(hv:v<=20)(hw:w<=13):((ni v ^ w:Nat):Int)<=232792560 ^ 13:=by
 have h:=Int.ofNat_le.mpr (DG hv hw)
 have e:((232792560 ^ 13:Nat):Int)=232792560 ^ 13:=by decide +kernel
 rw[e]at h
 exact h
noncomputable def sumTo(v:Nat)(f:Nat->Int):Int:=((Me v).map f).sum
theorem jR(v:Nat)(f:Nat->Int):sumTo (v+1) f=sumTo v f+f v:=by
 unfold sumTo
 rw[Oo,MX,PK]
 simp
theorem ux:∀{v:Nat}{f g:Nat->Int},(∀i,i<v->f i<=g i)->sumTo v f<=sumTo v g
 |0,_,_,_=>Pn 0
 |v+1,f,g,h=>by
  have h1:=ux (v:=v) fun i hi=>h i (by omega)
  have h2:=h v (by omega)
  rw[jR,jR]
  omega
noncomputable def A0(W:Nat->Nat->Bool)(p:Nat->Int)(k:Nat)(L:Int)(i:Nat):Int:=if W i k=true then min (p i) L else 0
noncomputable def sT(v:Nat)(W:Nat->Nat->Bool)(p:Nat->Int)(k:Nat)(L:Int):Int:=sumTo v (A0 W p k L)
noncomputable def F5(v:Nat)(W:Nat->Nat->Bool)(p:Nat->Int)(k:Nat):Int:=sumTo v fun i=>if W i k=true then p i else 0
theorem FV{v:Nat}{W:Nat->Nat->Bool}{p:Nat->Int}{k:Nat}{L M:Int}(h:L<=M):sT v W p k L<=sT v W p k M:=
 ux fun i _=>by
  unfold A0
  split<;>omega
theorem Bi(v:Nat)(W:Nat->Nat->Bool)(p:Nat->Int)(k:Nat)(L:Int):sT v W p k L<=F5 v W p k:=
 ux fun i _=>by
  unfold A0
  split<;>omega
theorem IM{W:Nat->Nat->Bool}{p:Nat->Int}{k:Nat}{L:Int}{i:Nat}(h:0<=p i):A0 W p k L i<=p i:=by
 unfold A0
 split<;>omega
structure wo where
 v:Nat
 n:Nat
 W:Nat->Nat->Bool
 c:Nat->Int
structure Nx(T:wo)(p:Nat->Int)(done:List Nat)(k:Nat)(L:Int):Prop where
 lt:k<T.n
 new:k∉done
 pos:1<=L
 enough:T.c k<=sT T.v T.W p k L
 least:∀j,j<T.n->j∉done->sT T.v T.W p j (L-1)<T.c j
 first:∀j,j<k->j∉done->sT T.v T.W p j L<T.c j
noncomputable def Fg(W:Nat->Nat->Bool)(p:Nat->Int)(k:Nat)(L:Int):Nat->Int:=fun i=>p i-A0 W p k L i
inductive Run(T:wo):(Nat->Int)->List Nat->List (Nat×Int)->Prop
 |stop {p:Nat->Int}{done:List Nat}:(∀k,k<T.n->k∉done->F5 T.v T.W p k<T.c k)->Run T p done []
 |step {p:Nat->Int}{done:List Nat}{k:Nat}{L:Int}{rest:List (Nat×Int)}:Nx T p done k L->Run T (Fg T.W p k L) (k::done) rest->Run T p done ((k,L)::rest)
theorem IL{W:Nat->Nat->Bool}{p:Nat->Int}{k:Nat}{L:Int}{i:Nat}(h:0<=p i):0<=Fg W p k L i:=by
 have:=IM (W:=W) (k:=k) (L:=L) h
 unfold Fg
 omega
theorem DE{T:wo}{p:Nat->Int}{done:List Nat}{s:List (Nat×Int)}(h:Run T p done s):(∀x∈s,x.1<T.n/\x.1∉done/\1<=x.2)/\(s.map (·.1)).Nodup:=by
 induction h with
 |stop _=>exact⟨fun _ h=>(by simp at h),N6⟩
 |step n _ ih=>
  obtain⟨i1,i2⟩:=ih
  exists fun x hx=>?_
  ·rcases L9.mp hx with e|hx
   ·subst e
    exact⟨n.lt,n.new,n.pos⟩
   ·obtain⟨a,b,c⟩:=i1 x hx
    exact⟨a,fun z=>b (MU _ z),c⟩
  ·rw[MQ]
   refine MJ.mpr ⟨fun z=>?_,i2⟩
   obtain⟨x,hx,e⟩:=LY.mp z
   have:=(i1 x hx).2.1
   rw[e]at this
   exact this Nd
theorem jH:∀(n:Nat)(l:List Nat),l.Nodup->(∀x∈l,x<n)->l.length<=n
 |0,l,_,h=>by
  cases l with
  |nil=>exact L0 _
  |cons x r=>exact absurd (h x Nd) (Nat.not_lt_zero _)
 |n+1,l,nd,h=>by
  by_cases hn:n∈l
  ·have h1:=jH n (l.erase n) (nd.erase n) fun x hx=>by
    have h2:=(nd.mem_erase_iff).mp hx
    have h3:=h x h2.2
    omega
   rw[SH hn]at h1
   omega
  ·have h1:=jH n l nd fun x hx=>by
    have h3:=h x hx
    have h4:x≠n:=fun e=>hn (e▸hx)
    omega
   omega
theorem wJ{α:Type}[BEq α][LawfulBEq α]:∀{l m:List α},l.Nodup->(∀x∈l,x∈m)->l.length<=m.length
 |[],_,_,_=>MK _
 |x::r,m,nd,h=>by
  have hx:=h x Nd
  obtain⟨n1,n2⟩:=MJ.mp nd
  have h1:=wJ (l:=r) (m:=m.erase x) n2 fun y hy=>by
   have hne:y≠x:=fun e=>n1 (e▸hy)
   exact(List.mem_erase_of_ne hne).mpr (h y (MU _ hy))
  rw[SH hx]at h1
  have:=List.length_pos_of_mem hx
  rw[MW]
  omega
theorem wV(u:Int)(W:Nat->Nat->Bool)(p:Nat->Int)(k:Nat)(L:Int):∀v:Nat,(∀i,i<v->u∣p i)->∃s q:Int,u∣s/\0<=q/\q<=v/\sT v W p k L=s+q*L/\sT v W p k (L-1)=s+q*(L-1)
 |0,_=>⟨0,0,TB u,Pn 0,by simp,by simp[sT,sumTo],by simp[sT,sumTo]⟩
 |v+1,h=>by
  obtain⟨s,q,h1,h2,h3,h4,h5⟩:=wV u W p k L v fun i hi=>h i (by omega)
  have hx:=h v (by omega)
  have e1:∀M,sT (v+1) W p k M=sT v W p k M+A0 W p k M v:=fun M=>jR v _
  rw[e1,e1,h4,h5]
  unfold A0
  by_cases hw:W v k=true
  ·rw[if_pos hw,if_pos hw]
   rcases N5 (p v) L with c|c
   ·exists s+p v,q,Int.dvd_add h1 hx,h2,by omega,?_
    ·rw[RV (by omega)];omega
    ·rw[RV (by omega)];omega
   ·exists s,q+1,h1,by omega,by omega,?_
    ·rw[Ri (by omega),QY];omega
    ·rw[Ri (by omega),QY];omega
  ·rw[if_neg hw,if_neg hw]
   exact⟨s,q,h1,h2,by omega,by omega,by omega⟩
theorem DT{v:Nat}{W:Nat->Nat->Bool}{p:Nat->Int}{k:Nat}{price L rest:Int}(hv:v<=20)(hd:∀i,i<v->rest*(ni v:Nat)∣p i)(hp:rest*(ni v:Nat)∣price)(a2:price<=sT v W p k L)(a3:sT v W p k (L-1)<price):sT v W p k L=price/\rest∣L:=by
 obtain⟨s,q,h1,h2,h3,h4,h5⟩:=wV _ W p k L v hd
 have hp0:1<=q:=by
  rcases N5 0 q with c|c
  ·exact c
  ·have:q=0:=by omega
   subst this
   rw[Int.zero_mul]at h4 h5
   omega
 obtain⟨q,rfl⟩:∃q':Nat,q=q':=⟨q.toNat,by omega⟩
 obtain⟨b,hb⟩:=Hj v (by omega) q (by omega) ⟨by omega,by omega⟩
 obtain⟨m,hm⟩:=Tb hp h1
 have e:price-s=(q:Int)*(rest*((b:Int)*m)):=by
  rw[hm,hb,Int.natCast_mul]
  simp only[Int.mul_assoc,Qt,Int.mul_left_comm]
 have c1:rest*((b:Int)*m)<=L:=Int.le_of_mul_le_mul_left (a:=(q:Int)) (by omega) (by omega)
 have c2:L-1<rest*((b:Int)*m):=Int.lt_of_mul_lt_mul_left (a:=(q:Int)) (by omega) (by omega)
 have c3:L=rest*((b:Int)*m):=by omega
 rw[<-c3]at e
 exact⟨by omega,⟨_,c3⟩⟩
inductive ya(T:wo):(Nat->Int)->List Nat->List (Nat×Int)->Prop
 |stop {p:Nat->Int}{done:List Nat}:(∀k,k<T.n->k∉done->F5 T.v T.W p k<T.c k)->ya T p done []
 |step {p:Nat->Int}{done:List Nat}{k:Nat}{L:Int}{rest:List (Nat×Int)}:Nx T p done k L->sT T.v T.W p k L=T.c k->ya T (Fg T.W p k L) (k::done) rest->ya T p done ((k,L)::rest)
theorem ya.run{T:wo}{p:Nat->Int}{done:List Nat}{s:List (Nat×Int)}(h:ya T p done s):Run T p done s:=by
 induction h with
 |stop h0=>exact .stop h0
 |step n _ _ ih=>exact .step n ih
theorem G4{W:Nat->Nat->Bool}{p:Nat->Int}{k:Nat}{L r:Int}{i:Nat}(h:r∣p i)(hL:r∣L):r∣Fg W p k L i:=by
 unfold Fg A0
 split
 ·rcases Int.le_total (p i) L with c|c
  ·rw[RV c,Int.sub_self]
   exact TB r
  ·rw[Ri c]
   exact Tb h hL
 ·rw[Int.sub_zero]
  exact h
theorem i8{t a b:Nat}(h:a<=b):((t ^ a:Nat):Int)∣((t ^ b:Nat):Int):=by
 have:=Nat.pow_dvd_pow t h
 exact_mod_cast this
theorem DB{T:wo}(hv:T.v<=20)(hc:∀k,k<T.n->((ni T.v ^ T.n:Nat):Int)∣T.c k){p:Nat->Int}{done:List Nat}{s:List (Nat×Int)}(h:Run T p done s):
  done.Nodup->(∀k∈done,k<T.n)->(∀i,i<T.v->((ni T.v ^ (T.n-done.length):Nat):Int)∣p i)->ya T p done s:=by
 induction h with
 |stop h0=>exact fun _ _ _=>.stop h0
 |@step p done k L rest n r ih=>
  intro nd hn hp
  have nd':(k::done).Nodup:=MJ.mpr ⟨n.new,nd⟩
  have hn':∀j∈k::done,j<T.n:=fun j hj=>by
   rcases L9.mp hj with e|e
   ·subst e;exact n.lt
   ·exact hn j e
  have hl:=jH T.n _ nd' hn'
  rw[MW]at hl
  have e:T.n-done.length=(T.n-(done.length+1))+1:=by omega
  have ep:((ni T.v ^ (T.n-done.length):Nat):Int)=((ni T.v ^ (T.n-(done.length+1)):Nat):Int)*((ni T.v:Nat):Int):=by
   rw[e,Tz]
   push_cast
   rfl
  have a3:=n.least k n.lt n.new
  obtain⟨x1,x2⟩:=DT (rest:=((ni T.v ^ (T.n-(done.length+1)):Nat):Int)) hv (fun i hi=>by rw[<-ep];exact hp i hi) (by rw[<-ep];exact Qk (i8 (by omega)) (hc k n.lt)) n.enough a3
  refine .step n x1 (ih nd' hn' fun i hi=>?_)
  rw[MW]
  refine G4 (Qk ?_ (hp i hi)) x2
  exact i8 (by omega)
noncomputable def kg(rows:List (List Int))(ks:List Int):List Int:=((Me rows.length).filter fun i=>ks.all fun k=>decide (k∈rows.getD i [])).map fun i:Nat=>(i:Int)
noncomputable def WR(rows:List (List Int))(i k:Nat):Bool:=decide ((k:Int)∈rows.getD i [])
noncomputable def PF(ps:List Int)(i:Nat):Int:=ps.getD i 0
theorem sum_filter{p:Nat->Bool}{f:Nat->Int}:∀n:Nat,(((Me n).filter p).map f).sum=sumTo n fun i=>if p i=true then f i else 0
 |0=>rfl
 |n+1=>by
  rw[jR,Oo,Q1,MX,PK,sum_filter n,PB]
  by_cases h:p n=true
  ·rw[if_pos h,if_pos h]
   simp
  ·rw[if_neg h,if_neg h]
   simp
noncomputable def oV:Option Int->V
 |none=>.non
 |some i=>.int i
theorem mn{k:Nat}{done:List Nat}:((k:Int)∈done.map fun k:Nat=>(k:Int))↔k∈done:=by
 constructor
 ·intro h
  obtain⟨j,hj,e⟩:=LY.mp h
  have:j=k:=by omega
  exact this▸hj
 ·exact fun h=>LY.mpr ⟨k,h,rfl⟩
noncomputable def AO(T:wo)(p:Nat->Int)(done:List Nat)(k:Nat):Option Int->Prop
 |none=>k∈done\/F5 T.v T.W p k<T.c k
 |some L=>k∉done/\1<=L/\T.c k<=sT T.v T.W p k L/\sT T.v T.W p k (L-1)<T.c k
noncomputable def gK(os:List (Option Int)):Option Nat->Prop
 |none=>∀o∈os,o=none
 |some k=>∃L,os[k]?=some (some L)/\∀j M,os[j]?=some (some M)->L<=M/\(j<k->L<M)
theorem xP{T:wo}{p:Nat->Int}{done:List Nat}{os:List (Option Int)}{k:Nat}{L:Int}(hl:os.length=T.n)(ho:∀j o,os[j]?=some o->AO T p done j o)(hp:∀i,i<T.v->0<=p i)(hc:∀j,j<T.n->1<=T.c j)(hk:os[k]?=some (some L))(hn:gK os (some k)):Nx T p done k L:=by
 obtain⟨L',e,hmin⟩:=hn
 rw[hk]at e
 have e:L=L':=MB (MB e)
 subst e
 have hkl:k<T.n:=by rw[<-hl];exact(Mx.mp hk).1
 obtain⟨a1,a2,a3,a4⟩:=ho k _ hk
 have key:∀j,j<T.n->j∉done->∀M:Int,0<=M->T.c j<=sT T.v T.W p j M->∃N,os[j]?=some (some N)/\N<=M:=by
  intro j hj hjn M hM hle
  have hjl:j<os.length:=by omega
  have hoj:=ho j os[j] (by simp[hjl])
  cases e:os[j]with
  |none=>
   rw[e]at hoj
   rcases hoj with z|z
   ·exact absurd z hjn
   ·have:=Bi T.v T.W p j M
    omega
  |some N=>
   rw[e]at hoj
   obtain⟨_,_,_,b4⟩:=hoj
   exists N,by rw[Mg hjl,e]
   rcases N5 M N with c|c
   ·have:=FV (v:=T.v) (W:=T.W) (p:=p) (k:=j) (show M<=N-1 by omega)
    omega
   ·exact c
 refine⟨hkl,a1,a2,a3,fun j hj hjn=>?_,fun j hj hjn=>?_⟩
 ·rcases N5 (sT T.v T.W p j (L-1)) (T.c j)with c|c
  ·exact c
  ·obtain⟨N,h1,h2⟩:=key j hj hjn (L-1) (by omega) c
   have:=(hmin j N h1).1
   omega
 ·rcases N5 (sT T.v T.W p j L) (T.c j)with c|c
  ·exact c
  ·obtain⟨N,h1,h2⟩:=key j (by omega) hjn L (by omega) c
   have:=(hmin j N h1).2 hj
   omega
noncomputable def dc(cs:List Int)(rows:List (List Int)):wo:=⟨rows.length,cs.length,WR rows,fun k=>cs.getD k 0*((ni rows.length ^ (cs.length+1):Nat):Int)⟩
noncomputable def nJ(rows:List (List Int))(ps:List Int)(k:Nat)(L:Int):List Int:=(Me ps.length).map (A0 (WR rows) (PF ps) k L)
noncomputable def jI(rows:List (List Int))(ps:List Int)(k:Nat)(L:Int):List Int:=(Me ps.length).map (Fg (WR rows) (PF ps) k L)
noncomputable def bQ(rows:List (List Int)):List Int->List (Nat×Int)->List (Nat×Int×List Int)
 |_,[]=>[]
 |ps,(k,L)::r=>(k,L,nJ rows ps k L)::bQ rows (jI rows ps k L) r
noncomputable def c8(rows:List (List Int)):List Int->List (Nat×Int)->List Int
 |ps,[]=>ps
 |ps,(k,L)::r=>c8 rows (jI rows ps k L) r
theorem qf(rows:List (List Int))(ps:List Int)(k:Nat)(L:Int):(jI rows ps k L).length=ps.length:=by simp[jI]
theorem Dq(rows:List (List Int))(ps:List Int)(k:Nat)(L:Int):(nJ rows ps k L).length=ps.length:=by simp[nJ]
theorem Ir(n:Nat)(f:Nat->Int)(h:∀i,n<=i->f i=0):PF ((Me n).map f)=f:=by
 funext i
 unfold PF
 by_cases hi:i<n
 ·simp[Mf,hi]
 ·rw[h i (by omega)]
  simp[Mf,hi]
theorem E4{rows:List (List Int)}{i k:Nat}(h:rows.length<=i):WR rows i k=false:=by
 unfold WR
 have:rows.getD i []=[]:=by simp[Mf,NR h]
 rw[this]
 simp
theorem IS{ps:List Int}{i:Nat}(h:ps.length<=i):PF ps i=0:=by
 unfold PF
 simp[Mf,NR h]
theorem Fb{rows:List (List Int)}{ps:List Int}{k:Nat}{L:Int}(h:ps.length=rows.length):PF (jI rows ps k L)=Fg (WR rows) (PF ps) k L:=by
 refine Ir _ _ fun i hi=>?_
 unfold Fg A0
 rw[E4 (by omega),IS hi]
 simp
theorem kI(rows:List (List Int)):∀(ps:List Int)(r:List (Nat×Int)),(bQ rows ps r).length=r.length
 |_,[]=>rfl
 |ps,(k,L)::r=>by rw[bQ,MW,MW,kI]
theorem lY(rows:List (List Int)):∀(ps:List Int)(r:List (Nat×Int)),∀x∈bQ rows ps r,x.2.2.length=ps.length
 |_,[],x,h=>by simp[bQ]at h
 |ps,(k,L)::r,x,h=>by
  rw[bQ]at h
  rcases L9.mp h with e|h
  ·subst e
   exact Dq rows ps k L
  ·rw[lY rows (jI rows ps k L) r x h,qf]
theorem mL(rows:List (List Int)):∀(ps:List Int)(r:List (Nat×Int)),(c8 rows ps r).length=ps.length
 |_,[]=>rfl
 |ps,(k,L)::r=>by rw[c8,mL rows _ r,qf]
theorem tN(rows:List (List Int)):∀(ps:List Int)(r:List (Nat×Int))(k:Nat)(L:Int),c8 rows ps (r++[(k,L)])=jI rows (c8 rows ps r) k L
 |_,[],_,_=>rfl
 |ps,(j,M)::r,k,L=>by
  rw[Se,c8,tN rows (jI rows ps j M) r k L,c8]
theorem tH(rows:List (List Int)):∀(ps:List Int)(r r':List (Nat×Int)),bQ rows ps (r++r')=bQ rows ps r++bQ rows (c8 rows ps r) r'
 |_,[],_=>rfl
 |ps,(k,L)::r,r'=>by
  rw[Se,bQ,bQ,c8,tH rows (jI rows ps k L) r r']
  rfl
theorem pf(rows:List (List Int)):∀(ps:List Int)(r:List (Nat×Int)),(bQ rows ps r).map (fun x=>(x.1,x.2.1))=r
 |_,[]=>rfl
 |ps,(k,L)::r=>by
  rw[bQ,MQ,pf rows _ r]
structure EK(cs:List Int)(rows:List (List Int))(ps:List Int):Prop where
 c12:cs.length<=12
 cb:∀x∈cs,1<=x/\x<=1000000000000
 v1:1<=rows.length
 v20:rows.length<=20
 pl:ps.length=rows.length
 p0:∀p∈ps,0<=p
 pd:∀p∈ps,((ni rows.length ^ cs.length:Nat):Int)∣p
theorem F4{ps:List Int}(h:∀p∈ps,0<=p)(i:Nat):0<=PF ps i:=by
 unfold PF
 by_cases hi:i<ps.length
 ·have e:ps.getD i 0=ps[i]:=by simp[Mf,hi]
  rw[e]
  exact h _ (Na hi)
 ·simp[Mf,NR (Sx hi)]
theorem Hv{cs:List Int}{rows:List (List Int)}(h:∀x∈cs,1<=x/\x<=1000000000000):∀k,k<cs.length->1<=(dc cs rows).c k:=by
 intro k hk
 have h1:=h (cs.getD k 0) (by simp[Mf,hk])
 have h2:=vi rows.length (cs.length+1)
 have:1*1<=cs.getD k 0*((ni rows.length ^ (cs.length+1):Nat):Int):=Int.mul_le_mul h1.1 (by omega) (by decide) (by omega)
 show 1<=cs.getD k 0*((ni rows.length ^ (cs.length+1):Nat):Int)
 omega
theorem Ko(cs:List Int)(rows:List (List Int)):∀k,((ni rows.length ^ cs.length:Nat):Int)∣(dc cs rows).c k:=by
 intro k
 exact Qk (i8 (Nq _)) ⟨cs.getD k 0,Qt _ _⟩
noncomputable def xT(H:Hp)(x:Nat×Int×List Int)(t:LL):Prop:=∃b:LL,H t=some (.tup [.int x.1,.int x.2.1,.ref b])/\H b=some (.lst (x.2.2.map V.int))
noncomputable def g9(H:Hp)(a:LL)(sts:List (Nat×Int×List Int)):Prop:=∃ts:List LL,H a=some (.lst (ts.map V.ref))/\L7 (xT H) sts ts
theorem Ad{H H':Hp}(e:av H H'){x:Nat×Int×List Int}{t:LL}(h:xT H x t):xT H' x t:=by
 obtain⟨b,h1,h2⟩:=h
 exact⟨b,e _ _ h1,e _ _ h2⟩
theorem ko{H H':Hp}(e:av H H'){a:LL}{sts:List (Nat×Int×List Int)}(h:g9 H a sts):g9 H' a sts:=by
 obtain⟨ts,h1,h2⟩:=h
 exact⟨ts,e _ _ h1,Paired.mapP h2 fun _ _ q=>Ad e q⟩
noncomputable def pC(H0 H:Hp)(l:LL)(x:Nat×Int×List Int)(t:LL):Prop:=∃b:LL,H0 t=none/\H0 b=none/\b≠l/\H t=some (.tup [.int x.1,.int x.2.1,.ref b])/\H b=some (.lst (x.2.2.map V.int))
noncomputable def iI(H0 H:Hp)(l:LL)(sts:List (Nat×Int×List Int)):Prop:=∃ts:List LL,H l=some (.lst (ts.map V.ref))/\L7 (pC H0 H l) sts ts
theorem iI.at{H0 H:Hp}{l:LL}{sts:List (Nat×Int×List Int)}(h:iI H0 H l sts):g9 H l sts:=by
 obtain⟨ts,h1,h2⟩:=h
 exact⟨ts,h1,Paired.mapP h2 fun _ _ ⟨b,_,_,_,h3,h4⟩=>⟨b,h3,h4⟩⟩
theorem Ab{T:wo}{p:Nat->Int}{d d':List Nat}{k:Nat}{L:Int}(h:∀j,j∈d'↔j∈d)(n:Nx T p d k L):Nx T p d' k L:=
 ⟨n.lt,fun z=>n.new ((h k).mp z),n.pos,n.enough,fun j hj hn=>n.least j hj fun z=>hn ((h j).mpr z),fun j hj hn=>n.first j hj fun z=>hn ((h j).mpr z)⟩
theorem EO{rows:List (List Int)}{ps:List Int}{k:Nat}{L:Int}(h:∀p∈ps,0<=p):∀p∈jI rows ps k L,0<=p:=by
 intro p hp
 obtain⟨i,_,e⟩:=LY.mp hp
 rw[<-e]
 exact IL (F4 h i)
theorem AD{rows:List (List Int)}:∀{ps:List Int}{r:List (Nat×Int)},(∀p∈ps,0<=p)->∀p∈c8 rows ps r,0<=p
 |_,[],h=>h
 |ps,(k,L)::r,h=>by
  rw[c8]
  exact AD (EO h)
theorem Dh{cs:List Int}{rows:List (List Int)}{ps:List Int}(g:EK cs rows ps){s:List (Nat×Int)}(h:Run (dc cs rows) (PF ps) [] s):ya (dc cs rows) (PF ps) [] s:=by
 refine DB g.v20 (fun k _=>Ko cs rows k) h N6 (fun k hk=>by simp at hk) fun i hi=>?_
 have hi':i<ps.length:=by rw[g.pl];exact hi
 have:PF ps i∈ps:=by unfold PF;simp[Mf,hi']
 exact g.pd _ this
theorem jr{α β:Type}{F:α->β->Prop}:∀{xs:List α}{ts:List β},xs.length=ts.length->(∀(i:Nat)(x:α)(t:β),xs[i]?=some x->ts[i]?=some t->F x t)->L7 F xs ts
 |[],[],_,_=>.nil
 |[],_::_,h,_=>by simp at h
 |_::_,[],h,_=>by simp at h
 |x::r,u::q,hl,h=>.cons (h 0 x u rfl rfl) (jr (by simpa using hl) fun i y w e e'=>h (i+1) y w (by simpa using e) (by simpa using e'))
theorem yH{α:Type}{F:α->LL->Prop}{T:LL->Prop}{xs:List α}{ts:List LL}(h:L7 (fun i t=>T t/\∀x,xs[i]?=some x->F x t) (Me xs.length) ts):L7 F xs ts:=by
 have hl:=Mr h
 rw[OT]at hl
 refine jr hl fun i x t hx ht=>?_
 obtain⟨j,hj,hF⟩:=iL h ht
 have hi:i<xs.length:=(Mx.mp hx).1
 have e:j=i:=by
  rw[RO hi]at hj
  exact(MB hj).symm
 subst e
 exact hF.2 x hx
noncomputable def Ki(H0 H:Hp)(l:LL)(rows:List (List Int)):Prop:=∃bs:List LL,H l=some (.lst (bs.map V.ref))/\L7 (fun r b=>(H0 b=none/\b≠l)/\H b=some (.lst (r.map V.int))) rows bs
theorem IY{K:LO}{H:Hp}{a:LL}{rows:List (List Int)}{σ:St}{Q:VK}(h:gE K H a rows)(hz:rows.length<=1000)(hd:∀l H',H l=none->av H H'->Ki H H' l rows->Q (.ref l) H'):
  cO [none] (au 0) cY (gs (sJ K) (af (ae 0) ay)) (CP K a) σ H Q:=by
 obtain⟨bs,hB,hP⟩:=h
 have hbl:bs.length=rows.length:=(Mr hP).symm
 have hlm:(bs.map V.ref).length=bs.length:=Md _
 refine d6 (cR (xs:=bs.map V.ref) 0) (fun j=>[some ((bs.map V.ref).getD j .non)]) (by rintro j σ' (rfl|⟨k,rfl⟩)<;>rfl) (fun H' s=>s.seq hB) (by rw[hlm,hbl];exact Ma hz bg) (fun _=>true)
  (fun l i v H'=>∃b,v=.ref b/\(b≠l/\H b=none/\∀r,rows[i]?=some r->H' b=some (.lst (r.map V.int)))) (fun l i v H1 H2 s ⟨b,e,hl,h0,h⟩=>⟨b,e,hl,h0,fun r hr=>s _ _ hl (h r hr)⟩) (fun i hi H' G s k=>k H' (av.refl _)) ?_ ?_
 ·intro l j hj _ H' G hl ⟨o,ho⟩ s k
  rw[hlm]at hj
  have e:(bs.map V.ref).getD j .non=.ref bs[j]:=by simp[Mf,hj]
  rw[e]
  obtain⟨r,hr,hq⟩:=iL hP (show bs[j]?=some bs[j] by simp[hj])
  have hq':=s.seq hq
  walk_at "v"
  rename_i b J g t h
  exact k _ _ ⟨b,rfl,(fun z=>by rw[z,ho]at g;cases g),s.free g,fun r' hr'=>by rw[hr]at hr';cases hr';exact h⟩ t
 ·intro l ys H' f s h pr
  rw[Nu.mpr (fun _ _=>rfl)]at pr
  obtain⟨tk,rfl,pk⟩:=i7 (T:=fun b i=>b≠l/\H b=none/\∀r,rows[i]?=some r->H' b=some (.lst (r.map V.int))) pr
  refine hd l H' f s ⟨tk,h,?_⟩
  rw[hlm,hbl]at pk
  refine yH (T:=fun b=>b≠l/\H b=none) (Paired.mapP pk fun i b q=>⟨⟨q.1,q.2.1⟩,fun r hr=>⟨⟨q.2.1,q.1⟩,q.2.2 r hr⟩⟩)
noncomputable def cI(ps:List Int)(sts:List (Nat×Int×List Int)):List Int:=(Me ps.length).map fun i=>ps.getD i 0-(sts.map fun x=>x.2.2.getD i 0).sum
theorem zK{H:Hp}:∀{sts:List (Nat×Int×List Int)}{ts:List LL},L7 (xT H) sts ts->∃bs:List LL,bs.length=sts.length/\∀(i:Nat)(x:Nat×Int×List Int),sts[i]?=some x->∃t b,ts[i]?=some t/\bs[i]?=some b/\H t=some (.tup [.int x.1,.int x.2.1,.ref b])/\H b=some (.lst (x.2.2.map V.int))
 |_,_,.nil=>⟨[],rfl,fun i x h=>by simp at h⟩
 |_,t::_,.cons ⟨b,h1,h2⟩ r=>by
  obtain⟨bs,e,h⟩:=zK r
  refine⟨b::bs,by simp[e],fun i x hx=>?_⟩
  cases i with
  |zero=>
   simp at hx
   subst hx
   exact⟨t,b,rfl,rfl,h1,h2⟩
  |succ i=>exact h i x (by simpa using hx)
structure ue(H:Hp)(l:LL)(sts:List (Nat×Int×List Int))(ts bs:List LL):Prop where
 lst:H l=some (.lst (ts.map V.ref))
 tl:ts.length=sts.length
 bl:bs.length=sts.length
 ats:∀(i:Nat)(x:Nat×Int×List Int),sts[i]?=some x->∃t b,ts[i]?=some t/\bs[i]?=some b/\H t=some (.tup [.int x.1,.int x.2.1,.ref b])/\H b=some (.lst (x.2.2.map V.int))
theorem g9.b{H:Hp}{l:LL}{sts:List (Nat×Int×List Int)}(h:g9 H l sts):∃ts bs,ue H l sts ts bs:=by
 obtain⟨ts,h1,h2⟩:=h
 obtain⟨bs,e,h3⟩:=zK h2
 exact⟨ts,bs,h1,(Mr h2).symm,e,h3⟩
noncomputable def stN:Nat×Int×List Int:=(0,0,[])
theorem ue.ys{K:LO}{H H':Hp}{l:LL}{sts:List (Nat×Int×List Int)}{ts bs:List LL}(B:ue H l sts ts bs)(s:av H H'):
  aK K H' l (ts.map V.ref)/\∀i t,ts[i]?=some t->gf K H' t [.int ((sts.getD i stN).1:Nat),.int (sts.getD i stN).2.1,.ref (bs.getD i 0)]:=by
 refine⟨aK.of (s _ _ B.lst),fun i t ht=>?_⟩
 have hi:i<sts.length:=by rw[<-B.tl];exact(Mx.mp ht).1
 obtain⟨t',b,a1,a2,a3,_⟩:=B.ats i sts[i] (by simp[hi])
 rw[ht]at a1
 cases a1
 have e1:sts.getD i stN=sts[i]:=by simp[Mf,hi]
 have e2:bs.getD i 0=b:=by rw[Mf,a2];rfl
 rw[e1,e2]
 exact gf.of (s _ _ a3)
theorem ue.paid{K:LO}{H H':Hp}{l:LL}{sts:List (Nat×Int×List Int)}{ts bs:List LL}(B:ue H l sts ts bs)(s:av H H'){i:Nat}(hi:i<sts.length):aK K H' (bs.getD i 0) ((sts.getD i stN).2.2.map V.int):=by
 obtain⟨t',b,a1,a2,_,a4⟩:=B.ats i sts[i] (by simp[hi])
 have e1:sts.getD i stN=sts[i]:=by simp[Mf,hi]
 have e2:bs.getD i 0=b:=by rw[Mf,a2];rfl
 rw[e1,e2]
 exact aK.of (s _ _ a4)
theorem EZ:gK [] none:=fun o h=>by simp at h
theorem De{os:List (Option Int)}{k:Option Nat}(h:gK os k):gK (os++[none]) k:=by
 cases k with
 |none=>
  intro o ho
  rcases Mp.mp ho with h1|h1
  ·exact h o h1
  ·simpa using h1
 |some k=>
  obtain⟨L,h1,h2⟩:=h
  have hk:=(Mx.mp h1).1
  refine⟨L,by rw[N4 hk];exact h1,fun j M hj=>?_⟩
  by_cases hjl:j<os.length
  ·rw[N4 hjl]at hj
   exact h2 j M hj
  ·rw[Oa (by omega)]at hj
   cases e:j-os.length with
   |zero=>rw[e]at hj;simp at hj
   |succ n=>rw[e]at hj;simp at hj
theorem AZ{os:List (Option Int)}{M:Int}(h:gK os none):gK (os++[some M]) (some os.length):=by
 refine⟨M,by simp,fun j N hj=>?_⟩
 by_cases hjl:j<os.length
 ·rw[N4 hjl]at hj
  have:=h _ (Nr hj)
  cases this
 ·rw[Oa (by omega)]at hj
  cases e:j-os.length with
  |zero=>
   rw[e]at hj
   have:M=N:=by simpa using hj
   subst this
   exact⟨Pn _,fun z=>by omega⟩
  |succ n=>rw[e]at hj;simp at hj
theorem DV{os:List (Option Int)}{k:Nat}{L M:Int}(h:gK os (some k))(hk:os[k]?=some (some L))(hM:M<L):gK (os++[some M]) (some os.length):=by
 obtain⟨L',h1,h2⟩:=h
 rw[hk]at h1
 cases h1
 refine⟨M,by simp,fun j N hj=>?_⟩
 by_cases hjl:j<os.length
 ·rw[N4 hjl]at hj
  have:=(h2 j N hj).1
  exact⟨by omega,fun _=>by omega⟩
 ·rw[Oa (by omega)]at hj
  cases e:j-os.length with
  |zero=>
   rw[e]at hj
   have:M=N:=by simpa using hj
   subst this
   exact⟨Pn _,fun z=>by omega⟩
  |succ n=>rw[e]at hj;simp at hj
theorem DX{os:List (Option Int)}{k:Nat}{L M:Int}(h:gK os (some k))(hk:os[k]?=some (some L))(hM:¬M<L):gK (os++[some M]) (some k):=by
 have hkl:=(Mx.mp hk).1
 obtain⟨L',h1,h2⟩:=h
 rw[hk]at h1
 cases h1
 refine⟨L,by rw[N4 hkl];exact hk,fun j N hj=>?_⟩
 by_cases hjl:j<os.length
 ·rw[N4 hjl]at hj
  exact h2 j N hj
 ·rw[Oa (by omega)]at hj
  cases e:j-os.length with
  |zero=>
   rw[e]at hj
   have:M=N:=by simpa using hj
   subst this
   exact⟨by omega,fun z=>by omega⟩
  |succ n=>rw[e]at hj;simp at hj
noncomputable def da(rows:List (List Int))(k:Nat):List Nat:=(Me rows.length).filter fun i=>WR rows i k
theorem tF(rows:List (List Int))(k:Nat):kg rows [(k:Int)]=(da rows k).map fun i:Nat=>(i:Int):=by
 unfold kg da WR
 congr 2
 funext i
 simp
theorem uM{rows:List (List Int)}{k i:Nat}:((i:Int)∈kg rows [(k:Int)])↔WR rows i k=true:=by
 rw[tF,mn]
 unfold da
 rw[Mw]
 constructor
 ·exact fun h=>h.2
 ·intro h
  refine⟨NC.mpr ?_,h⟩
  rcases Ue i rows.length with c|c
  ·exact c
  ·rw[E4 c]at h
   cases h
theorem zZ(rows:List (List Int))(ps:List Int)(k:Nat):((da rows k).map (PF ps)).sum=F5 rows.length (WR rows) (PF ps) k:=by
 unfold da
 rw[sum_filter]
 rfl
theorem E8(rows:List (List Int))(ps:List Int)(k:Nat)(L:Int):zD ((da rows k).map (PF ps)) L=sT rows.length (WR rows) (PF ps) k L:=by
 unfold zD da
 rw[Mn,sum_filter]
 rfl
theorem Di(rows:List (List Int))(k:Nat):(da rows k).length<=rows.length:=by
 unfold da
 have:=Oc (fun i=>WR rows i k) (Me rows.length)
 rwa [OT]at this
theorem Fw{rows:List (List Int)}{k i:Nat}(h:i∈da rows k):i<rows.length:=NC.mp (Mw.mp h).1
theorem wM(rows:List (List Int)):∀(r:List (Nat×Int))(ps:List Int)(i:Nat),i<ps.length->(c8 rows ps r).getD i 0=ps.getD i 0-((bQ rows ps r).map fun x=>x.2.2.getD i 0).sum
 |[],ps,i,_=>by simp[c8,bQ]
 |(k,L)::r,ps,i,hi=>by
  rw[c8,wM rows r (jI rows ps k L) i (by rw[qf];exact hi),bQ,MQ,Pc]
  have e1:(jI rows ps k L).getD i 0=ps.getD i 0-A0 (WR rows) (PF ps) k L i:=by
   unfold jI
   simp[Mf,hi,Fg,PF]
  have e2:(nJ rows ps k L).getD i 0=A0 (WR rows) (PF ps) k L i:=by
   unfold nJ
   simp[Mf,hi]
  rw[e1,e2]
  omega
theorem yF(rows:List (List Int))(ps:List Int)(r:List (Nat×Int)):cI ps (bQ rows ps r)=c8 rows ps r:=by
 apply O1
 ·unfold cI
  rw[Md,OT,mL]
 ·intro i h1 h2
  have hi:i<ps.length:=by rw[mL]at h2;exact h2
  have:=wM rows r ps i hi
  have e:(c8 rows ps r).getD i 0=(c8 rows ps r)[i]:=by simp[Mf,h2]
  rw[e]at this
  rw[this]
  unfold cI
  simp
theorem zg(rows:List (List Int))(ps:List Int)(r:List (Nat×Int)):(bQ rows ps r).map (·.1)=r.map (·.1):=by
 have:=congrArg (NO (·.1)) (pf rows ps r)
 rw[Mn]at this
 exact this
structure Pre(cs:List Int)(rows:List (List Int))(ps:List Int)(r:List (Nat×Int)):Prop where
 nd:(r.map (·.1)).Nodup
 lt:∀x∈r,x.1<cs.length
 on:∀rest,Run (dc cs rows) (PF (c8 rows ps r)) (r.map (·.1)).reverse rest->Run (dc cs rows) (PF ps) [] (r++rest)
theorem Ct(cs:List Int)(rows:List (List Int))(ps:List Int):Pre cs rows ps []:=⟨N6,fun _ h=>by simp at h,fun _ h=>h⟩
theorem Pre.len{cs:List Int}{rows:List (List Int)}{ps:List Int}{r:List (Nat×Int)}(h:Pre cs rows ps r):r.length<=cs.length:=by
 have:=jH cs.length _ h.nd fun x hx=>by
  obtain⟨y,hy,e⟩:=LY.mp hx
  rw[<-e]
  exact h.lt y hy
 rwa [Md]at this
theorem Pre.snoc{cs:List Int}{rows:List (List Int)}{ps:List Int}{r:List (Nat×Int)}{k:Nat}{L:Int}(h:Pre cs rows ps r)(hl:ps.length=rows.length)(n:Nx (dc cs rows) (PF (c8 rows ps r)) (r.map (·.1)) k L):Pre cs rows ps (r++[(k,L)]):=by
 exists ?_,?_
 ·rw[MX]
  refine List.nodup_append.mpr ⟨h.nd,by simp,?_⟩
  intro a ha b hb e
  have:b=k:=by simpa using hb
  subst this
  subst e
  exact n.new ha
 ·intro x hx
  rcases Mp.mp hx with z|z
  ·exact h.lt x z
  ·have:x=(k,L):=by simpa using z
   subst this
   exact n.lt
 ·intro rest hr
  rw[tN,Fb (by rw[mL];exact hl),MX,List.reverse_append]at hr
  have hr:Run (dc cs rows) (Fg (WR rows) (PF (c8 rows ps r)) k L) (k::(r.map (·.1)).reverse) rest:=hr
  have:=h.on ((k,L)::rest) (.step (Ab (fun j=>by simp) n) hr)
  rwa [QU]
theorem Pre.stop{cs:List Int}{rows:List (List Int)}{ps:List Int}{r:List (Nat×Int)}(h:Pre cs rows ps r)(n:∀k,k<cs.length->k∉r.map (·.1)->F5 rows.length (WR rows) (PF (c8 rows ps r)) k<(dc cs rows).c k):Run (dc cs rows) (PF ps) [] r:=by
 have:=h.on [] (.stop fun k hk hn=>n k hk fun z=>hn (by simpa using z))
 rwa [O8]at this
theorem Bp{ps:List Int}{i:Nat}(h:i<ps.length):(ps.map V.int)[i]?=some (V.int (PF ps i)):=by
 unfold PF
 simp[Mf,h]
theorem yq{H0 H:Hp}{ls:LL}{o:HO}{xs:List V}{sts:List (Nat×Int×List Int)}{ts:List LL}(h:L7 (pC H0 H ls) sts ts)(hl:H ls=some (.lst xs)):L7 (pC H0 (upd H ls o) ls) sts ts:=by
 refine Paired.mapP h fun x t ⟨b,z1,z2,z3,z4,z5⟩=>⟨b,z1,z2,z3,?_,?_⟩
 ·rw[aq fun e=>by rw[e,hl]at z4;cases z4]
  exact z4
 ·rw[aq z3]
  exact z5
noncomputable def aY(z:LK):Prop:=z.cps.all (· < 128)=true
noncomputable def uN:List (List Nat)->List Nat
 |[]=>[]
 |[p]=>p
 |p::q::r=>p++32::uN (q::r)
theorem Hl:("":LK)=⟨#[]⟩:=by decide +kernel
theorem tQ{a b:LK}:a=b↔a.cps.toList=b.cps.toList:=⟨fun h=>by rw[h],fun h=>Wp (Array.ext' h)⟩
theorem cm(z:LK):z.cps.toList.length=z.length:=by simp[SK]
theorem repr_fits{z:LK}(ha:aY z)(hz:z.length<=100000):(Rt z).length<=1000002:=by
 have:=Vp z (fun c hc=>by
  have:=Array.all_eq_true'.mp ha c (by simpa using hc)
  have:=of_decide_eq_true this
  exact PZ this (by decide))
 omega
theorem Cg{a:LK}{xs:List LK}:L2.JR (.str a) (xs.map V.str)=decide (a∈xs):=by
 unfold L2.JR
 rw[Um,Ng,Rk,decide_eq_true_eq]
 constructor
 ·rintro⟨y,hy,e⟩
  have e:(y==a)=true:=e
  rw[<-eq_of_beq e]
  exact hy
 ·intro h
  exact⟨a,h,by show(a==a)=true;simp⟩
theorem wL(xs:List LK):(xs.map V.str).all L2.nV=true:=by
 rw[PL,Ny]
 intro x _
 rfl
section
variable {H:Hp}{Q:VK}{z a b:LK}
theorem size_eq:LW=16777216:=by decide
theorem qr(h:a.length+b.length<=16777216)(q:Q (.str (a++b)) H):gz (.str a) (.str b) H Q:=⟨a,b,rfl,rfl,by rw[size_eq];exact h,q⟩
theorem Il(h:z.length<=16777216)(q:Q (.int z.length) H):nD [.str z] H Q:=⟨z,rfl,by rw[size_eq];exact h,q⟩
theorem JV(q:Q (.bl (!(OG b a 0 b.length 1).isEmpty)) H):Gn (.str a) (.str b) H Q:=⟨a,b,rfl,rfl,q⟩
theorem Jw(q:Q (.bl (!(!(OG b a 0 b.length 1).isEmpty))) H):sN (.str a) (.str b) H Q:=⟨a,b,rfl,rfl,q⟩
theorem J9{lo hi:Option Int}(h:z.length<=16777216)(q:Q (.str (MI z lo hi)) H):pU (.str z) lo hi H Q:=⟨z,rfl,by rw[size_eq];exact h,q⟩
theorem Hw(q:Q (.bl (decide (a=b))) H):i4 (.str a) (.str b) H Q:=⟨rfl,by
 have e:decide (V.str a=V.str b)=decide (a=b):=by rw[Ng];simp
 rw[e];exact q⟩
theorem Cu(q:Q (.bl (!decide (a=b))) H):FN (.str a) (.str b) H Q:=⟨rfl,by
 have e:decide (V.str a=V.str b)=decide (a=b):=by rw[Ng];simp
 rw[e];exact q⟩
theorem Gq{tl:TE}{σ:St}{R:It->Hp->Prop}(h:tl σ H fun v H1=>∃x:LK,v=.str x/\x.cps.all (· < 128)=true/\R (K2 x) H1):CI tl σ H R:=h
end
local macro_rules | `(tactic| walk_at "early") => `(tactic| first
 |((with_reducible show Hi _ "str" (V.str _) _/\_);refine⟨rfl,?_⟩)
 |((with_reducible show nD _ _ _);refine Il (by omega) ?_)
 |((with_reducible show gz _ _ _ _);refine qr (by omega) ?_)
 |((with_reducible show Gn _ _ _ _);refine JV ?_)
 |((with_reducible show sN _ _ _ _);refine Jw ?_)
 |((with_reducible show pU _ _ _ _ _);refine J9 (by omega) ?_)
 |with_reducible refine Gq ?_
 |((with_reducible show i4 (V.str _) (V.str _) _ _);refine Hw ?_)
 |((with_reducible show FN (V.str _) (V.str _) _ _);refine Cu ?_))
theorem dA{z:LK}:aY z↔∀c∈z.cps.toList,c<128:=by
 unfold aY
 rw[<-S4,Ny]
 exact⟨fun h c hc=>of_decide_eq_true (h c hc),fun h c hc=>decide_eq_true (h c hc)⟩
theorem fU(a b:LK):(a++b).cps.toList=a.cps.toList++b.cps.toList:=by rw[QR];simp
theorem fA{a b:LK}(ha:aY a)(hb:aY b):aY (a++b):=by
 rw[dA,fU]
 intro c hc
 rcases Mp.mp hc with h|h
 ·exact dA.mp ha c h
 ·exact dA.mp hb c h
theorem zU(sep:LK)(m:Nat):∀(xs:List LK)(a:Nat),(∀x∈xs,x.length<=m)->xs.foldl (fun n x=>n+x.length+sep.length) a<=a+xs.length*(m+sep.length)
 |[],a,_=>by simp
 |x::xs,a,h=>by
  have h1:=h x (by simp)
  have ih:=zU sep m xs (a+x.length+sep.length) fun y hy=>h y (MU _ hy)
  have e:(x::xs).length*(m+sep.length)=xs.length*(m+sep.length)+(m+sep.length):=by rw[MW,Sy,Sg]
  rw[e]
  simp only[List.foldl_cons]
  omega
theorem Ar{sep:LK}{m:Nat}:∀{xs:List LK},(∀x∈xs,x.length<=m)->(OV sep xs).length<=xs.length*(m+sep.length)
 |[],_=>by show(ML:LK).length<=_;exact MK _
 |[x],h=>by
  have:=h x (by simp)
  show x.length<=1*_
  omega
 |x::y::r,h=>by
  have h1:=h x (by simp)
  have ih:=Ar (sep:=sep) (xs:=y::r) fun z hz=>h z (MU _ hz)
  show(x++sep++OV sep (y::r)).length<=_
  rw[NS,NS,show(x::y::r).length=(y::r).length+1 from rfl,Sy,Sg]
  omega
theorem Jm{K:LO}{H:Hp}{Q:VK}{sep:LK}{p:LL}{xs:List LK}(m:Nat)(hS:aK K H p (xs.map V.str))(hx:∀x∈xs,x.length<=m)(hb:xs.length*(m+sep.length)<=16777216)(q:Q (.str (OV sep xs)) H):rJoin K (.str sep) [.ref p] H Q:=by
 have e:=VJ sep xs
 exists sep,p,xs,rfl,rfl,hS,?_,?_
 ·have h:=zU sep m xs 0 hx
  refine decide_eq_false ?_
  rw[size_eq]
  simp only[List.foldl_toArray',MC]
  omega
 ·rw[e,size_eq]
  exact Ma (Ar hx) hb
 ·rw[e]
  exact q
theorem lH{z:LK}{lo hi:Option Int}(h:aY z):aY (MI z lo hi):=by
 unfold MI
 split
 ·exact h
 ·rw[dA]
  intro c hc
  have hc:c∈List.filterMap (fun i=>z.cps[i]?) (OJ lo hi 1 z.length):=by simpa using hc
  obtain⟨i,_,e⟩:=QI.mp hc
  exact dA.mp h c (by
   have:=Array.mem_of_getElem? e
   simpa using this)
theorem wZ{c:Nat}(h:c<128):aY ⟨#[c]⟩:=by
 rw[dA]
 intro d hd
 have:d=c:=by simpa using hd
 omega
theorem j0(c:Nat):(⟨#[c]⟩:LK).length=1:=rfl
theorem GX{l:List Nat}{w:Int}(h0:0<=w)(h1:w.toNat<l.length):Cm l w=some (l.getD w.toNat 0):=by
 have h:l[w.toNat]?=some (l.getD w.toNat 0):=by rw[MH,Mg h1];rfl
 have:=az h
 rw[Int.toNat_of_nonneg h0]at this
 exact this
theorem B6:∀{ps:List (List Nat)}{p:List Nat},p∈ps->p.length<=(uN ps).length
 |[],_,h=>nomatch h
 |[p],q,h=>by
  have:q=p:=by simpa using h
  subst this
  exact L0 _
 |p::q::r,x,h=>by
  rcases L9.mp h with rfl|h
  ·simp only[uN,MR];omega
  ·have:=B6 h
   simp only[uN,MR,MW]
   omega
theorem jA{K:LO}{H:Hp}:∀xs:List LK,DatAll K H (xs.map V.str) (xs.map OD)
 |[]=>.nil
 |x::xs=>.cons (.str x) (jA xs)
theorem Dc:∀{ps:List (List Nat)}{p:List Nat}{c:Nat},p∈ps->c∈p->c∈uN ps
 |[],_,_,h,_=>nomatch h
 |[p],q,c,h,hc=>by
  have:q=p:=by simpa using h
  subst this
  exact hc
 |p::q::r,x,c,h,hc=>by
  rcases L9.mp h with rfl|h
  ·simp only[uN,Mp];exact .inl hc
  ·have:=Dc h hc
   simp only[uN,Mp,L9]
   exact .inr (.inr this)
theorem lF{x:LK}(h:aY x):QJ x=true:=by
 unfold QJ
 rw[<-S4,Ny]
 intro c hc
 have:=dA.mp h c hc
 exact decide_eq_true (by omega)
theorem pK(xs:List LK)(h:∀x∈xs,aY x):cV 1 (.list (xs.map OD)):=mK fun d hd=>by
 obtain⟨x,hx,rfl⟩:=LY.mp hd
 exact⟨by simp only[nice];exact lF (h x hx),by simp[OX]⟩
theorem Hm(h:Option Int)(n:Nat):OJ none h 1 n=OJ (some ((0:Nat):Int)) h 1 n:=by
 have e:max (0:Int) (min 0 (n:Int))=0:=by omega
 simp[OJ,e]
noncomputable def bx(l:List LL)(H H':Hp):Prop:=(∀a o,a∉l->H a=some o->H' a=some o)/\(∀a xs,H a=some (.tup xs)->H' a=some (.tup xs))/\∀a,H' a=none->H a=none
section
variable {H H1 H2:Hp}{l l':List LL}
theorem bx.of(s:av H H1):bx l H H1:=⟨fun a o _ h=>s a o h,fun a xs h=>s a _ h,fun _ h=>s.free h⟩
theorem bx.trans(a:bx l H H1)(b:bx l H1 H2):bx l H H2:=⟨fun c o n h=>b.1 c o n (a.1 c o n h),fun c xs h=>b.2.1 c xs (a.2.1 c xs h),fun c h=>a.2.2 c (b.2.2 c h)⟩
theorem bx.mono(a:bx l H H1)(h:∀c∈l,c∈l'):bx l' H H1:=⟨fun c o n q=>a.1 c o (fun z=>n (h c z)) q,a.2.1,a.2.2⟩
theorem bx.upd{a:LL}{o o':HO}(h:H a=some o)(ht:∀xs,o≠.tup xs)(m:a∈l):bx l H (L2.upd H a o'):=by
 refine⟨fun c u n q=>?_,fun c xs q=>?_,fun c q=>?_⟩
 ·rw[aq (fun z=>n (by rw[z];exact m))];exact q
 ·rw[aq (fun z=>by rw[z,h]at q;exact ht xs (MB q))];exact q
 ·by_cases z:c=a
  ·rw[z,ao]at q;cases q
  ·rw[aq z]at q;exact q
noncomputable def kS(l l':List LL)(H:Hp):Prop:=∀a∈l',a∈l\/H a=none
theorem kS.refl:kS l l H:=fun _ h=>.inl h
theorem kS.trans{l'':List LL}(a:kS l l' H)(b:kS l' l'' H1)(bt:bx l' H H1):kS l l'' H:=fun c h=>by
 rcases b c h with z|z
 ·exact a c z
 ·exact .inr (bt.2.2 c z)
end
noncomputable def Gd(H:Hp)(p:LK×Int)(t:LL):Prop:=H t=some (.tup [.str p.1,.int p.2])
noncomputable def y9(H:Hp)(p:LK×LK)(t:LL):Prop:=H t=some (.tup [.str p.1,.str p.2])
noncomputable def cq(H:Hp)(l:LL)(rows:List (LK×Int)):Prop:=∃ts:List LL,H l=some (.lst (ts.map V.ref))/\L7 (Gd H) rows ts
theorem cq.but{H H':Hp}{fp:List LL}{l:LL}{rows:List (LK×Int)}(b:bx fp H H')(h:cq H l rows)(n:l∉fp):cq H' l rows:=by
 obtain⟨ts,h1,h2⟩:=h
 exact⟨ts,b.1 _ _ n h1,Paired.mapP h2 fun _ _ q=>b.2.1 _ _ q⟩
theorem cq.same{H H':Hp}{l:LL}{rows:List (LK×Int)}(h:cq H l rows)(s:av H H'):cq H' l rows:=h.but (l:=l) (bx.of (l:=[]) s) (by simp)
noncomputable def HF(p:LK×Int):Mt:=.tuple [.str p.1,.int p.2]
theorem cq.dat{K:LO}{H:Hp}{l:LL}{rows:List (LK×Int)}(h:cq H l rows):de K H (.ref l) (.list (rows.map HF)):=by
 obtain⟨ts,h1,h2⟩:=h
 refine .lst (aK.of h1) ?_
 clear h1
 induction h2 with
 |nil=>exact .nil
 |cons q _ ih=>exact .cons (.tup (gf.of q) (.cons (.str _) (.cons (.int _) .nil))) ih
theorem Fj{rows:List (LK×Int)}(h:∀p∈rows,aY p.1):cV 2 (.list (rows.map HF)):=mK fun d hd=>by
 obtain⟨p,hp,rfl⟩:=LY.mp hd
 refine uB fun e he=>?_
 rcases L9.mp he with rfl|he
 ·exact⟨by rw[nice];exact lF (h p hp),by simp[OX]⟩
 ·rcases L9.mp he with rfl|he
  ·exact FP _
  ·cases he
noncomputable def ed(ps:List (LK×Int)):List (Key×V):=ps.map fun p=>(.inr p.1,.int p.2)
theorem cL(ps:List (LK×Int)):(ed ps).length=ps.length:=by simp[ed]
theorem i5{ps:List (LK×Int)}{i:Nat}{p:LK×Int}(h:ps[i]?=some p):(ed ps)[i]?=some (.inr p.1,.int p.2):=by simp[ed,h]
theorem mR:∀{ps:List (LK×Int)}{n:LK},n∉ps.map (·.1)->fM (ed ps) (.inr n)=none
 |[],_,_=>rfl
 |p::r,n,h=>by
  have h1:¬p.1=n:=fun z=>h (by rw[<-z];simp)
  show fM ((.inr p.1,.int p.2)::ed r) (.inr n)=none
  rw[gw (by simpa using h1)]
  exact mR fun z=>h (by rw[MQ];exact MU _ z)
theorem oF:∀{ps:List (LK×Int)}{n:LK}{x:Int},(ps.map (·.1)).Nodup->(n,x)∈ps->fM (ed ps) (.inr n)=some (.int x)
 |p::r,n,x,nd,h=>by
  have nd:(p.1::r.map (·.1)).Nodup:=nd
  obtain⟨n1,n2⟩:=MJ.mp nd
  show fM ((.inr p.1,.int p.2)::ed r) (.inr n)=_
  rcases L9.mp h with z|z
  ·subst z
   exact iS rfl
  ·have h1:¬p.1=n:=fun e=>n1 (by rw[e];exact LY.mpr ⟨_,z,rfl⟩)
   rw[gw (by simpa using h1)]
   exact oF n2 z
theorem CG{ps:List (LK×Int)}{n:LK}{x:Int}(h:n∉ps.map (·.1)):putK (ed ps) (.inr n) (.int x)=ed (ps++[(n,x)]):=by
 rw[Eo _ (mR h)]
 simp[ed]
theorem AF(ps:List (LK×Int))(n:LK):px (ed ps) (.inr n)=ed (ps.filter fun p=>decide (p.1≠n)):=by
 unfold px ed
 rw[Qx]
 congr 1
 refine Qi fun p _=>?_
 show decide ((NI p.1:Key)≠.inr n)=_
 congr 1
 simp
structure bo where
 ps:List (LK×Int)
 cs:List (LK×Int)
 ws:List (LK×LK)
 pot:Int
 giv:Int
 spt:Int
noncomputable def gG(d1 d2 w:LL)(a b c:Int):List (LK×V):=[("purses",.ref d1),("costs",.ref d2),("wishes",.ref w),("unshared",.int a),("gifts",.int b),("outlay",.int c)]
structure r8(K:LO)(H:Hp)(c dx d1 d2 w:LL)(wt:List LL)(s:bo):Prop where
 at_:H c=some (.ins (ar K "Chest") dx (gG d1 d2 w s.pot s.giv s.spt))
 p1:H d1=some (.dK (ed s.ps))
 p2:H d2=some (.dK (ed s.cs))
 w_:H w=some (.lst (wt.map V.ref))
 wt:L7 (y9 H) s.ws wt
 ne:d1≠d2
 nd:(s.ps.map (·.1)).Nodup
 nd2:(s.cs.map (·.1)).Nodup
noncomputable def aN(K:LO)(H:Hp)(c:LL)(fp:List LL)(s:bo):Prop:=∃dx d1 d2 w wt,r8 K H c dx d1 d2 w wt s/\fp=[c,d1,d2,w]
theorem gp:("costs":LK)≠"purses"/\("wishes":LK)≠"purses"/\("unshared":LK)≠"purses"/\("gifts":LK)≠"purses"/\("outlay":LK)≠"purses"/\
  ("wishes":LK)≠"costs"/\("unshared":LK)≠"costs"/\("gifts":LK)≠"costs"/\("outlay":LK)≠"costs"/\
  ("unshared":LK)≠"wishes"/\("gifts":LK)≠"wishes"/\("outlay":LK)≠"wishes"/\("gifts":LK)≠"unshared"/\("outlay":LK)≠"unshared"/\("outlay":LK)≠"gifts":=by decide +kernel
section
variable {d1 d2 w e:LL}{a b c x:Int}
theorem bY:(gG d1 d2 w a b c).lookup ("purses":LK)=some (V.ref d1):=by simp[gG,Np]
theorem dy:(gG d1 d2 w a b c).lookup ("costs":LK)=some (V.ref d2):=by
 have h:=gp
 simp[gG,Np,beq_eq_false_iff_ne.mpr h.1]
theorem fR:(gG d1 d2 w a b c).lookup ("wishes":LK)=some (V.ref w):=by
 obtain⟨h1,h2,h3,h4,h5,h6,h7,h8,h9,h10,h11,h12,h13,h14,h15⟩:=gp
 simp[gG,Np,beq_eq_false_iff_ne.mpr h2,beq_eq_false_iff_ne.mpr h6]
theorem eN:(gG d1 d2 w a b c).lookup ("unshared":LK)=some (V.int a):=by
 obtain⟨h1,h2,h3,h4,h5,h6,h7,h8,h9,h10,h11,h12,h13,h14,h15⟩:=gp
 simp[gG,Np,beq_eq_false_iff_ne.mpr h3,beq_eq_false_iff_ne.mpr h7,beq_eq_false_iff_ne.mpr h10]
theorem zx:(gG d1 d2 w a b c).lookup ("gifts":LK)=some (V.int b):=by
 obtain⟨h1,h2,h3,h4,h5,h6,h7,h8,h9,h10,h11,h12,h13,h14,h15⟩:=gp
 simp[gG,Np,beq_eq_false_iff_ne.mpr h4,beq_eq_false_iff_ne.mpr h8,beq_eq_false_iff_ne.mpr h11,beq_eq_false_iff_ne.mpr h13]
theorem wF:(gG d1 d2 w a b c).lookup ("outlay":LK)=some (V.int c):=by
 obtain⟨h1,h2,h3,h4,h5,h6,h7,h8,h9,h10,h11,h12,h13,h14,h15⟩:=gp
 simp[gG,Np,beq_eq_false_iff_ne.mpr h5,beq_eq_false_iff_ne.mpr h9,beq_eq_false_iff_ne.mpr h12,beq_eq_false_iff_ne.mpr h14,beq_eq_false_iff_ne.mpr h15]
theorem xv:bZ "purses" (.ref e) (gG d1 d2 w a b c)=gG e d2 w a b c:=by simp[gG,bZ]
theorem qT:bZ "wishes" (.ref e) (gG d1 d2 w a b c)=gG d1 d2 e a b c:=by
 obtain⟨h1,h2,h3,h4,h5,h6,h7,h8,h9,h10,h11,h12,h13,h14,h15⟩:=gp
 simp[gG,bZ,h2.symm,h6.symm]
theorem jd:bZ "unshared" (.int x) (gG d1 d2 w a b c)=gG d1 d2 w x b c:=by
 obtain⟨h1,h2,h3,h4,h5,h6,h7,h8,h9,h10,h11,h12,h13,h14,h15⟩:=gp
 simp[gG,bZ,h3.symm,h7.symm,h10.symm]
theorem Ex:bZ "gifts" (.int x) (gG d1 d2 w a b c)=gG d1 d2 w a x c:=by
 obtain⟨h1,h2,h3,h4,h5,h6,h7,h8,h9,h10,h11,h12,h13,h14,h15⟩:=gp
 simp[gG,bZ,h4.symm,h8.symm,h11.symm,h13.symm]
theorem C8:bZ "outlay" (.int x) (gG d1 d2 w a b c)=gG d1 d2 w a b x:=by
 obtain⟨h1,h2,h3,h4,h5,h6,h7,h8,h9,h10,h11,h12,h13,h14,h15⟩:=gp
 simp[gG,bZ,h5.symm,h9.symm,h12.symm,h14.symm,h15.symm]
theorem Gy:bZ "outlay" (.int c) (bZ "gifts" (.int b) (bZ "unshared" (.int a) (bZ "wishes" (.ref w) (bZ "costs" (.ref d2) (bZ "purses" (.ref d1) [])))))=gG d1 d2 w a b c:=by
 obtain⟨h1,h2,h3,h4,h5,h6,h7,h8,h9,h10,h11,h12,h13,h14,h15⟩:=gp
 simp[gG,bZ,h1.symm,h2.symm,h3.symm,h4.symm,h5.symm,h6.symm,h7.symm,h8.symm,h9.symm,h10.symm,h11.symm,h12.symm,h13.symm,h14.symm,h15.symm]
theorem cD{m:LK}(h:(["purses","costs","wishes","unshared","gifts","outlay"]:List LK).contains m=false):(gG d1 d2 w a b c).lookup m=none:=by
 have h:∀x∈(["purses","costs","wishes","unshared","gifts","outlay"]:List LK),x≠m:=fun x hx e=>by
  rw[e]at hx
  rw[List.contains_iff_mem.mpr hx]at h
  cases h
 have g:∀x∈(["purses","costs","wishes","unshared","gifts","outlay"]:List LK),(m==x)=false:=fun x hx=>beq_eq_false_iff_ne.mpr (h x hx).symm
 simp only[gG,Np,g _ (by simp:("purses":LK)∈_),g _ (by simp:("costs":LK)∈_),g _ (by simp:("wishes":LK)∈_),g _ (by simp:("unshared":LK)∈_),g _ (by simp:("gifts":LK)∈_),g _ (by simp:("outlay":LK)∈_)]
end
section
variable {K:LO}{H H':Hp}{c dx d1 d2 w:LL}{wt:List LL}{s:bo}{fp l:List LL}
theorem r8.but(x:r8 K H c dx d1 d2 w wt s)(b:bx l H H')(n1:c∉l)(n2:d1∉l)(n3:d2∉l)(n4:w∉l):r8 K H' c dx d1 d2 w wt s:=
 ⟨b.1 _ _ n1 x.at_,b.1 _ _ n2 x.p1,b.1 _ _ n3 x.p2,b.1 _ _ n4 x.w_,Paired.mapP x.wt fun _ _ q=>b.2.1 _ _ q,x.ne,x.nd,x.nd2⟩
theorem r8.same(x:r8 K H c dx d1 d2 w wt s)(b:av H H'):r8 K H' c dx d1 d2 w wt s:=x.but (bx.of (l:=[]) b) (by simp) (by simp) (by simp) (by simp)
theorem aN.but(x:aN K H c fp s)(b:bx l H H')(n:∀a∈fp,a∉l):aN K H' c fp s:=by
 obtain⟨dx,d1,d2,w,wt,x,rfl⟩:=x
 exact⟨dx,d1,d2,w,wt,x.but b (n _ (by simp)) (n _ (by simp)) (n _ (by simp)) (n _ (by simp)),rfl⟩
theorem aN.same(x:aN K H c fp s)(b:av H H'):aN K H' c fp s:=x.but (bx.of (l:=[]) b) (by simp)
theorem aN.there(x:aN K H c fp s):∀a∈fp,H a≠none:=by
 obtain⟨dx,d1,d2,w,wt,x,rfl⟩:=x
 intro a ha
 simp only[L9,NG,or_false]at ha
 rcases ha with rfl|rfl|rfl|rfl
 ·rw[x.at_];simp
 ·rw[x.p1];simp
 ·rw[x.p2];simp
 ·rw[x.w_];simp
theorem aI{a b:LL}{o o':HO}(h:H a=some o)(h':H b=some o')(n:o≠o'):a≠b:=fun e=>n (by rw[e,h']at h;exact(MB h).symm)
theorem du{a b:LL}{o:HO}(h:H a=some o)(h':H b=none):a≠b:=fun e=>by rw[e,h']at h;cases h
theorem r8.setF{a b e:Int}(x:r8 K H c dx d1 d2 w wt s):r8 K (L2.upd H c (.ins (ar K "Chest") dx (gG d1 d2 w a b e))) c dx d1 d2 w wt ⟨s.ps,s.cs,s.ws,a,b,e⟩:=by
 have n1:=aI x.p1 x.at_ (by simp)
 have n2:=aI x.p2 x.at_ (by simp)
 have n3:=aI x.w_ x.at_ (by simp)
 exact⟨ao,by rw[aq n1];exact x.p1,by rw[aq n2];exact x.p2,by rw[aq n3];exact x.w_,Paired.mapP x.wt fun _ _ q=>by
  unfold y9 at *
  rw[aq (aI q x.at_ (by simp))];exact q,x.ne,x.nd,x.nd2⟩
theorem r8.setD{e:LL}{ps:List (LK×Int)}(x:r8 K H c dx d1 d2 w wt s)(he:H e=some (.dK (ed ps)))(hne:e≠d2)(nd:(ps.map (·.1)).Nodup):
  r8 K (L2.upd H c (.ins (ar K "Chest") dx (gG e d2 w s.pot s.giv s.spt))) c dx e d2 w wt ⟨ps,s.cs,s.ws,s.pot,s.giv,s.spt⟩:=by
 have n1:=aI he x.at_ (by simp)
 have n2:=aI x.p2 x.at_ (by simp)
 have n3:=aI x.w_ x.at_ (by simp)
 exact⟨ao,by rw[aq n1];exact he,by rw[aq n2];exact x.p2,by rw[aq n3];exact x.w_,Paired.mapP x.wt fun _ _ q=>by
  unfold y9 at *
  rw[aq (aI q x.at_ (by simp))];exact q,hne,nd,x.nd2⟩
theorem r8.setW{e:LL}{ws:List (LK×LK)}{wt':List LL}(x:r8 K H c dx d1 d2 w wt s)(he:H e=some (.lst (wt'.map V.ref)))(hp:L7 (y9 H) ws wt'):
  r8 K (L2.upd H c (.ins (ar K "Chest") dx (gG d1 d2 e s.pot s.giv s.spt))) c dx d1 d2 e wt' ⟨s.ps,s.cs,ws,s.pot,s.giv,s.spt⟩:=by
 have n1:=aI x.p1 x.at_ (by simp)
 have n2:=aI x.p2 x.at_ (by simp)
 have n3:=aI he x.at_ (by simp)
 exact⟨ao,by rw[aq n1];exact x.p1,by rw[aq n2];exact x.p2,by rw[aq n3];exact he,Paired.mapP hp fun _ _ q=>by
  unfold y9 at *
  rw[aq (aI q x.at_ (by simp))];exact q,x.ne,x.nd,x.nd2⟩
theorem r8.setP{ps:List (LK×Int)}(x:r8 K H c dx d1 d2 w wt s)(nd:(ps.map (·.1)).Nodup):r8 K (L2.upd H d1 (.dK (ed ps))) c dx d1 d2 w wt ⟨ps,s.cs,s.ws,s.pot,s.giv,s.spt⟩:=by
 have n1:=aI x.at_ x.p1 (by simp)
 have n3:=aI x.w_ x.p1 (by simp)
 exact⟨by rw[aq n1];exact x.at_,ao,by rw[aq (Mm x.ne)];exact x.p2,by rw[aq n3];exact x.w_,Paired.mapP x.wt fun _ _ q=>by
  unfold y9 at *
  rw[aq (aI q x.p1 (by simp))];exact q,x.ne,nd,x.nd2⟩
end
local macro_rules | `(tactic| walk_at "early") => `(tactic| first
 |with_reducible refine IA ?_
 |with_reducible refine Kk ?_
 |with_reducible refine JF ?_
 |with_reducible refine JM ?_
 |with_reducible refine Jv ?_
 |with_reducible refine IH ?_
 |with_reducible refine Kz ?_
 |with_reducible refine Ib ?_
 |with_reducible refine Kw ?_
 |with_reducible refine Ks ?_)
theorem oR{α β γ:Type}{F:β->γ->Prop}{f:α->β}:∀{xs:List α}{ys:List γ},L7 F (xs.map f) ys->L7 (fun x y=>F (f x) y) xs ys
 |[],_,.nil=>.nil
 |_::_,_,.cons h t=>.cons h (oR t)
noncomputable def isLet(c:Nat):Bool:=decide (97<=c)&&decide (c<=122)
noncomputable def eG(z:LK):Bool:=(decide (1<=z.length)&&decide (z.length<=8))&&z.cps.toList.all isLet
theorem CO:("abcdefghijklmnopqrstuvwxyz":LK).cps.toList=[97,98,99,100,101,102,103,104,105,106,107,108,109,110,111,112,113,114,115,116,117,118,119,120,121,122]:=by decide +kernel
theorem CJ(c:Nat):(!(OG ("abcdefghijklmnopqrstuvwxyz":LK) ⟨#[c]⟩ 0 ("abcdefghijklmnopqrstuvwxyz":LK).length 1).isEmpty)=isLet c:=by
 rw[Uu,show("abcdefghijklmnopqrstuvwxyz":LK).cps.toList=List.range' 97 26 by decide +kernel,Ng]
 simp only[isLet,decide_eq_true_eq,ND,List.mem_range'_1]
 omega
theorem gv{z:LK}(h:eG z=true):aY z:=by
 rw[dA]
 intro c hc
 have h2:=(ND _ _▸h:_/\_).2
 have:=Ny.mp h2 c hc
 simp[isLet]at this
 omega
theorem Ep{z:LK}(h:eG z=true):1<=z.length/\z.length<=8:=by
 simp[eG]at h
 exact h.1
theorem jJ(f:LK)(v:V):∀fs:List (LK×V),(bZ f v fs).length<=fs.length+1
 |[]=>L0 _
 |(g,x)::r=>by
  unfold bZ
  by_cases h:g=f
  ·rw[if_pos h];simp
  ·rw[if_neg h]
   have:=jJ f v r
   simp only[MW]
   omega
theorem iW{α:Type}(p:α->Bool)(d:α)(xs:List α):((Me xs.length).filter fun i=>p (xs.getD i d)).map (fun i=>xs.getD i d)=xs.filter p:=by
 have h:=bT (fun x=>x) d xs
 rw[SR]at h
 conv=>rhs;rw[<-h]
 rw[Qx]
 rfl
noncomputable def yn(s:bo)(x:Int):bo:={s with ps:=s.ps.map fun p=>(p.1,p.2+x),pot:=s.pot-x*s.ps.length}
noncomputable def jz(s:bo)(x:Int):bo:=if s.ps=[]then{s with pot:=s.pot+x,giv:=s.giv+x} else yn {s with pot:=s.pot+x,giv:=s.giv+x} ((s.pot+x)/(s.ps.length:Int))
noncomputable def yu(s:bo)(n:LK)(x:Int):bo:={s with ps:=s.ps.filter fun p=>decide (p.1≠n),ws:=s.ws.filter fun p=>!decide (p.1=n),pot:=s.pot+x}
theorem map_fst(ps:List (LK×Int))(x:Int):(ps.map fun p=>(p.1,p.2+x)).map (·.1)=ps.map (·.1):=by rw[Mn];rfl
theorem sO{α:Type}{ps:List (LK×α)}{p:LK×α->Bool}(h:(ps.map (·.1)).Nodup):((ps.filter p).map (·.1)).Nodup:=Sb (SN _ List.filter_sublist) h
theorem made{K:LO}{H H2:Hp}{c dx:LL}{fp:List LL}(f0:H c=none)(g0:H dx=none)(b:bx [c] (upd (upd H dx (.own c)) c (.ins (ar K "Chest") dx [])) H2)(w:kS [c] fp (upd (upd H dx (.own c)) c (.ins (ar K "Chest") dx []))):
  av H H2/\∀a∈fp,H a=none:=by
 refine⟨fun a o h=>?_,fun a ha=>?_⟩
 ·have n1:a≠c:=fun e=>by rw[e,f0]at h;cases h
  have n2:a≠dx:=fun e=>by rw[e,g0]at h;cases h
  exact b.1 a o (by simpa using n1) (by rw[aq n1,aq n2];exact h)
 ·rcases w a ha with e|e
  ·rw[Mz.mp e];exact f0
  ·by_cases n1:a=c
   ·rw[n1];exact f0
   ·rw[aq n1]at e
    by_cases n2:a=dx
    ·rw[n2];exact g0
    ·rw[aq n2]at e;exact e
noncomputable def dY(c:Int)(k:Nat):Int:=(c%900900929+2503*(k:Int)+77)*(c%900900929+2503*(k:Int)+77)*(c%900900929+2503*(k:Int)+77+31*(k:Int))/13%700700003
noncomputable def ie(c:Int)(m:Nat):List Int:=(Me m).map (dY c)
theorem xq(c:Int)(m:Nat):(ie c m).length=m:=by simp[ie]
theorem uf{c:Int}{m k:Nat}(h:k<m):((ie c m).map V.int)[k]?=some (.int (dY c k)):=by simp[ie,h]
theorem IB(l:Option Int)(n:Nat):OJ l none 1 n=OJ l (some (n:Int)) 1 n:=by
 have h:¬((n:Int)<0):=by omega
 have e:max (0:Int) (min (if(n:Int)<0 then(n:Int)+n else n) (n:Int))=n:=by rw[if_neg h];omega
 simp[OJ,e]
theorem rC{z:LK}{a b:Nat}(h1:a<=b)(h2:b<=z.length):(MI z (some (a:Int)) (some (b:Int))).cps.toList=(z.cps.toList.drop a).take (b-a):=by
 have hl:=cm z
 unfold MI
 split
 ·rename_i hc
  rw[Vm h1 h2]at hc
  have:b-a=z.length:=by simpa using hc
  have:a=0:=by omega
  subst this
  rw[QK,Nt (by omega)]
 ·rw[VQ z h1 h2]
theorem uq{z:LK}{b:Nat}(h:b<=z.length):(MI z none (some (b:Int))).cps.toList=z.cps.toList.take b:=by
 have e:MI z none (some (b:Int))=MI z (some ((0:Nat):Int)) (some (b:Int)):=by unfold MI;rw[Hm]
 rw[e,rC (MK _) h]
 simp
theorem u2{z:LK}{a:Nat}(h:a<=z.length):(MI z (some (a:Int)) none).cps.toList=z.cps.toList.drop a:=by
 have hl:=cm z
 have e:MI z (some (a:Int)) none=MI z (some (a:Int)) (some (z.length:Int)):=by unfold MI;rw[IB]
 rw[e,rC h (L0 _),Nt (by rw[Oh];omega)]
noncomputable def kZ(x:Int):Nat:=97+(x%26).toNat
theorem Iz(x:Int):Cm ("abcdefghijklmnopqrstuvwxyz":LK).cps.toList (x%26)=some (kZ x):=by
 have n0:0<=x%26:=by omega
 have n1:x%26<26:=by omega
 have hl:("abcdefghijklmnopqrstuvwxyz":LK).cps.toList.length=26:=by rw[CO];rfl
 rw[GX n0 (by rw[hl];omega),CO]
 unfold kZ
 generalize x%26=y at *
 obtain⟨n,rfl⟩:∃n:Nat,y=(n:Int):=⟨y.toNat,by omega⟩
 have hn:n<26:=by omega
 have key:∀n:Fin 26,([97,98,99,100,101,102,103,104,105,106,107,108,109,110,111,112,113,114,115,116,117,118,119,120,121,122]:List Nat).getD n.val 0=97+n.val:=by decide
 have:=key ⟨n,hn⟩
 rw[show((n:Int)).toNat=n by omega]
 rw[this]
theorem sQ(x:Int):isLet (kZ x)=true:=by
 unfold isLet kZ
 simp
 omega
theorem ub{x:Int}{i j:Nat}(hi:i<26)(hj:j<26)(h:kZ (x+i)=kZ (x+j)):i=j:=by
 unfold kZ at h
 omega
noncomputable def wl(c:Int):List Nat:=(Me 7).map fun j=>kZ (dY c j)
theorem j8(c:Int):(wl c).length=7:=by simp[wl]
theorem JW(c:Int):∀x∈wl c,isLet x=true:=fun x hx=>by
 obtain⟨j,_,rfl⟩:=LY.mp hx
 exact sQ _
noncomputable def HE(c:Int):List Nat:=(wl c).take (dY c 8/4%8).toNat
noncomputable def Ga(c:Int):Nat:=(dY c 8/32%(((HE c).length:Int)+1)).toNat
noncomputable def jL(c:Int)(k:Nat):List Nat:=
 if dY c 8%4=0 then kZ (dY c 7+(k/8:Nat))::(wl c).take (k%8)
 else if dY c 8%4=1 then(wl c).drop (7-k%8)++[kZ (dY c 7+(k/8:Nat))]
 else(HE c).take (Ga c)++kZ (dY c 7+(k:Int))::(HE c).drop (Ga c)
noncomputable def eo(c:Int)(k:Nat):LK:=⟨(jL c k).toArray⟩
theorem iH(c:Int)(k:Nat):(eo c k).cps.toList=jL c k:=by simp[eo]
theorem CM(c:Int):(HE c).length<=7:=by
 unfold HE
 rw[MS,j8]
 omega
theorem EV(c:Int)(k:Nat):1<=(jL c k).length/\(jL c k).length<=8/\∀x∈jL c k,isLet x=true:=by
 have h3:=CM c
 have hw:=JW c
 have hn:∀x∈HE c,isLet x=true:=fun x hx=>hw x (PM hx)
 unfold jL
 split
 ·refine⟨by simp,by simp[j8];omega,fun x hx=>?_⟩
  rcases L9.mp hx with rfl|hx
  ·exact sQ _
  ·exact hw x (PM hx)
 ·split
  ·refine⟨by simp,by simp only[MR,Oh,j8,Ou];omega,fun x hx=>?_⟩
   rcases Mp.mp hx with hx|hx
   ·exact hw x (Rq hx)
   ·rw[Mz.mp hx];exact sQ _
  ·refine⟨by simp;omega,?_,fun x hx=>?_⟩
   ·simp only[MR,MW,MS,Oh];omega
   ·rcases Mp.mp hx with hx|hx
    ·exact hn x (PM hx)
    ·rcases L9.mp hx with rfl|hx
     ·exact sQ _
     ·exact hn x (Rq hx)
theorem mB(c:Int)(k:Nat):eG (eo c k)=true:=by
 obtain⟨h1,h2,h3⟩:=EV c k
 have hl:=cm (eo c k)
 rw[iH]at hl
 unfold eG
 rw[iH,decide_eq_true (by omega),decide_eq_true (by omega),Ny.mpr h3]
 rfl
theorem Dj{c:Int}{i j:Nat}(hi:i<21)(hj:j<21)(h:eo c i=eo c j):i=j:=by
 have h:jL c i=jL c j:=by rw[<-iH,<-iH,h]
 unfold jL at h
 split at h
 ·obtain⟨h1,h2⟩:=T1 h
  have h3:=congrArg OQ h2
  rw[MS,MS,j8]at h3
  have h4:=ub (by omega) (by omega) h1
  omega
 ·split at h
  ·have h3:=congrArg OQ h
   simp only[MR,Oh,j8,Ou]at h3
   have h5:=congrArg (fun l=>l.getLast?) h
   simp only[List.getLast?_append,List.getLast?_singleton,Option.some_or]at h5
   have h4:=ub (by omega) (by omega) (MB h5)
   omega
  ·have h6:=List.append_cancel_left h
   exact ub (by omega) (by omega) (T1 h6).1
section
variable {l e:LL}{a b x:Int}
end
section
variable {K:LO}{H:Hp}{Q:VK}{p:LL}{xs:List V}{i:Int}{v:V}
theorem iO(hs:gf K H p xs)(ha:Cm xs i=some v)(h:Q v H):iY K (.ref p) (.int i) H Q:=⟨p,xs,i,v,rfl,rfl,hs,ha,h⟩
theorem kH{z:LK}{zs:List LK}(hs:aK K H p (zs.map V.str))(h:Q (.bl (!decide (z∈zs))) H):AS K true (.str z) (.ref p) H Q:=by
 exists p,_,rfl,.inl hs,rfl,wL zs
 rw[if_pos rfl,Cg]
 exact h
end
section
variable {K:LO}{H H':Hp}{c sd l:LL}{fp L:List LL}{s:bo}
end
theorem i6{α β:Type}{F:α->β->Prop}:∀{xs:List α}{ys:List β}{a:α}{b:β},L7 F xs ys->F a b->L7 F (xs++[a]) (ys++[b])
 |_,_,_,_,.nil,h=>.cons h .nil
 |_,_,_,_,.cons q t,h=>.cons q (i6 t h)
section
variable {K:LO}{H H':Hp}{c dx d1 d2 w:LL}{wt:List LL}{s:bo}{fp l:List LL}
theorem r8.setC{cs:List (LK×Int)}(x:r8 K H c dx d1 d2 w wt s)(nd:(cs.map (·.1)).Nodup):r8 K (L2.upd H d2 (.dK (ed cs))) c dx d1 d2 w wt ⟨s.ps,cs,s.ws,s.pot,s.giv,s.spt⟩:=by
 have n1:=aI x.at_ x.p2 (by simp)
 have n3:=aI x.w_ x.p2 (by simp)
 exact⟨by rw[aq n1];exact x.at_,by rw[aq x.ne];exact x.p1,ao,by rw[aq n3];exact x.w_,Paired.mapP x.wt fun _ _ q=>by
  unfold y9 at *
  rw[aq (aI q x.p2 (by simp))];exact q,x.ne,x.nd,nd⟩
theorem r8.addW{v n:LK}{t:LL}(x:r8 K H c dx d1 d2 w wt s)(ht:H t=some (.tup [.str v,.str n])):r8 K (L2.upd H w (.lst ((wt++[t]).map V.ref))) c dx d1 d2 w (wt++[t]) ⟨s.ps,s.cs,s.ws++[(v,n)],s.pot,s.giv,s.spt⟩:=by
 have n1:=aI x.at_ x.w_ (by simp)
 have n2:=aI x.p1 x.w_ (by simp)
 have n3:=aI x.p2 x.w_ (by simp)
 refine⟨by rw[aq n1];exact x.at_,by rw[aq n2];exact x.p1,by rw[aq n3];exact x.p2,ao,i6 (Paired.mapP x.wt fun _ _ q=>?_) ?_,x.ne,x.nd,x.nd2⟩
 ·unfold y9 at *
  rw[aq (aI q x.w_ (by simp))];exact q
 ·unfold y9
  rw[aq (aI ht x.w_ (by simp))];exact ht
end
noncomputable def Ci(p:LK×LK):Mt:=.tuple [.str p.1,.str p.2]
theorem CA{p q:LK×LK}(h:Ci p=Ci q):p=q:=by
 unfold Ci at h
 simp at h
 exact Prod.ext h.1 h.2
theorem HN{K:LO}{H:Hp}{ws:List (LK×LK)}{wt:List LL}(h:L7 (y9 H) ws wt):DatAll K H (wt.map V.ref) (ws.map Ci):=by
 induction h with
 |nil=>exact .nil
 |cons q _ ih=>exact .cons (.tup (gf.of q) (.cons (.str _) (.cons (.str _) .nil))) ih
theorem vj{n:Nat}{x:LK}(h:aY x):cV n (.str x):=⟨by rw[nice];exact lF h,by simp[OX]⟩
theorem yt{n:Nat}{p:LK×LK}(h1:aY p.1)(h2:aY p.2):cV (n+1) (Ci p):=uB fun e he=>by
 rcases L9.mp he with rfl|he
 ·exact vj h1
 ·rcases L9.mp he with rfl|he
  ·exact vj h2
  ·cases he
theorem Kb{n:Nat}{ws:List (LK×LK)}(h:∀p∈ws,aY p.1/\aY p.2):cV (n+2) (.list (ws.map Ci)):=mK fun d hd=>by
 obtain⟨p,hp,rfl⟩:=LY.mp hd
 exact yt (h p hp).1 (h p hp).2
theorem B9(p:LK×LK):∀ws:List (LK×LK),((ws.map Ci).any fun y=>Rw y (Ci p))=decide (p∈ws)
 |[]=>by simp
 |q::r=>by
  rw[MQ,Od,B9 p r,Ng,Bool.or_eq_true,decide_eq_true_eq,decide_eq_true_eq,RK,L9]
  constructor
  ·rintro(e|e)
   ·exact .inl (CA e).symm
   ·exact .inr e
  ·rintro(e|e)
   ·exact .inl (by rw[e])
   ·exact .inr e
theorem FL(p q:LK×LK):Rw (Ci p) (Ci q)=decide (p=q):=by
 rw[Ng,RK,decide_eq_true_eq]
 exact⟨CA,fun h=>by rw[h]⟩
section
variable {K:LO}{H:Hp}{Q:VK}{t w:LL}{p:LK×LK}{ws:List (LK×LK)}{wt:List LL}{neg:Bool}
theorem A2(ht:H t=some (.tup [.str p.1,.str p.2]))(hw:H w=some (.lst (wt.map V.ref)))(hp:L7 (y9 H) ws wt)(a1:aY p.1)(a2:aY p.2)(ha:∀p∈ws,aY p.1/\aY p.2)(h:Q (.bl (decide (p∈ws) != neg)) H):Ej K neg (.ref t) (.ref w) H Q:=
 ⟨ws.map Ci,Ci p,.lst (aK.of hw) (HN hp),.tup (gf.of ht) (.cons (.str _) (.cons (.str _) .nil)),(Kb (n:=2) ha).mono (by decide),(yt (n:=2) a1 a2).mono (by decide),by rw[B9];exact h⟩
end
noncomputable def JQ(H:Hp)(r:LK×Int×List LK)(t:LL):Prop:=∃l:LL,H t=some (.tup [.str r.1,.int r.2.1,.ref l])/\H l=some (.lst (r.2.2.map V.str))
section
variable {K:LO}{mp:List (Option Nat)}{te td:TE}{σ:St}{H:Hp}{Q:VK}{d:LL}{kvs:List (Key×V)}
theorem z0(htd:∀k:VK,k (.ref d) H->td σ H k)(hd:H d=some (.dK kvs))(hz:kvs.length<=LW)(u v:Nat->V)(hu:∀i q,kvs[i]?=some q->kV q.1=u i/\q.2=v i)
  (st:Nat->St) (hf:∀i σ',(σ'=cK mp σ\/∃j,σ'=st j)->(σ'.set 0 (some (u i))).set 1 (some (v i))=st i) (R:LL->Nat->V->Hp->Prop)
  (hR:∀l i v H1 H2,eB l H1 H2->R l i v H1->R l i v H2) (hRd:∀l i v H1 o,H1 d=some (.frz o (.dK kvs))->R l i v H1->R l i v (upd H1 d (.dK kvs)))
  (he:∀l i,i<kvs.length->∀(H':Hp)(G:VK),H l=none->(∃o,H' l=some o)->(∃o,H' d=some o)->eB d H H'->(∀v H'',R l i v H''->av H' H''->G v H'')->te (st i) H' G)
  (hq:∀l ys H2,H l=none->av H H2->H2 l=some (.lst ys)->L7 (fun i v=>R l i v H2) (Me kvs.length) ys->Q (.ref l) H2):
  gM (bL mp (sX td) (fK K 2 (bq (au 0) (bq (au 1) fN))) cY te) σ H Q:=by
 exists d,kvs,hd
 refine lu ?_
 refine htd _ ⟨d,kvs,rfl,hd,fun o w hw hne=>?_⟩
 have hl0:∀a,upd (upd H w (mE w d)) d (.frz o (.dK kvs)) a=none->H a=none:=fun a ha=>by
  by_cases h1:a=d
  ·subst h1;rw[ao]at ha;cases ha
  ·rw[aq h1]at ha
   by_cases h2:a=w
   ·subst h2;exact hw
   ·rwa [aq h2]at ha
 have hx:∀H',av (upd (upd H w (mE w d)) d (.frz o (.dK kvs))) H'->eB d H H':=fun H' s a x ha h=>by
  have hw2:a≠w:=fun e=>by rw[e,hw]at h;cases h
  exact s _ _ (by rw[aq ha,aq hw2];exact h)
 refine d6 (zh 0 1 u v hu) st hf (fun H' s=>s _ _ ao) hz (fun _=>true) R hR (fun i hi H' G s k=>k H' (av.refl _)) (fun l i hi _ H' G h0 h1 s k=>he l i hi H' G (hl0 l h0) h1 ⟨_,s _ _ ao⟩ (hx H' s) k) fun l ys H' h0 s h1 pr=>?_
 rw[Nu.mpr (fun _ _=>rfl)]at pr
 have hfd:H' d=some (.frz o (.dK kvs)):=s _ _ ao
 have hld:l≠d:=fun e=>by rw[e,ao]at h0;cases h0
 refine⟨o,kvs,hfd,hq l ys _ (hl0 l h0) (fun a x ha=>?_) (by rw[aq hld];exact h1) (Paired.mapP pr fun i v q=>hRd l i v H' o hfd q)⟩
 by_cases h1:a=d
 ·subst h1
  rw[ao,<-hd];exact ha
 ·rw[aq h1]
  exact hx H' s a x h1 ha
theorem uv{p:LL}{z:LK}{zs:List LK}(hs:aK K H p (zs.map V.str))(h:Q (.bl (decide (z∈zs))) H):AS K false (.str z) (.ref p) H Q:=by
 exists p,_,rfl,.inl hs,rfl,wL zs
 rw[if_neg MM,Cg]
 exact h
end
theorem rB{H':Hp}{P:LL->Prop}{f:Nat->LK×Int×List LK}:∀{is:List Nat}{ys:List V},L7 (fun i v=>∃t w,v=V.ref t/\P w/\H' t=some (.tup [.str (f i).1,.int (f i).2.1,.ref w])/\H' w=some (.lst ((f i).2.2.map V.str))) is ys->
  ∃ts:List LL,ys=ts.map V.ref/\L7 (JQ H') (is.map f) ts/\∀t∈ts,∀x y w,H' t=some (.tup [x,y,.ref w])->P w
 |_,_,.nil=>⟨[],rfl,.nil,fun t ht=>by cases ht⟩
 |_,_,.cons ⟨t,w,e,hp,h1,h2⟩ r=>by
  obtain⟨ts,e2,p2,q2⟩:=rB r
  refine⟨t::ts,by rw[e,e2];rfl,.cons ⟨w,h1,h2⟩ p2,fun t' ht x y w' h'=>?_⟩
  rcases L9.mp ht with rfl|ht
  ·rw[h1]at h'
   injection h' with h'
   injection h' with h'
   simp at h'
   rw[<-h'.2.2];exact hp
  ·exact q2 t' ht x y w' h'
theorem u5(ps:List (LK×Int))(P:LK->Bool):(((Me ps.length).filter fun i=>P (ps.getD i ("",0)).1).map fun i=>V.str (ps.getD i ("",0)).1)=((ps.map (·.1)).filter P).map V.str:=by
 have h:=iW (fun p:LK×Int=>P p.1) ("",0) ps
 have e:((ps.map (·.1)).filter P)=(ps.filter fun p=>P p.1).map (·.1):=by rw[Qx];rfl
 rw[e,<-h,Mn,Mn]
 rfl
noncomputable def eF(H:Hp)(l:LL)(ts:List LL)(rows:List (LK×Int×List LK)):Prop:=H l=some (.lst (ts.map V.ref))/\L7 (JQ H) rows ts
noncomputable def gO(s:bo)(p:LK×Int):LK×Int×List LK:=(p.1,p.2,(s.ps.map (·.1)).filter fun v=>decide ((v,p.1)∈s.ws))
section
variable {K:LO}{H H':Hp}{c lp lw:LL}{fp L:List LL}{s:bo}{people:List LK}{rows:List WkR}{m:Nat}
end
noncomputable def dW(r:LK×Int×List LK):Mt:=.tuple [.str r.1,.int r.2.1,.list (r.2.2.map OD)]
theorem eF.dat{K:LO}{H:Hp}{l:LL}{ts:List LL}{rows:List (LK×Int×List LK)}(h:eF H l ts rows):de K H (.ref l) (.list (rows.map dW)):=by
 obtain⟨h1,h2⟩:=h
 refine .lst (aK.of h1) ?_
 clear h1
 induction h2 with
 |nil=>exact .nil
 |cons q _ ih=>
  obtain⟨w,g1,g2⟩:=q
  exact .cons (.tup (gf.of g1) (.cons (.str _) (.cons (.int _) (.cons (.lst (aK.of g2) (jA _)) .nil)))) ih
theorem FF{rows:List (LK×Int×List LK)}(h:∀r∈rows,aY r.1/\∀z∈r.2.2,aY z):cV 3 (.list (rows.map dW)):=mK fun d hd=>by
 obtain⟨r,hr,rfl⟩:=LY.mp hd
 refine uB fun e he=>?_
 rcases L9.mp he with rfl|he
 ·exact vj (h r hr).1
 ·rcases L9.mp he with rfl|he
  ·exact FP _
  ·rcases L9.mp he with rfl|he
   ·exact pK _ (h r hr).2
   ·cases he
theorem eF.but{H H':Hp}{L:List LL}{l:LL}{ts:List LL}{rows:List (LK×Int×List LK)}(h:eF H l ts rows)(b:bx L H H')(n:l∉L)(nw:∀t∈ts,∀x y w,H t=some (.tup [x,y,.ref w])->w∉L):eF H' l ts rows:=by
 obtain⟨h1,h2⟩:=h
 exists b.1 _ _ n h1
 clear h1
 induction h2 with
 |nil=>exact .nil
 |@cons r t _ _ q _ ih=>
  obtain⟨w,g1,g2⟩:=q
  exact .cons ⟨w,b.2.1 _ _ g1,b.1 _ _ (nw t (by simp) _ _ _ g1) g2⟩ (ih fun t' ht=>nw t' (by simp[ht]))
theorem eF.tup{H:Hp}{l:LL}{ts:List LL}{rows:List (LK×Int×List LK)}(h:eF H l ts rows):∀t∈ts,∃r∈rows,JQ H r t:=by
 obtain⟨h1,h2⟩:=h
 clear h1
 induction h2 with
 |nil=>intro t ht;cases ht
 |cons q _ ih=>
  intro t' ht
  rcases L9.mp ht with rfl|ht
  ·exact⟨_,by simp,q⟩
  ·obtain⟨r,hr,z⟩:=ih t' ht
   exact⟨r,by simp[hr],z⟩
theorem DS{α β:Type}(f:α->β):∀(xs:List α)(j:Nat),(xs.map f).eraseIdx j=(xs.eraseIdx j).map f
 |[],_=>rfl
 |_::_,0=>rfl
 |a::r,j+1=>by
  show f a::(r.map f).eraseIdx j=f a::(r.eraseIdx j).map f
  rw[DS f r j]
section
variable {K:LO}{H:Hp}{Q:VK}{l:LL}{zs:List LK}{n:LK}{j:Nat}
end
noncomputable def zW(s:bo)(v:LK):List Nat:=(Me s.cs.length).filter fun k=>decide ((v,(s.cs.getD k ("",0)).1)∈s.ws)
noncomputable def intsOf(ks:List Nat):List Int:=ks.map fun k:Nat=>(k:Int)
noncomputable def er(s:bo):List (List Int):=s.ps.map fun p=>intsOf (zW s p.1)
noncomputable def qB(s:bo):Nat:=ni s.ps.length ^ (s.cs.length+1)
noncomputable def c5(s:bo):List Int:=s.ps.map fun p=>p.2*(qB s:Int)
noncomputable def iZ(s:bo):List Int:=s.cs.map (·.2)
noncomputable abbrev oX:=LK×Int×List (LK×Int)
noncomputable def bX(s:bo)(x:Nat×Int×List Int):oX:=((s.cs.getD x.1 ("",0)).1,(s.cs.getD x.1 ("",0)).2,((s.ps.map (·.1)).zip x.2.2).filter fun p=>decide (0<p.2))
noncomputable def Ij(H:Hp)(x:oX)(t:LL):Prop:=∃r:LL,H t=some (.tup [.str x.1,.int x.2.1,.ref r])/\cq H r x.2.2
noncomputable def pS(H:Hp)(l:LL)(ts:List LL)(rows:List oX):Prop:=H l=some (.lst (ts.map V.ref))/\L7 (Ij H) rows ts
theorem Ij.but{H H':Hp}{fp:List LL}{x:oX}{t:LL}(h:Ij H x t)(b:bx fp H H')(n:∀y z r,H t=some (.tup [y,z,.ref r])->r∉fp):Ij H' x t:=by
 obtain⟨r,h1,h2⟩:=h
 exact⟨r,b.2.1 _ _ h1,h2.but b (n _ _ _ h1)⟩
theorem pS.but{H H':Hp}{fp:List LL}{l:LL}{ts:List LL}{rows:List oX}(h:pS H l ts rows)(b:bx fp H H')(n:l∉fp)(nr:∀t∈ts,∀y z r,H t=some (.tup [y,z,.ref r])->r∉fp):pS H' l ts rows:=by
 obtain⟨h1,h2⟩:=h
 exists b.1 _ _ n h1
 clear h1
 induction h2 with
 |nil=>exact .nil
 |cons q _ ih=>exact .cons (q.but b (nr _ (by simp))) (ih fun t ht=>nr t (by simp[ht]))
theorem pS.tup{H H':Hp}{l:LL}{ts:List LL}{rows:List oX}(h:pS H l ts rows){fp:List LL}(b:bx fp H H'):∀t∈ts,∀y z r,H' t=some (.tup [y,z,.ref r])->H t=some (.tup [y,z,.ref r]):=by
 obtain⟨h0,h2⟩:=h
 clear h0
 induction h2 with
 |nil=>intro t ht;cases ht
 |cons q _ ih=>
  intro t ht y z r e
  rcases L9.mp ht with rfl|ht
  ·obtain⟨r',h1,_⟩:=q
   rw[b.2.1 _ _ h1]at e
   rw[h1];exact e
  ·exact ih t ht y z r e
noncomputable def Ky(H0 H:Hp)(r:LL)(rows:List (LK×Int)):Prop:=∃ts:List LL,H r=some (.lst (ts.map V.ref))/\L7 (fun p t=>H0 t=none/\Gd H p t) rows ts
theorem pQ{H':Hp}{P:LL->Prop}{f:Nat->oX}:∀{is:List Nat}{ys:List V},L7 (fun i v=>∃t r,v=V.ref t/\P r/\H' t=some (.tup [.str (f i).1,.int (f i).2.1,.ref r])/\cq H' r (f i).2.2) is ys->
  ∃ts:List LL,ys=ts.map V.ref/\L7 (Ij H') (is.map f) ts/\∀t∈ts,∀x y w,H' t=some (.tup [x,y,.ref w])->P w
 |_,_,.nil=>⟨[],rfl,.nil,fun t ht=>by cases ht⟩
 |_,_,.cons ⟨t,w,e,hp,h1,h2⟩ r=>by
  obtain⟨ts,e2,p2,q2⟩:=pQ r
  refine⟨t::ts,by rw[e,e2];rfl,.cons ⟨w,h1,h2⟩ p2,fun t' ht x y w' h'=>?_⟩
  rcases L9.mp ht with rfl|ht
  ·rw[h1]at h'
   injection h' with h'
   injection h' with h'
   simp at h'
   rw[<-h'.2.2];exact hp
  ·exact q2 t' ht x y w' h'
theorem Jr{K:LO}{H:Hp}{Q:VK}{d:LL}{kvs:List (Key×V)}(h:H d=some (.dK kvs))(q:∀v H1,H v=none->av H H1->H1 v=some (lQ v d)->Q (.ref v) H1):Hi K "dict" (.ref d) H/\FE (.ref d) [] H Q:=
 ⟨.inr (.inr (.inl ⟨rfl,.inl ⟨kvs,h⟩⟩)),d,kvs,rfl,rfl,h,fun v hv=>q v _ hv (av.updN hv) ao⟩
noncomputable def Jj:oX:=("",0,[])
theorem pS.ys{K:LO}{H:Hp}{l:LL}{ts:List LL}{rows:List oX}(h:pS H l ts rows):∃rs:List LL,∀(fp:List LL)(H':Hp),bx fp H H'->l∉fp->
  aK K H' l (ts.map V.ref)/\∀(i:Nat)(t:LL),ts[i]?=some t->gf K H' t [.str (rows.getD i Jj).1,.int (rows.getD i Jj).2.1,.ref (rs.getD i 0)]:=by
 obtain⟨h1,h2⟩:=h
 have go:∀{rows:List oX}{ts:List LL},L7 (Ij H) rows ts->∃rs:List LL,∀(i:Nat)(t:LL),ts[i]?=some t->H t=some (.tup [.str (rows.getD i Jj).1,.int (rows.getD i Jj).2.1,.ref (rs.getD i 0)]):=by
  intro rows ts h
  induction h with
  |nil=>exact⟨[],fun i t e=>by simp at e⟩
  |cons q _ ih=>
   obtain⟨rs,hr⟩:=ih
   obtain⟨r,g1,_⟩:=q
   refine⟨r::rs,fun i t e=>?_⟩
   cases i with
   |zero=>
    simp at e
    subst e
    exact g1
   |succ i=>exact hr i t (by simpa using e)
 obtain⟨rs,hr⟩:=go h2
 exact⟨rs,fun fp H' b n=>⟨aK.of (b.1 _ _ n h1),fun i t e=>gf.of (b.2.1 _ _ (hr i t e))⟩⟩
theorem Hu{s:bo}(g:s.ps.length<=20/\s.cs.length<=12):0<(qB s:Int)/\((qB s:Nat):Int)<lM:=by
 have h1:=vi s.ps.length (s.cs.length+1)
 have h2:=u3 (v:=s.ps.length) (w:=s.cs.length+1) g.1 (by have:=g.2;omega)
 have h3:=Fl
 unfold qB
 refine⟨by exact_mod_cast h1,TR h2 (TR ?_ h3)⟩
 decide +kernel
noncomputable def Fy(s:bo)(left:List Int)(g:Int):bo:={s with pot:=s.pot+(left.map (· % g)).sum/g,ps:=(s.ps.map (·.1)).zip (left.map (· / g))}
noncomputable def cJ(s:bo)(left:List Int)(g:Int)(rs:List oX):bo:=
 ⟨(s.ps.map (·.1)).zip (left.map (· / g)),s.cs.filter fun p=>decide (p.1∉rs.map (·.1)),s.ws.filter fun p=>decide (p.2∉rs.map (·.1)),s.pot+(left.map (· % g)).sum/g,s.giv,s.spt+(rs.map (·.2.1)).sum⟩
theorem BO(s:bo)(left:List Int)(g:Int):cJ s left g []=Fy s left g:=by
 unfold cJ Fy
 simp
structure CC(s:bo):Prop where
 v20:s.ps.length<=20
 n12:s.cs.length<=12
 ap:∀p∈s.ps,aY p.1
 ac:∀p∈s.cs,aY p.1
 aw:∀p∈s.ws,aY p.1/\aY p.2
 cb:∀p∈s.cs,1<=p.2/\p.2<=1000000000000
 p0:∀p∈s.ps,0<=p.2/\p.2<=1000000000000
 wl:s.ws.length<=900
theorem CC.town{s:bo}(g:CC s)(h:s.ps≠[]):EK (iZ s) (er s) (c5 s) where
 c12:=by simp[iZ];exact g.n12
 cb:=fun x hx=>by
  obtain⟨p,hp,rfl⟩:=LY.mp hx
  exact g.cb p hp
 v1:=by simp[er];exact Pj.mpr h
 v20:=by simp[er];exact g.v20
 pl:=by simp[c5,er]
 p0:=fun x hx=>by
  obtain⟨p,hp,rfl⟩:=LY.mp hx
  exact Sh (g.p0 p hp).1 (Int.natCast_nonneg _)
 pd:=fun x hx=>by
  obtain⟨p,hp,rfl⟩:=LY.mp hx
  have e1:(er s).length=s.ps.length:=by simp[er]
  have e2:(iZ s).length=s.cs.length:=by simp[iZ]
  rw[e1,e2]
  exact Qk (i8 (Nq _)) (Int.dvd_mul_left _ _)
theorem getD_mem{α:Type}{xs:List α}{i:Nat}(d:α)(h:i<xs.length):xs.getD i d∈xs:=by
 rw[MH,Mg h]
 exact Na h
theorem zw(s:bo)(left:List Int)(g:Int)(rs:List oX)(r:oX):cJ s left g (rs++[r])=
  {cJ s left g rs with spt:=(cJ s left g rs).spt+r.2.1,cs:=(cJ s left g rs).cs.filter fun p=>decide (p.1≠r.1),ws:=(cJ s left g rs).ws.filter fun p=>!decide (p.2=r.1)}:=by
 unfold cJ
 simp only[MX,PK,List.filter_filter,MQ,Pl,Pc,List.sum_nil,bo.mk.injEq,true_and]
 refine⟨?_,?_,by omega⟩
 ·refine Qi fun p _=>?_
  rw[Ng]
  simp
  exact Uj
 ·refine Qi fun p _=>?_
  rw[Ng]
  simp
  exact Uj
theorem ES{ps:List (LK×Int)}(nd:(ps.map (·.1)).Nodup){i j:Nat}(hi:i<ps.length)(hj:j<ps.length)(h:(ps.getD i ("",0)).1=(ps.getD j ("",0)).1):i=j:=by
 rw[MH,MH,Mg hi,Mg hj]at h
 have h:(ps[i]).1=(ps[j]).1:=h
 rcases O9 i j with c|c|c
 ·have:=Ni.mp nd i j (by simpa using hi) (by simpa using hj) c
  simp at this
  exact absurd h this
 ·exact c
 ·have:=Ni.mp nd j i (by simpa using hj) (by simpa using hi) c
  simp at this
  exact absurd h.symm this
noncomputable def Mv(l l':List LL)(H H':Hp):Prop:=bx l H H'/\kS l l' H
theorem Mv.trans{l l1 l2:List LL}{H H1 H2:Hp}(a:Mv l l1 H H1)(b:Mv l1 l2 H1 H2):Mv l l2 H H2:=by
 refine⟨⟨fun c o n h=>?_,fun c xs h=>b.1.2.1 _ _ (a.1.2.1 _ _ h),fun c h=>a.1.2.2 _ (b.1.2.2 _ h)⟩,fun c h=>?_⟩
 ·refine b.1.1 c o (fun m=>?_) (a.1.1 c o n h)
  rcases a.2 c m with z|z
  ·exact n z
  ·rw[h]at z;cases z
 ·rcases b.2 c h with z|z
  ·exact a.2 c z
  ·exact .inr (a.1.2.2 c z)
theorem Mv.same{l:List LL}{H H':Hp}(s:av H H'):Mv l l H H':=⟨bx.of s,kS.refl⟩
theorem Mv.out{l l':List LL}{H H':Hp}(a:Mv l l' H H'){x:LL}{o:HO}(h:H x=some o)(n:x∉l):x∉l':=fun m=>by
 rcases a.2 x m with z|z
 ·exact n z
 ·rw[h]at z;cases z
section
variable {K:LO}{σ:St}{H:Hp}{Q:VK}{l:LL}
theorem cy{ts:List LL}{ns:List LK}(hl:aK K H l (ts.map V.ref))(hn:ts.length=ns.length)(hz:ts.length<=1000)(ht:∀(j:Nat)(t:LL)(z:LK),ts[j]?=some t->ns[j]?=some z->∃rest,H t=some (.tup (.str z::rest)))
  (q:∀p H',H p=none->av H H'->H' p=some (.lst (ns.map V.str))->Q (.ref p) H'):cO [none] (au 0) cY (aH (iY K) (ae 0) (tC (.int 0))) (CP K l) σ H Q:=by
 have hm:(ts.map V.ref).length=ts.length:=by simp
 refine cG (cR (K:=K) (xs:=ts.map V.ref) 0) (fun j=>[some ((ts.map V.ref).getD j .non)]) (by rintro j σ' (rfl|⟨k,rfl⟩)<;>rfl) (fun H' s'=>s'.seq hl) (by rw[hm];exact Ma hz bg) (fun j=>.str (ns.getD j "")) ?_ ?_
 ·intro j hj H' G s' kk
  rw[hm]at hj
  obtain⟨rest,hr⟩:=ht j ts[j] ns[j] (by simp[hj]) (by simp)
  have et:(ts.map V.ref).getD j .non=.ref ts[j]:=by simp[Mf,hj]
  have en:ns.getD j ""=ns[j]:=by rw[MH,Mg (by omega)];rfl
  rw[et]
  walk_at "z"
  refine iO (gf.of (s' _ _ hr)) (az (j:=0) rfl) ?_
  have kk:=kk H' (av.refl _)
  rw[en]at kk
  exact kk
 intro p H' f s h
 rw[hm,hn,show(Me ns.length).map (fun j=>V.str (ns.getD j ""))=ns.map V.str from bT V.str "" ns]at h
 exact q p H' f s h
end
theorem cq.firsts{H:Hp}{l:LL}{rows:List (LK×Int)}(h:cq H l rows):∃ts:List LL,H l=some (.lst (ts.map V.ref))/\ts.length=(rows.map (·.1)).length/\∀(j:Nat)(t:LL)(z:LK),ts[j]?=some t->(rows.map (·.1))[j]?=some z->∃rest,H t=some (.tup (.str z::rest)):=by
 obtain⟨ts,h1,h2⟩:=h
 refine⟨ts,h1,by rw[Md];exact(Mr h2).symm,fun j t z ht hz=>?_⟩
 rw[MO]at hz
 cases hr:rows[j]? with
 |none=>rw[hr]at hz;cases hz
 |some r=>
  rw[hr]at hz
  cases hz
  obtain⟨t',e,q⟩:=dI h2 hr
  rw[ht]at e
  cases e
  exact⟨_,q⟩
noncomputable def uE(ws:List (LK×LK))(v n:LK):List (LK×LK):=if(v,n)∈ws then ws else ws++[(v,n)]
theorem DD{ws:List (LK×LK)}{v n:LK}{p:LK×LK}:p∈uE ws v n↔p∈ws\/p=(v,n):=by
 unfold uE
 by_cases h:(v,n)∈ws
 ·rw[if_pos h]
  exact⟨.inl,fun z=>z.elim id fun e=>by rw[e];exact h⟩
 ·rw[if_neg h]
  simp
theorem DF(ws:List (LK×LK))(v n:LK):(uE ws v n).length<=ws.length+1:=by
 unfold uE
 split<;>simp
theorem zm(ds:List Mt):Rw (.list ds) (.list [])=decide (ds=[]):=by
 rw[Ng,RK,decide_eq_true_eq]
 simp
section
variable {K:LO}{H:Hp}{Q:VK}{a l:LL}{n:Nat}{ds:List Mt}
theorem Fk(h1:de K H (.ref a) (.list ds))(hd:cV (n+1) (.list ds))(h2:H l=some (.lst []))(hn:n+1<=64)(h:Q (.bl (!decide (ds=[]))) H):oB K true (.ref a) (.ref l) H Q:=
 L2.BV h1 (.lst (aK.of h2) .nil) hd (mK fun d hd=>by cases hd) hn (by rw[zm];exact h)
theorem FX(h1:de K H (.ref a) (.list ds))(hd:cV (n+1) (.list ds))(h2:H l=some (.lst []))(hn:n+1<=64)(h:Q (.bl (decide (ds=[]))) H):oB K false (.ref a) (.ref l) H Q:=
 L2.Jt h1 (.lst (aK.of h2) .nil) hd (mK fun d hd=>by cases hd) hn (by rw[zm];exact h)
end
noncomputable def Kept(H0:Hp)(xs fp:List LL)(H:Hp):Prop:=∀x∈xs,x∉fp/\∃o,H0 x=some o/\H x=some o
theorem Kept.mv{H0 H H':Hp}{xs fp fp':List LL}(k:Kept H0 xs fp H)(m:Mv fp fp' H H'):Kept H0 xs fp' H':=fun x hx=>by
 obtain⟨n,o,h0,h1⟩:=k x hx
 exact⟨m.out h1 n,o,h0,m.1.1 _ _ n h1⟩
theorem Kept.at{H0 H:Hp}{xs fp:List LL}{x:LL}{o:HO}(k:Kept H0 xs fp H)(hx:x∈xs)(h:H0 x=some o):H x=some o:=by
 obtain⟨_,o',h0,h1⟩:=k x hx
 rw[h0]at h
 rw[h1];exact h
theorem Kept.same{H0 H H':Hp}{xs fp:List LL}(k:Kept H0 xs fp H)(s:av H H'):Kept H0 xs fp H':=k.mv (Mv.same s)
theorem Jo{α:Type}{l:List α}(x:Int)(h:l≠[]):∃j:Nat,x%(l.length:Int)=(j:Int)/\j<l.length:=by
 have hp:0<l.length:=Pj.mpr h
 have a1:=Pm x (show(l.length:Int)≠0 by omega)
 have a2:=QE x (show 0<(l.length:Int) by omega)
 exact⟨(x%(l.length:Int)).toNat,by omega,by omega⟩
theorem cq.at{H:Hp}{l:LL}{rows:List (LK×Int)}(h:cq H l rows):∃ts:List LL,H l=some (.lst (ts.map V.ref))/\ts.length=rows.length/\∀i,i<rows.length->∃t,ts[i]?=some t/\H t=some (.tup [.str (rows.getD i ("",0)).1,.int (rows.getD i ("",0)).2]):=by
 obtain⟨ts,h1,h2⟩:=h
 refine⟨ts,h1,(Mr h2).symm,fun i hi=>?_⟩
 obtain⟨t,e,q⟩:=dI h2 (Mg hi)
 have g:rows.getD i ("",0)=rows[i]:=by simp[Mf,hi]
 exact⟨t,e,by rw[g];exact q⟩
noncomputable def wN:LK×Int×List LK:=("",0,[])
theorem eF.at{H:Hp}{l:LL}{ts:List LL}{rows:List (LK×Int×List LK)}(h:eF H l ts rows):ts.length=rows.length/\∀i,i<rows.length->∃t w,ts[i]?=some t/\H t=some (.tup [.str (rows.getD i wN).1,.int (rows.getD i wN).2.1,.ref w])/\H w=some (.lst ((rows.getD i wN).2.2.map V.str)):=by
 obtain⟨h1,h2⟩:=h
 refine⟨(Mr h2).symm,fun i hi=>?_⟩
 obtain⟨t,e,w,q1,q2⟩:=dI h2 (Mg hi)
 have g:rows.getD i wN=rows[i]:=by simp[Mf,hi]
 exact⟨t,w,e,by rw[g];exact q1,by rw[g];exact q2⟩
theorem map_getD{α β:Type}(f:α->β)(d:α)(e:β){xs:List α}{i:Nat}(h:i<xs.length):(xs.map f).getD i e=f (xs.getD i d):=by simp[Mf,h]
theorem B0(ps:List Int)(sts:List (Nat×Int×List Int)):(cI ps sts).length=ps.length:=by simp[cI]
theorem eF.same{H H':Hp}{l:LL}{ts:List LL}{rows:List (LK×Int×List LK)}(h:eF H l ts rows)(s:av H H'):eF H' l ts rows:=h.but (bx.of (l:=[]) s) (by simp) fun _ _ _ _ _ _=>by simp
noncomputable def Cb(s:bo)(run:List (Nat×Int)):bo:=cJ s (cI (c5 s) (bQ (er s) (c5 s) run)) (qB s) ((bQ (er s) (c5 s) run).map (bX s))
theorem pG{s:bo}{run:List (Nat×Int)}:(Cb s run).ps.map (·.1)=s.ps.map (·.1):=by
 show((s.ps.map (·.1)).zip (NO _ (cI (c5 s) (bQ (er s) (c5 s) run)))).map (·.1)=_
 rw[Sl (by simp[B0,c5])]
noncomputable def vP:List (LK×Int)->LK->Int
 |[],_=>0
 |p::r,v=>if p.1=v then p.2 else vP r v
theorem Bt:∀{ps:List (LK×Int)}{v:LK},v∈ps.map (·.1)->(v,vP ps v)∈ps
 |[],_,h=>by cases h
 |p::r,v,h=>by
  unfold vP
  by_cases e:p.1=v
  ·rw[if_pos e,<-e]
   exact Nd
  ·rw[if_neg e]
   have h:v∈p.1::r.map (·.1):=h
   rcases L9.mp h with z|z
   ·exact absurd z.symm e
   ·exact MU _ (Bt z)
theorem Kg{ps:List (LK×Int)}(nd:(ps.map (·.1)).Nodup){v:LK}{x:Int}(h:(v,x)∈ps):vP ps v=x:=by
 induction ps with
 |nil=>cases h
 |cons p r ih=>
  have nd:(p.1::r.map (·.1)).Nodup:=nd
  obtain⟨n1,n2⟩:=MJ.mp nd
  unfold vP
  rcases L9.mp h with z|z
  ·rw[<-z,if_pos rfl]
  ·rw[if_neg (fun e=>n1 (by rw[e];exact LY.mpr ⟨_,z,rfl⟩))]
   exact ih n2 z
section
variable {lps:List (LK×Int)}{g:Int}{rows:List WRow}{r:WRow}{k:Nat}{L M:Int}
end
section
variable {s:bo}{left:List Int}(hl:left.length=s.ps.length)(nd:(s.ps.map (·.1)).Nodup)
include hl nd
end
theorem erase_filter{α:Type}[DecidableEq α]:∀{l:List α}{i:Nat}{x:α},l.Nodup->l[i]?=some x->l.eraseIdx i=l.filter fun y=>!decide (y=x)
 |[],i,x,_,h=>by simp at h
 |y::r,0,x,nd,h=>by
  simp at h
  subst h
  obtain⟨n1,_⟩:=MJ.mp nd
  rw[TX,SI (by simp)]
  refine(Nu.mpr fun z hz=>?_).symm
  have:z≠y:=fun e=>n1 (by rw[<-e];exact hz)
  simpa using this
 |y::r,i+1,x,nd,h=>by
  obtain⟨n1,n2⟩:=MJ.mp nd
  have h:r[i]?=some x:=by simpa using h
  have hne:y≠x:=fun e=>n1 (by rw[e];exact Nr h)
  rw[Rl,SD (by simpa using hne),erase_filter n2 h]
theorem eQ{α β:Type}(f:α->β):∀(l:List α)(i:Nat),(l.eraseIdx i).map f=(l.map f).eraseIdx i
 |[],_=>by simp
 |_::_,0=>rfl
 |x::r,i+1=>by simp[eQ f r i]
section
variable {s:bo}{left:List Int}(hl:left.length=s.ps.length)(nd:(s.ps.map (·.1)).Nodup)
include hl nd
end
theorem EX{a n:Nat}(h:a<n):seqIndex? (a:Int) n=some a:=by
 unfold seqIndex?
 have h1:¬((a:Int)<0):=by omega
 simp[h1,h]
noncomputable def cT(K:LO)(H:Hp)(E:XK)(n:LK):Prop:=∀H',av H H'->E (.ref (ar K n)) none H'
inductive aW where
 |enrol (z:LK)
 |propose (z:LK) (x:Int)
 |give (x:Int)
 |leave (z:LK)
 |withdraw (z:LK)
 |want (v n:LK)
 |unwant (v n:LK)
noncomputable def aW.due(s:bo):aW->Option LK
 |.enrol z=>if eG z=false then some "NoName" else if z∈s.ps.map (·.1)then some "Twice" else if 20<=s.ps.length then some "Full" else none
 |.propose z x=>if eG z=false then some "NoName" else if z∈s.cs.map (·.1)then some "Twice" else if x<1\/1000000000<x then some "TooMuch" else if 12<=s.cs.length then some "Full" else none
 |.give x=>if x<0\/1000000000<x then some "TooMuch" else none
 |.leave z=>if z∈s.ps.map (·.1)then none else some "NoVoter"
 |.withdraw z=>if z∈s.cs.map (·.1)then none else some "NoWork"
 |.want v n=>if v∈s.ps.map (·.1)then(if n∈s.cs.map (·.1)then none else some "NoWork")else some "NoVoter"
 |.unwant v n=>if v∈s.ps.map (·.1)then(if n∈s.cs.map (·.1)then none else some "NoWork")else some "NoVoter"
noncomputable def aW.things:aW->List V
 |.enrol z=>[.str z]
 |.propose z x=>[.str z,.int x]
 |.give x=>[.int x]
 |.leave z=>[.str z]
 |.withdraw z=>[.str z]
 |.want v n=>[.str v,.str n]
 |.unwant v n=>[.str v,.str n]
noncomputable def aW.word:aW->LK
 |.enrol _=>"enrol"
 |.propose _ _=>"propose"
 |.give _=>"give"
 |.leave _=>"leave"
 |.withdraw _=>"withdraw"
 |.want _ _=>"want"
 |.unwant _ _=>"unwant"
noncomputable def Tx(z:LK):Prop:=aY z/\z.length<=1000
noncomputable def aW.tx:aW->Prop
 |.enrol z=>Tx z
 |.propose z _=>Tx z
 |.give _=>True
 |.leave z=>Tx z
 |.withdraw z=>Tx z
 |.want v n=>Tx v/\Tx n
 |.unwant v n=>Tx v/\Tx n
theorem AA{ps:List (LK×Int)}{n:LK}(nd:(ps.map (·.1)).Nodup)(h:n∈ps.map (·.1)):(fM (ed ps) (.inr n)).isSome=true:=by
 obtain⟨p,hp,rfl⟩:=LY.mp h
 rw[oF nd (show(p.1,p.2)∈ps from hp)]
 rfl
theorem Fx{z a:LK}{n:Nat}(hz:Tx z)(ha:(ML++a).length=n)(hn:n<=1000):(ML++a).length<=LW/\(Rt z).length<=LW/\(ML++a++Rt z).length<=LW:=by
 have hsz:=size_eq
 have h2:=hz.2
 have hrp:=repr_fits hz.1 (show z.length<=100000 by omega)
 exists by omega,by omega
 rw[NS]
 omega
structure j3 where
 t:LL
 w:LL
 n:LK
 x:Int
 zs:List LK
noncomputable def j3.at(H:Hp)(r:j3):Prop:=H r.t=some (.tup [.str r.n,.int r.x,.ref r.w])/\H r.w=some (.lst (r.zs.map V.str))
noncomputable def hU(a b c:Int):List (Key×V):=[(.inr "pot",.int a),(.inr "given",.int b),(.inr "spent",.int c)]
theorem tX:("pot":LK)≠"given"/\("pot":LK)≠"spent"/\("given":LK)≠"spent":=by decide +kernel
section
variable {a b c x:Int}
theorem uY:fM (hU a b c) (.inr "pot")=some (.int a):=iS rfl
theorem AB:fM (hU a b c) (.inr "given")=some (.int b):=by
 unfold hU
 rw[gw (by simpa using tX.1),iS rfl]
theorem Fd:fM (hU a b c) (.inr "spent")=some (.int c):=by
 unfold hU
 rw[gw (by simpa using tX.2.1),gw (by simpa using tX.2.2),iS rfl]
theorem yo:putK (hU a b c) (.inr "pot") (.int x)=hU x b c:=by
 obtain⟨h1,h2,h3⟩:=tX
 simp[putK,hU,h1.symm,h2.symm]
theorem FR:putK (hU a b c) (.inr "given") (.int x)=hU a x c:=by
 obtain⟨h1,h2,h3⟩:=tX
 simp[putK,hU,h1,h3.symm]
theorem FT:putK (hU a b c) (.inr "spent") (.int x)=hU a b x:=by
 obtain⟨h1,h2,h3⟩:=tX
 simp[putK,hU,h2,h3]
theorem qz:(hU a b c).length<LW:=MD (show 3<1000 by decide) bg
end
noncomputable def cN(lp lw ld:LL)(rows:List j3):List LL:=lp::lw::ld::rows.map (·.w)
structure eV(H:Hp)(lp lw ld:LL)(s:bo)(rows:List j3):Prop where
 hp:cq H lp s.ps
 hw:H lw=some (.lst (rows.map fun r=>V.ref r.t))
 hr:∀r∈rows,r.at H
 hd:H ld=some (.dK (hU s.pot s.giv s.spt))
 nd:(cN lp lw ld rows).Nodup
 ec:s.cs=rows.map fun r=>(r.n,r.x)
 ew:∀v n,(v,n)∈s.ws↔∃r∈rows,r.n=n/\v∈r.zs
 zs:∀r∈rows,r.zs.Nodup/\∀z∈r.zs,z∈s.ps.map (·.1)
 np:(s.ps.map (·.1)).Nodup
 nc:(s.cs.map (·.1)).Nodup
 nm:∀p∈s.ps,eG p.1=true
 nn:∀p∈s.cs,eG p.1=true
 le:s.ps.length<=20
 lr:s.cs.length<=12
 cb:∀p∈s.cs,1<=p.2/\p.2<=1000000000
section
variable {H H':Hp}{lp lw ld:LL}{L:List LL}{s:bo}{rows:List j3}
theorem cq.lst{l:LL}{rs:List (LK×Int)}(h:cq H l rs):∃ts:List LL,H l=some (.lst (ts.map V.ref)):=let ⟨ts,h1,_⟩:=h;⟨ts,h1⟩
theorem eV.there(x:eV H lp lw ld s rows):∀a∈cN lp lw ld rows,H a≠none:=by
 intro a ha
 unfold cN at ha
 simp only[L9]at ha
 rcases ha with rfl|rfl|rfl|ha
 ·obtain⟨ts,h⟩:=x.hp.lst
  rw[h];simp
 ·rw[x.hw];simp
 ·rw[x.hd];simp
 ·obtain⟨r,hr,rfl⟩:=LY.mp ha
  rw[(x.hr r hr).2];simp
theorem eV.but(x:eV H lp lw ld s rows)(b:bx L H H')(h:∀a∈cN lp lw ld rows,a∉L):eV H' lp lw ld s rows:=
 ⟨x.hp.but b (h _ (by simp[cN])),b.1 _ _ (h _ (by simp[cN])) x.hw,fun r hr=>⟨b.2.1 _ _ (x.hr r hr).1,b.1 _ _ (h _ (by simp only[cN,L9];exact .inr (.inr (.inr (LY.mpr ⟨r,hr,rfl⟩))))) (x.hr r hr).2⟩,b.1 _ _ (h _ (by simp[cN])) x.hd,x.nd,x.ec,x.ew,x.zs,x.np,x.nc,x.nm,x.nn,x.le,x.lr,x.cb⟩
theorem eV.same(x:eV H lp lw ld s rows)(b:av H H'):eV H' lp lw ld s rows:=x.but (bx.of (l:=[]) b) (by simp)
theorem eV.rl(x:eV H lp lw ld s rows):rows.length=s.cs.length:=by rw[x.ec,Md]
theorem eV.nr(x:eV H lp lw ld s rows):(rows.map (·.n)).Nodup:=by
 have:=x.nc
 rw[x.ec,Mn]at this
 exact this
theorem gZ{rows:List j3}(nd:(rows.map (·.n)).Nodup){r r':j3}(h:r∈rows)(h':r'∈rows)(e:r.n=r'.n):r=r':=by
 obtain⟨i,hi,e1⟩:=NF h
 obtain⟨j,hj,e2⟩:=NF h'
 have:i=j:=by
  rcases O9 i j with c|c|c
  ·have:=Ni.mp nd i j (by simpa using hi) (by simpa using hj) c
   simp[e1,e2]at this
   exact absurd e this
  ·exact c
  ·have:=Ni.mp nd j i (by simpa using hj) (by simpa using hi) c
   simp[e1,e2]at this
   exact absurd e.symm this
 subst this
 rw[<-e1,<-e2]
theorem eV.told(x:eV H lp lw ld s rows):s.cs.map (gO s)=rows.map fun r=>(r.n,r.x,(s.ps.map (·.1)).filter fun v=>decide (v∈r.zs)):=by
 rw[x.ec,Mn]
 refine OA fun r hr=>?_
 show(r.n,r.x,(s.ps.map (·.1)).filter fun v=>decide ((v,r.n)∈s.ws))=_
 congr 2
 refine Qi fun v _=>?_
 refine decide_eq_decide.mpr ((x.ew v r.n).trans ⟨fun ⟨r',h1,h2,h3⟩=>?_,fun h=>⟨r,hr,rfl,h⟩⟩)
 rw[<-gZ x.nr h1 hr h2];exact h3
theorem eV.ap(x:eV H lp lw ld s rows):∀p∈s.ps,aY p.1:=fun p hp=>gv (x.nm p hp)
theorem eV.ac(x:eV H lp lw ld s rows):∀p∈s.cs,aY p.1:=fun p hp=>gv (x.nn p hp)
theorem eV.aw(x:eV H lp lw ld s rows):∀p∈s.ws,aY p.1/\aY p.2:=fun p hp=>by
 obtain⟨r,hr,e,hz⟩:=(x.ew p.1 p.2).mp hp
 have h1:=(x.zs r hr).2 _ hz
 obtain⟨p',hp',e'⟩:=LY.mp h1
 exists by rw[<-e'];exact x.ap p' hp'
 rw[<-e]
 exact x.ac (r.n,r.x) (by rw[x.ec];exact LY.mpr ⟨r,hr,rfl⟩)
theorem tR{z:LK}(h:eG z=true):Tx z:=⟨gv h,by have:=Ep h;omega⟩
theorem eV.firsts(x:eV H lp lw ld s rows):(rows.map (·.t)).length=(s.cs.map (·.1)).length/\∀(j:Nat)(t:LL)(z:LK),(rows.map (·.t))[j]?=some t->(s.cs.map (·.1))[j]?=some z->∃rest,H t=some (.tup (.str z::rest)):=by
 refine⟨by rw[x.ec];simp,fun j t z ht hz=>?_⟩
 rw[x.ec,Mn,MO]at hz
 rw[MO]at ht
 cases hr:rows[j]? with
 |none=>rw[hr]at ht;cases ht
 |some r=>
  rw[hr]at ht hz
  cases ht
  cases hz
  exact⟨_,(x.hr r (Nr hr)).1⟩
theorem eV.hw'(x:eV H lp lw ld s rows):H lw=some (.lst ((rows.map (·.t)).map V.ref)):=by rw[x.hw,Mn];rfl
end
section
variable {H:Hp}{l t:LL}{rows:List (LK×Int)}{i:Nat}{z:LK}{y:Int}
theorem cq.set(h:cq H l rows)(hi:i<rows.length)(ht:H t=some (.tup [.str z,.int y])):∃xs,H l=some (.lst xs)/\xs.length=rows.length/\cq (upd H l (.lst (xs.set i (.ref t)))) l (rows.set i (z,y)):=by
 obtain⟨ts,h1,h2⟩:=h
 have hl:=Mr h2
 exists _,h1,by rw[Md];exact hl.symm,ts.set i t,by rw[ao,List.map_set]
 refine jr (by simp[hl]) fun j x u hx hu=>?_
 have keep:∀{p:LK×Int}{a:LL},Gd H p a->Gd (upd H l (.lst ((ts.map V.ref).set i (.ref t)))) p a:=fun {p a} q=>by
  unfold Gd at *
  rw[aq (aI q h1 (by simp))];exact q
 by_cases e:i=j
 ·subst e
  rw[Pw hi]at hx
  rw[Pw (by omega)]at hu
  cases hx
  cases hu
  exact keep ht
 ·rw[Ql e]at hx hu
  obtain⟨r',hr',hq⟩:=iL h2 hu
  rw[hx]at hr'
  cases hr'
  exact keep hq
theorem nQ{α β:Type}{F:α->β->Prop}:∀{xs:List α}{ys:List β}(i:Nat),L7 F xs ys->L7 F (xs.eraseIdx i) (ys.eraseIdx i)
 |_,_,_,.nil=>by simpa using RJ
 |_,_,0,.cons _ r=>r
 |_,_,i+1,.cons h r=>.cons h (nQ i r)
theorem cq.pop(h:cq H l rows)(hi:i<rows.length):∃xs t,H l=some (.lst xs)/\xs.length=rows.length/\xs[i]?=some (.ref t)/\H t=some (.tup [.str (rows.getD i ("",0)).1,.int (rows.getD i ("",0)).2])/\cq (upd H l (.lst (xs.eraseIdx i))) l (rows.eraseIdx i):=by
 obtain⟨ts,h1,h2⟩:=h
 have hl:=Mr h2
 obtain⟨t,e,q⟩:=dI h2 (Mg hi)
 have g:rows.getD i ("",0)=rows[i]:=by simp[Mf,hi]
 exists _,t,h1,by rw[Md];exact hl.symm,by rw[MO,e];rfl,by rw[g];exact q,ts.eraseIdx i,by rw[ao,eQ]
 refine Paired.mapP (nQ i h2) fun p a q=>?_
 unfold Gd at *
 rw[aq (aI q h1 (by simp))];exact q
theorem cq.snoc(h:cq H l rows)(ht:H t=some (.tup [.str z,.int y])):∃xs,H l=some (.lst xs)/\xs.length=rows.length/\cq (upd H l (.lst (xs++[.ref t]))) l (rows++[(z,y)]):=by
 obtain⟨ts,h1,h2⟩:=h
 have hl:=Mr h2
 refine⟨_,h1,by rw[Md];exact hl.symm,ts++[t],by rw[ao];simp,i6 (Paired.mapP h2 fun p a q=>?_) ?_⟩
 ·unfold Gd at *
  rw[aq (aI q h1 (by simp))];exact q
 ·unfold Gd
  rw[aq (aI ht h1 (by simp))];exact ht
end
theorem my{α:Type}:∀{ps:List (LK×α)}{j:Nat}{z:LK},(ps.map (·.1)).Nodup->(ps.map (·.1))[j]?=some z->ps.eraseIdx j=ps.filter fun p=>decide (p.1≠z)
 |[],j,z,_,h=>by simp at h
 |p::r,0,z,nd,h=>by
  have h:p.1=z:=by simpa using h
  subst h
  have nd:(p.1::r.map (·.1)).Nodup:=nd
  obtain⟨n1,_⟩:=MJ.mp nd
  rw[TX,SI (by simp)]
  refine(Nu.mpr fun q hq=>?_).symm
  have:q.1≠p.1:=fun e=>n1 (by rw[<-e];exact LY.mpr ⟨q,hq,rfl⟩)
  simpa using this
 |p::r,j+1,z,nd,h=>by
  have nd:(p.1::r.map (·.1)).Nodup:=nd
  obtain⟨n1,n2⟩:=MJ.mp nd
  have h:(r.map (·.1))[j]?=some z:=by simpa using h
  have hne:p.1≠z:=fun e=>n1 (by rw[e];exact Nr h)
  rw[Rl,SD (by simpa using hne),my n2 h]
theorem eT{ns:List LK}(nd:ns.Nodup){z:LK}(h:z∈ns):∃j,ns[j]?=some z/\j<ns.length/\∀m,m<j->ns[m]?≠some z:=by
 obtain⟨j,hj,e⟩:=NF h
 refine⟨j,by rw[Mg hj,e],hj,fun m hm hz=>?_⟩
 have hm':m<ns.length:=by omega
 rw[Mg hm']at hz
 have:=Ni.mp nd m j hm' hj hm
 exact this ((MB hz).trans e.symm)
section
variable {H:Hp}{lp lw ld:LL}{s:bo}{rows:List j3}
theorem Cz{r:j3}(h:r∈rows):r.w∈cN lp lw ld rows:=by simp only[cN,L9];exact .inr (.inr (.inr (LY.mpr ⟨r,h,rfl⟩)))
theorem eV.w_ne(x:eV H lp lw ld s rows){r:j3}(h:r∈rows):r.w≠lp/\r.w≠lw/\r.w≠ld:=by
 have nd:=x.nd
 unfold cN at nd
 obtain⟨n1,nd⟩:=MJ.mp nd
 obtain⟨n2,nd⟩:=MJ.mp nd
 obtain⟨n3,nd⟩:=MJ.mp nd
 have hm:r.w∈rows.map (·.w):=LY.mpr ⟨r,h,rfl⟩
 exact⟨fun e=>n1 (by rw[<-e];simp[hm]),fun e=>n2 (by rw[<-e];simp[hm]),fun e=>n3 (by rw[<-e];exact hm)⟩
theorem eV.l_ne(x:eV H lp lw ld s rows):lp≠lw/\lp≠ld/\lw≠ld:=by
 have nd:=x.nd
 unfold cN at nd
 obtain⟨n1,nd⟩:=MJ.mp nd
 obtain⟨n2,nd⟩:=MJ.mp nd
 exact⟨fun e=>n1 (by simp[e]),fun e=>n1 (by simp[e]),fun e=>n2 (by simp[e])⟩
theorem eV.w_inj(x:eV H lp lw ld s rows){r r':j3}(h:r∈rows)(h':r'∈rows)(e:r.w=r'.w):r=r':=by
 have nd:=x.nd
 unfold cN at nd
 have nd:=(MJ.mp (MJ.mp (MJ.mp nd).2).2).2
 obtain⟨i,hi,e1⟩:=NF h
 obtain⟨j,hj,e2⟩:=NF h'
 have:i=j:=by
  rcases O9 i j with c|c|c
  ·have:=Ni.mp nd i j (by simpa using hi) (by simpa using hj) c
   simp[e1,e2]at this
   exact absurd e this
  ·exact c
  ·have:=Ni.mp nd j i (by simpa using hj) (by simpa using hi) c
   simp[e1,e2]at this
   exact absurd e.symm this
 subst this
 rw[<-e1,<-e2]
noncomputable def rW(rows:List j3)(n:LK)(zs:List LK):List j3:=rows.map fun q=>if q.n=n then{q with zs:=zs} else q
theorem B7(rows:List j3)(n:LK)(zs:List LK):(rW rows n zs).map (·.w)=rows.map (·.w):=by
 unfold rW
 rw[Mn]
 refine OA fun q _=>?_
 simp only[RC]
 split<;>rfl
theorem eV.wish(x:eV H lp lw ld s rows){r:j3}(hr:r∈rows){zs:List LK}{ws:List (LK×LK)}(hz:zs.Nodup/\∀z∈zs,z∈s.ps.map (·.1))(hw:∀v n,(v,n)∈ws↔((n=r.n/\v∈zs)\/(n≠r.n/\(v,n)∈s.ws))):
  eV (upd H r.w (.lst (zs.map V.str))) lp lw ld {s with ws:=ws} (rW rows r.n zs):=by
 obtain⟨n1,n2,n3⟩:=x.w_ne hr
 have b:bx [r.w] H (upd H r.w (.lst (zs.map V.str))):=bx.upd (x.hr r hr).2 (by intro xs z;cases z) (by simp)
 have hat:∀q∈rW rows r.n zs,(q.n=r.n/\q={r with zs:=zs})\/(q.n≠r.n/\q∈rows):=fun q hq=>by
  obtain⟨q',hq',rfl⟩:=LY.mp hq
  by_cases e:q'.n=r.n
  ·rw[if_pos e]
   left
   rw[gZ x.nr hq' hr e]
   exact⟨rfl,rfl⟩
  ·rw[if_neg e]
   exact .inr ⟨e,hq'⟩
 refine⟨x.hp.but b (by simpa using Mm n1),?_,fun q hq=>?_,b.1 _ _ (by simpa using Mm n3) x.hd,?_,?_,fun v n=>?_,fun q hq=>?_,x.np,x.nc,x.nm,x.nn,x.le,x.lr,x.cb⟩
 ·rw[b.1 _ _ (by simpa using Mm n2) x.hw]
  unfold rW
  rw[Mn]
  congr 2
  refine OA fun q _=>?_
  simp only[RC]
  split<;>rfl
 ·rcases hat q hq with⟨_,rfl⟩|⟨e,hq'⟩
  ·exact⟨b.2.1 _ _ (x.hr r hr).1,ao⟩
  ·exact⟨b.2.1 _ _ (x.hr q hq').1,b.1 _ _ (by
    have:q.w≠r.w:=fun e'=>e (by rw[x.w_inj hq' hr e'])
    simpa using this) (x.hr q hq').2⟩
 ·unfold cN
  rw[B7]
  exact x.nd
 ·show s.cs=_
  rw[x.ec]
  unfold rW
  rw[Mn]
  refine OA fun q _=>?_
  simp only[RC]
  split<;>rfl
 ·rw[hw v n]
  constructor
  ·rintro(⟨rfl,h⟩|⟨h1,h2⟩)
   ·exact⟨{r with zs:=zs},LY.mpr ⟨r,hr,by rw[if_pos rfl]⟩,rfl,h⟩
   ·obtain⟨q,hq,e,hv⟩:=(x.ew v n).mp h2
    exact⟨q,LY.mpr ⟨q,hq,by rw[if_neg (by rw[e];exact h1)]⟩,e,hv⟩
  ·rintro⟨q,hq,e,hv⟩
   rcases hat q hq with⟨e',rfl⟩|⟨e',hq'⟩
   ·exact .inl ⟨e.symm,hv⟩
   ·exact .inr ⟨by rw[<-e];exact e',(x.ew v n).mpr ⟨q,hq',e,hv⟩⟩
 ·rcases hat q hq with⟨_,rfl⟩|⟨e,hq'⟩
  ·exact hz
  ·exact x.zs q hq'
end
theorem ow:∀{xs ys:List LK},xs.Nodup->(∀x∈xs,x∈ys)->xs.length<=ys.length
 |[],_,_,_=>MK _
 |x::r,ys,nd,h=>by
  obtain⟨n1,n2⟩:=MJ.mp nd
  have h1:(ys.filter fun y=>!decide (y=x)).length<ys.length:=List.length_filter_lt_length_iff_exists.mpr ⟨x,h x (by simp),by simp⟩
  have h2:=ow (ys:=ys.filter fun y=>!decide (y=x)) n2 fun y hy=>Mw.mpr ⟨h y (by simp[hy]),by
   have:y≠x:=fun e=>n1 (by rw[<-e];exact hy)
   simpa using this⟩
  rw[MW]
  omega
noncomputable def je(K:LO):Sp:=cM 2 fun vs H Q=>∃(a:LL)(ns:List Int)(k:Nat),vs=[.ref a,.int k]/\aK K H a (ns.map V.int)/\∀(v:Int) H',av H H'->Q (.int v) H'
noncomputable def fG(K:LO):Sp:=cM 1 fun vs H Q=>∃(c dx:LL),vs=[.ref c]/\H c=some (.ins (ar K "Chest") dx [])/\∀H' fp,aN K H' c fp ⟨[],[],[],0,0,0⟩->bx [c] H H'->kS [c] fp H->Q .non H'
noncomputable def cx(K:LO):Sp:=fun vs H Q E=>vs.length=2/\∃(c:LL)(n:LK)(fp:List LL)(s:bo),vs=[.ref c,.str n]/\aN K H c fp s/\((n∈s.ps.map (·.1)/\Q .non H)\/(n∉s.ps.map (·.1)/\Tx n/\cT K H E "NoVoter"))
noncomputable def cz(K:LO):Sp:=fun vs H Q E=>vs.length=2/\∃(c:LL)(n:LK)(fp:List LL)(s:bo),vs=[.ref c,.str n]/\aN K H c fp s/\((n∈s.cs.map (·.1)/\Q .non H)\/(n∉s.cs.map (·.1)/\Tx n/\cT K H E "NoWork"))
noncomputable def EC(s:bo)(v n:LK):bo:={s with ws:=s.ws.filter fun p=>!decide (p=(v,n))}
noncomputable def gI(K:LO):Sp:=fun vs H Q E=>vs.length=3/\∃(c:LL)(v n:LK)(fp:List LL)(s:bo),vs=[.ref c,.str v,.str n]/\aN K H c fp s/\Tx v/\Tx n/\(∀p∈s.ws,aY p.1/\aY p.2)/\s.ws.length<=900/\
 ((aW.unwant v n).due s=none->∀H' fp',aN K H' c fp' (EC s v n)->bx fp H H'->kS fp fp' H->Q .non H')/\∀cl,(aW.unwant v n).due s=some cl->cT K H E cl
noncomputable def oh(_:LO):Sp:=cM 1 fun vs H Q=>∃z:LK,vs=[.str z]/\aY z/\z.length<=100000/\∀H',av H H'->Q (.bl (eG z)) H'
noncomputable def dF(K:LO):Sp:=fun vs H Q E=>vs.length=2/\∃(z:LK)(d:LL)(kvs:List (Key×V)),vs=[.str z,.ref d]/\H d=some (.dK kvs)/\Tx z/\
 ((eG z=true/\fM kvs (.inr z)=none/\∀H',av H H'->Q .non H')\/(eG z=false/\cT K H E "NoName")\/(eG z=true/\(fM kvs (.inr z)).isSome=true/\cT K H E "Twice"))
noncomputable def fg(K:LO):Sp:=fun vs H Q E=>vs.length=2/\∃(d:LL)(kvs:List (Key×V))(n:Int),vs=[.ref d,.int n]/\H d=some (.dK kvs)/\(n=12\/n=20)/\(((kvs.length:Int)<n/\Q .non H)\/(n<=(kvs.length:Int)/\cT K H E "Full"))
noncomputable def ik(K:LO):Sp:=fun vs H Q E=>vs.length=2/\∃(c:LL)(n:LK)(fp:List LL)(s:bo),vs=[.ref c,.str n]/\aN K H c fp s/\Tx n/\
 ((aW.enrol n).due s=none->∀H' fp',aN K H' c fp' ({s with ps:=s.ps++[(n,0)]})->bx fp H H'->kS fp fp' H->Q .non H')/\∀cl,(aW.enrol n).due s=some cl->cT K H E cl
noncomputable def fH(K:LO):Sp:=fun vs H Q E=>vs.length=2/\∃(x y:Int),vs=[.int x,.int y]/\(y=0\/y=1)/\((y<=x/\x<=1000000000/\Q .non H)\/((x<y\/1000000000<x)/\cT K H E "TooMuch"))
noncomputable def fP(K:LO):Sp:=fun vs H Q E=>vs.length=3/\∃(c:LL)(n:LK)(x:Int)(fp:List LL)(s:bo),vs=[.ref c,.str n,.int x]/\aN K H c fp s/\Tx n/\
 ((aW.propose n x).due s=none->∀H' fp',aN K H' c fp' ({s with cs:=s.cs++[(n,x)]})->bx fp H H'->kS fp fp' H->Q .non H')/\∀cl,(aW.propose n x).due s=some cl->cT K H E cl
noncomputable def ix(K:LO):Sp:=cM 2 fun vs H Q=>∃(c:LL)(x:Int)(fp:List LL)(s:bo),vs=[.ref c,.int x]/\aN K H c fp s/\s.ps.length<=20/\
 ∀H' fp',aN K H' c fp' (yn s x)->bx fp H H'->kS fp fp' H->Q .non H'
noncomputable def jk(K:LO):Sp:=fun vs H Q E=>vs.length=2/\∃(c:LL)(x:Int)(fp:List LL)(s:bo),vs=[.ref c,.int x]/\aN K H c fp s/\s.ps.length<=20/\
 ((aW.give x).due s=none->∀H' fp',aN K H' c fp' (jz s x)->bx fp H H'->kS fp fp' H->Q .non H')/\∀cl,(aW.give x).due s=some cl->cT K H E cl
noncomputable def ip(K:LO):Sp:=fun vs H Q E=>vs.length=2/\∃(c:LL)(n:LK)(fp:List LL)(s:bo),vs=[.ref c,.str n]/\aN K H c fp s/\Tx n/\s.ws.length<=1000/\
 ((aW.leave n).due s=none->∀H' fp',aN K H' c fp' (yu s n (vP s.ps n))->bx fp H H'->kS fp fp' H->Q .non H')/\∀cl,(aW.leave n).due s=some cl->cT K H E cl
noncomputable def ET(s:bo)(n:LK):bo:={s with cs:=s.cs.filter fun p=>decide (p.1≠n),ws:=s.ws.filter fun p=>!decide (p.2=n)}
noncomputable def dD(K:LO):Sp:=fun vs H Q E=>vs.length=2/\∃(c:LL)(n:LK)(fp:List LL)(s:bo),vs=[.ref c,.str n]/\aN K H c fp s/\s.ws.length<=1000/\
 ((aW.withdraw n).due s=none->∀H' fp',aN K H' c fp' (ET s n)->bx fp H H'->kS fp fp' H->Q .non H')/\∀cl,(aW.withdraw n).due s=some cl->Tx n/\cT K H E cl
noncomputable def kW(s:bo)(v n:LK):bo:=if(v,n)∈s.ws then s else{s with ws:=s.ws++[(v,n)]}
noncomputable def gm(K:LO):Sp:=fun vs H Q E=>vs.length=3/\∃(c:LL)(v n:LK)(fp:List LL)(s:bo),vs=[.ref c,.str v,.str n]/\aN K H c fp s/\Tx v/\Tx n/\(∀p∈s.ws,aY p.1/\aY p.2)/\s.ws.length<=900/\
 ((aW.want v n).due s=none->∀H' fp',aN K H' c fp' (kW s v n)->bx fp H H'->kS fp fp' H->Q .non H')/\∀cl,(aW.want v n).due s=some cl->cT K H E cl
theorem Ed(s:bo)(ws:List (LK×LK))(v n:LK):kW {s with ws:=ws} v n={s with ws:=uE ws v n}:=by
 unfold kW uE
 by_cases h:(v,n)∈ws
 ·rw[if_pos h,if_pos (show(v,n)∈({s with ws:=ws}:bo).ws from h)]
 ·rw[if_neg h,if_neg (show(v,n)∉({s with ws:=ws}:bo).ws from h)]
noncomputable def aW.app(s:bo):aW->bo
 |.enrol z=>{s with ps:=s.ps++[(z,0)]}
 |.propose z x=>{s with cs:=s.cs++[(z,x)]}
 |.give x=>jz s x
 |.leave z=>yu s z (vP s.ps z)
 |.withdraw z=>ET s z
 |.want v n=>kW s v n
 |.unwant v n=>EC s v n
noncomputable def eW(K:LO):Sp:=fun vs H Q E=>vs.length=3/\∃(c lt:LL)(fp:List LL)(s:bo)(D:aW),vs=[.ref c,.str D.word,.ref lt]/\H lt=some (.lst D.things)/\aN K H c fp s/\D.tx/\s.ps.length<=20/\(∀p∈s.ws,aY p.1/\aY p.2)/\s.ws.length<=900/\
 (D.due s=none->∀H' fp',aN K H' c fp' (D.app s)->bx fp H H'->kS fp fp' H->Q .non H')/\∀cl,D.due s=some cl->cT K H E cl
noncomputable def fi(_:LO):Sp:=cM 5 fun vs H Q=>∃(lt lp lw ld:LL)(s:bo)(rows:List j3)(D:aW),vs=[.str D.word,.ref lt,.ref lp,.ref lw,.ref ld]/\H lt=some (.lst D.things)/\lt∉cN lp lw ld rows/\eV H lp lw ld s rows/\D.due s=none/\D.tx/\
 ∀H' rows',eV H' lp lw ld (D.app s) rows'->Mv (cN lp lw ld rows) (cN lp lw ld rows') H H'->Q .non H'
noncomputable def dz(K:LO):Sp:=cM 1 fun vs H Q=>∃(c:LL)(fp:List LL)(s:bo),vs=[.ref c]/\aN K H c fp s/\∀l H',H l=none->av H H'->cq H' l s.ps->Q (.ref l) H'
noncomputable def fm(_:LO):Sp:=cM 2 fun vs H Q=>∃s n:Nat,vs=[.int s,.int n]/\0<s/\0<n/\Q (.int (NY s n:Nat)) H
noncomputable def lA(_:LO):Sp:=cM 1 fun vs H Q=>∃n:Nat,vs=[.int n]/\n<=20/\Q (.int (ni n:Nat)) H
noncomputable def gU(_:LO):Sp:=cM 2 fun vs H Q=>∃v w:Nat,vs=[.int v,.int w]/\1<=v/\v<=20/\w<=12/\Q (.int (ni v ^ (w+1):Nat)) H
noncomputable def oC(K:LO):Sp:=cM 2 fun vs H Q=>∃(a:LL)(sts:List (Nat×Int×List Int))(i:Nat),vs=[.ref a,.int i]/\g9 H a sts/\sts.length<=64/\(∀x∈sts,i<x.2.2.length)/\∀H',av H H'->Q (.int (sts.map fun x=>x.2.2.getD i 0).sum) H'
noncomputable def jS(K:LO):Sp:=cM 2 fun vs H Q=>∃(a b:LL)(ps:List Int)(sts:List (Nat×Int×List Int)),vs=[.ref a,.ref b]/\aK K H a (ps.map V.int)/\g9 H b sts/\ps.length<=20/\sts.length<=12/\(∀x∈sts,x.2.2.length=ps.length)/\
 ∀l H',H l=none->av H H'->H' l=some (.lst ((cI ps sts).map V.int))->Q (.ref l) H'
noncomputable def jY(K:LO):Sp:=cM 2 fun vs H Q=>∃(a b:LL)(cs:List Int)(rows:List (List Int)),vs=[.ref a,.ref b]/\aK K H a (cs.map V.int)/\gE K H b rows/\cs.length<=12/\(∀x∈cs,1<=x/\x<=1000000000000)/\1<=rows.length/\rows.length<=20/\
 ∀l H',H l=none->av H H'->H' l=some (.lst ((cs.map (· * ((ni rows.length ^ (cs.length+1):Nat):Int))).map V.int))->Q (.ref l) H'
noncomputable def jq(_:LO):Sp:=cM 2 fun vs H Q=>∃m p:Int,vs=[.int m,.int p]/\1<=p/\p<=1000/\Q (.int ((m+p-1)/p)) H
noncomputable def ky(K:LO):Sp:=cM 2 fun vs H Q=>∃(a:LL)(ps:List Int)(price:Int),vs=[.ref a,.int price]/\aK K H a (ps.map V.int)/\ps.length<=40/\(∀p∈ps,0<=p)/\1<=price/\
 (ps.sum<price->∀H',av H H'->Q .non H')/\(price<=ps.sum->∀L H',FZ ps price L->av H H'->Q (.int L) H')
noncomputable def kq(K:LO):Sp:=cM 2 fun vs H Q=>∃(a b:LL)(ws ks:List Int),vs=[.ref a,.ref b]/\aK K H a (ws.map V.int)/\aK K H b (ks.map V.int)/\ks.length<=64/\∀H',av H H'->Q (.bl (ks.all fun k=>decide (k∈ws))) H'
noncomputable def kx(K:LO):Sp:=cM 2 fun vs H Q=>∃(a b:LL)(rows:List (List Int))(ks:List Int),vs=[.ref a,.ref b]/\gE K H a rows/\aK K H b (ks.map V.int)/\rows.length<=64/\ks.length<=64/\
 ∀l H',H l=none->av H H'->H' l=some (.lst ((kg rows ks).map V.int))->Q (.ref l) H'
noncomputable def gq(K:LO):Sp:=cM 2 fun vs H Q=>∃(a:LL)(rows:List (List Int))(k:Int),vs=[.ref a,.int k]/\gE K H a rows/\rows.length<=64/\
 ∀l H',H l=none->av H H'->H' l=some (.lst ((kg rows [k]).map V.int))->Q (.ref l) H'
noncomputable def mz(K:LO):Sp:=cM 4 fun vs H Q=>∃(a b:LL)(ps:List Int)(rows:List (List Int))(k:Nat)(price:Int),vs=[.ref a,.ref b,.int k,.int price]/\aK K H a (ps.map V.int)/\gE K H b rows/\rows.length<=20/\ps.length=rows.length/\(∀p∈ps,0<=p)/\1<=price/\
 (F5 rows.length (WR rows) (PF ps) k<price->∀H',av H H'->Q .non H')/\(price<=F5 rows.length (WR rows) (PF ps) k->∀L H',1<=L->price<=sT rows.length (WR rows) (PF ps) k L->sT rows.length (WR rows) (PF ps) k (L-1)<price->av H H'->Q (.int L) H')
noncomputable def ka(K:LO):Sp:=cM 4 fun vs H Q=>∃(a b c d:LL)(ps cs:List Int)(rows:List (List Int))(done:List Nat),vs=[.ref a,.ref b,.ref c,.ref d]/\aK K H a (ps.map V.int)/\aK K H b (cs.map V.int)/\gE K H c rows/\aK K H d ((done.map fun k:Nat=>(k:Int)).map V.int)/\
 cs.length<=12/\(∀x∈cs,1<=x/\x<=1000000000000)/\1<=rows.length/\rows.length<=20/\ps.length=rows.length/\(∀p∈ps,0<=p)/\done.length<=12/\
 ∀l H' (os:List (Option Int)),H l=none->av H H'->H' l=some (.lst (os.map oV))->os.length=cs.length->(∀j o,os[j]?=some o->AO (dc cs rows) (PF ps) done j o)->Q (.ref l) H'
noncomputable def og(K:LO):Sp:=cM 1 fun vs H Q=>∃(a:LL)(os:List (Option Int)),vs=[.ref a]/\aK K H a (os.map oV)/\os.length<=12/\∀(k:Option Nat) H',gK os k->av H H'->Q (oV (k.map fun j:Nat=>(j:Int))) H'
noncomputable def lR(_:LO):Sp:=cM 1 fun vs H Q=>∃(a:LL)(sts:List (Nat×Int×List Int)),vs=[.ref a]/\g9 H a sts/\sts.length<=12/\(∀x∈sts,x.1<12)/\(sts.map (·.1)).Nodup/\
 ∀l H' (ws:List Nat),H l=none->av H H'->H' l=some (.lst ((ws.map fun k:Nat=>(k:Int)).map V.int))->ws.Pairwise (· < ·)->(∀k,k∈ws↔k∈sts.map (·.1))->Q (.ref l) H'
noncomputable def n9(K:LO):Sp:=cM 2 fun vs H Q=>∃(a:LL)(ps:List Int)(lev:Int),vs=[.ref a,.int lev]/\aK K H a (ps.map V.int)/\ps.length<=64/\
 ∀l H',H l=none->av H H'->H' l=some (.lst ((ps.map (min · lev)).map V.int))->Q (.ref l) H'
noncomputable def il(K:LO):Sp:=cM 4 fun vs H Q=>∃(a b:LL)(ps:List Int)(rows:List (List Int))(k:Nat)(L:Int),vs=[.ref a,.ref b,.int k,.int L]/\aK K H a (ps.map V.int)/\gE K H b rows/\rows.length=ps.length/\ps.length<=64/\∀l H',H l=none->av H H'->H' l=some (.lst ((nJ rows ps k L).map V.int))->Q (.ref l) H'
noncomputable def dG(K:LO):Sp:=cM 4 fun vs H Q=>∃(a b c d:LL)(ps cs:List Int)(rows:List (List Int))(sts:List (Nat×Int×List Int)),vs=[.ref a,.ref b,.ref c,.ref d]/\aK K H a (ps.map V.int)/\aK K H b (cs.map V.int)/\gE K H c rows/\g9 H d sts/\
 cs.length<=12/\(∀x∈cs,1<=x/\x<=1000000000000)/\1<=rows.length/\rows.length<=20/\ps.length=rows.length/\sts.length<=12/\(∀x∈sts,x.1<12)/\(sts.map (·.1)).Nodup/\(∀x∈sts,x.2.2.length=ps.length)/\(∀p∈cI ps sts,0<=p)/\
 ((∀k,k<cs.length->k∉sts.map (·.1)->F5 rows.length (WR rows) (PF (cI ps sts)) k<(dc cs rows).c k)->∀H',av H H'->Q .non H')/\
 (∀k L,Nx (dc cs rows) (PF (cI ps sts)) (sts.map (·.1)) k L->∀t b H',H t=none->H b=none->av H H'->H' t=some (.tup [.int k,.int L,.ref b])->H' b=some (.lst ((nJ rows (cI ps sts) k L).map V.int))->Q (.ref t) H')
noncomputable def qP(K:LO):Sp:=cM 3 fun vs H Q=>∃(a b c:LL)(ps cs:List Int)(rows:List (List Int)),vs=[.ref a,.ref b,.ref c]/\aK K H a (ps.map V.int)/\aK K H b (cs.map V.int)/\gE K H c rows/\EK cs rows ps/\
 ∀l H' run,H l=none->av H H'->iI H H' l (bQ rows ps run)->ya (dc cs rows) (PF ps) [] run->Q (.ref l) H'
noncomputable def ee(K:LO):Sp:=cM 3 fun vs H Q=>∃(c b:LL)(g:Int)(left:List Int)(fp:List LL)(s:bo),vs=[.ref c,.ref b,.int g]/\aN K H c fp s/\H b=some (.lst (left.map V.int))/\0<g/\g<lM/\left.length=s.ps.length/\s.ps.length<=20/\
 ∀H' fp',aN K H' c fp' (Fy s left g)->bx fp H H'->kS fp fp' H->Q .non H'
noncomputable def di(K:LO):Sp:=cM 2 fun vs H Q=>∃(c dx d1 d2 w:LL)(n:LK)(wt:List LL)(s:bo),vs=[.ref c,.str n]/\H c=some (.ins (ar K "Chest") dx (gG d1 d2 w s.pot s.giv s.spt))/\H d2=some (.dK (ed s.cs))/\H w=some (.lst (wt.map V.ref))/\L7 (y9 H) s.ws wt/\
 aY n/\(∀p∈s.cs,aY p.1)/\(∀p∈s.ws,aY p.1/\aY p.2)/\s.cs.length<=1000/\
 ∀l H',H l=none->av H H'->H' l=some (.lst ((intsOf (zW s n)).map V.int))->Q (.ref l) H'
noncomputable def eJ(K:LO):Sp:=cM 3 fun vs H Q=>∃(c b:LL)(k:Nat)(L:Int)(paid:List Int)(fp:List LL)(s:bo),vs=[.ref c,.int k,.ref b]/\aN K H c fp s/\k<s.cs.length/\H b=some (.lst (paid.map V.int))/\paid.length=s.ps.length/\s.ps.length<=20/\s.cs.length<=12/\
 ∀t r H',H t=none->H r=none->t≠r->av H H'->H' t=some (.tup [.str (bX s (k,L,paid)).1,.int (bX s (k,L,paid)).2.1,.ref r])->Ky H H' r (bX s (k,L,paid)).2.2->Q (.ref t) H'
noncomputable def iF(K:LO):Sp:=cM 1 fun vs H Q=>∃(c:LL)(fp:List LL)(s:bo),vs=[.ref c]/\aN K H c fp s/\CC s/\
 ((s.ps=[]\/s.cs=[])->∀t l H',H t=none->H l=none->t≠l->av H H'->H' t=some (.tup [.ref l,.int 1])->H' l=some (.lst [])->Q (.ref t) H')/\
 (s.ps≠[]->s.cs≠[]->∀run t l ts H' fp',ya (dc (iZ s) (er s)) (PF (c5 s)) [] run->bx fp H H'->kS fp fp' H->aN K H' c fp' (cJ s (cI (c5 s) (bQ (er s) (c5 s) run)) (qB s) ((bQ (er s) (c5 s) run).map (bX s)))->
  H t=none->H l=none->l∉fp'->H' t=some (.tup [.ref l,.int (qB s)])->pS H' l ts ((bQ (er s) (c5 s) run).map (bX s))->(∀t'∈ts,∀y z r,H' t'=some (.tup [y,z,.ref r])->r≠l/\H r=none/\r∉fp')->Q (.ref t) H')
noncomputable def gT(K:LO):Sp:=cM 1 fun vs H Q=>∃(c:LL)(fp:List LL)(s:bo),vs=[.ref c]/\aN K H c fp s/\Q (.int s.pot) H
noncomputable def fJ(K:LO):Sp:=cM 1 fun vs H Q=>∃(c:LL)(fp:List LL)(s:bo),vs=[.ref c]/\aN K H c fp s/\Q (.int s.spt) H
noncomputable def fY(K:LO):Sp:=cM 2 fun vs H Q=>∃(c dx d1 d2 w:LL)(n:LK)(wt:List LL)(s:bo),vs=[.ref c,.str n]/\H c=some (.ins (ar K "Chest") dx (gG d1 d2 w s.pot s.giv s.spt))/\H d1=some (.dK (ed s.ps))/\H w=some (.lst (wt.map V.ref))/\L7 (y9 H) s.ws wt/\
 aY n/\(∀p∈s.ps,aY p.1)/\(∀p∈s.ws,aY p.1/\aY p.2)/\s.ps.length<=1000/\
 ∀l H',H l=none->av H H'->H' l=some (.lst (((s.ps.map (·.1)).filter fun v=>decide ((v,n)∈s.ws)).map V.str))->Q (.ref l) H'
noncomputable def dO(K:LO):Sp:=cM 1 fun vs H Q=>∃(c:LL)(fp:List LL)(s:bo),vs=[.ref c]/\aN K H c fp s/\(∀p∈s.ps,aY p.1)/\(∀p∈s.cs,aY p.1)/\(∀p∈s.ws,aY p.1/\aY p.2)/\s.ps.length<=1000/\s.cs.length<=1000/\
 ∀l ts H',H l=none->av H H'->eF H' l ts (s.cs.map (gO s))->(∀t∈ts,∀x y w,H' t=some (.tup [x,y,.ref w])->w≠l/\H w=none)->Q (.ref l) H'
noncomputable def j4(K:LO):Sp:=cM 4 fun vs H Q=>∃(c lp lw ld:LL)(fp:List LL)(s:bo)(rows:List j3),vs=[.ref c,.ref lp,.ref lw,.ref ld]/\aN K H c fp s/\eV H lp lw ld s rows/\(∀a∈cN lp lw ld rows,a∉fp)/\s.ws=[]/\(∀p∈s.ps,0<=p.2/\p.2<=1000000000000)/\
 ∀H' fp' s' rows',aN K H' c fp' s'->eV H' lp lw ld s' rows'->s'.ws.length<=100->Mv (cN lp lw ld rows++fp) (cN lp lw ld rows'++fp') H H'->(∀a∈cN lp lw ld rows',a∉fp')->Q .non H'
noncomputable def gk(_:LO):Sp:=cM 2 fun vs H Q=>∃(c:Int)(m:Nat),vs=[.int c,.int m]/\m<=1000/\∀(l:LL) H',H l=none->av H H'->H' l=some (.lst ((ie c m).map V.int))->Q (.ref l) H'
noncomputable def cU(_:LO):Sp:=cM 2 fun vs H Q=>∃(c:Int)(k:Nat),vs=[.int c,.int k]/\k<=1000/\∀H',av H H'->Q (.str (eo c k)) H'
noncomputable def dk(_:LO):Sp:=cM 3 fun vs H Q=>∃(cell x:Int)(l:LL)(zs:List LK),vs=[.int cell,.int x,.ref l]/\H l=some (.lst (zs.map V.str))/\(∀z∈zs,Tx z)/\∀z H',av H H'->Tx z->Q (.str z) H'
noncomputable def fk(_:LO):Sp:=cM 2 fun vs H Q=>∃(x y:Int),vs=[.int x,.int y]/\∀(v:Int) H',av H H'->Q (.int v) H'
noncomputable def ig(_:LO):Sp:=cM 5 fun vs H Q=>∃(word:LK)(lx lp lw ld:LL)(cell:Int)(xs:List Int)(s:bo)(rows:List j3),vs=[.str word,.ref lx,.int cell,.ref lp,.ref lw]/\H lx=some (.lst (xs.map V.int))/\xs.length=4/\eV H lp lw ld s rows/\word∈(["enrol","propose","give","leave","withdraw","want","unwant"]:List LK)/\
 ∀(D:aW) l H',D.word=word->D.tx->H l=none->av H H'->H' l=some (.lst D.things)->Q (.ref l) H'
noncomputable def gL(_:LO):Sp:=cM 1 fun vs H Q=>∃(z:LK),vs=[.str z]/\Tx z/\∀H',av H H'->Q (.bl (eG z)) H'
noncomputable def wk(o:Option LK):LK:=if o=none then "" else if o=some "NoName" then "name" else if o=some "Twice" then "twice" else if o=some "NoVoter" then "voter" else if o=some "NoWork" then "work" else if o=some "TooMuch" then "much" else "full"
theorem Cy:wk none=""/\wk (some "NoName")="name"/\wk (some "Twice")="twice"/\wk (some "NoVoter")="voter"/\wk (some "NoWork")="work"/\wk (some "TooMuch")="much"/\wk (some "Full")="full":=by decide +kernel
noncomputable def lC(_:LO):Sp:=cM 4 fun vs H Q=>∃(lt lp lw ld:LL)(s:bo)(rows:List j3)(D:aW),vs=[.str D.word,.ref lt,.ref lp,.ref lw]/\H lt=some (.lst D.things)/\eV H lp lw ld s rows/\D.tx/\∀H',av H H'->Q (.str (wk (D.due s))) H'
theorem Ce{D:aW}{s:bo}{cl:LK}(h:D.due s=some cl):cl="NoName"\/cl="Twice"\/cl="NoVoter"\/cl="NoWork"\/cl="TooMuch"\/cl="Full":=by
 cases D<;>rw[aW.due]at h
 ·split at h
  ·cases h;simp
  ·split at h
   ·cases h;simp
   ·split at h<;>cases h
    simp
 ·split at h
  ·cases h;simp
  ·split at h
   ·cases h;simp
   ·split at h
    ·cases h;simp
    ·split at h<;>cases h
     simp
 ·split at h<;>cases h
  simp
 ·split at h<;>cases h
  simp
 ·split at h<;>cases h
  simp
 ·split at h
  ·split at h<;>cases h
   simp
  ·cases h;simp
 ·split at h
  ·split at h<;>cases h
   simp
  ·cases h;simp
noncomputable def iV(cl:LK):List Bool:=(["NoName","Twice","NoVoter","NoWork","TooMuch","Full"]:List LK).map (fun n=>decide (n=cl))++[false,false,true]
noncomputable def jh(K:LO):Sp:=cM 3 fun vs H Q=>∃(c lt:LL)(fp:List LL)(s:bo)(D:aW),vs=[.ref c,.str D.word,.ref lt]/\H lt=some (.lst D.things)/\aN K H c fp s/\D.tx/\s.ps.length<=20/\(∀p∈s.ws,aY p.1/\aY p.2)/\s.ws.length<=900/\
 (D.due s=none->∀H' fp',aN K H' c fp' (D.app s)->bx fp H H'->kS fp fp' H->Q .non H')/\∀cl,D.due s=some cl->∀l H',H l=none->av H H'->H' l=some (.lst ((iV cl).map V.bl))->Q (.ref l) H'
noncomputable def iX(K:LO):Sp:=cM 1 fun vs H Q=>∃(c:LL)(fp:List LL)(s:bo),vs=[.ref c]/\aN K H c fp s/\Q (.int s.giv) H
noncomputable def gj(K:LO):Sp:=cM 4 fun vs H Q=>∃(c lp lw ld:LL)(fp:List LL)(s:bo)(rows:List j3),vs=[.ref c,.ref lp,.ref lw,.ref ld]/\aN K H c fp s/\eV H lp lw ld s rows/\∀H',av H H'->Q (.bl true) H'
noncomputable def top(i:Nat):LX:=PySem.Challenge.pw_purse_k43_refused_in_order.main.body.getD i (.Pass ⟨0,0,0,0⟩)
noncomputable abbrev tZ:LX:=top 47
theorem qZ:aG ["script","k","cell"] ["script","k"] (ax tZ):=⟨rfl,rfl,rfl,by decide +kernel,rfl,by decide +kernel,by decide +kernel⟩
noncomputable abbrev jN:LX:=inClass (top 45) 0
theorem oZ:aG ["self"] ["self"] (ax jN):=⟨rfl,rfl,rfl,by decide +kernel,rfl,by decide +kernel,by decide +kernel⟩
noncomputable abbrev gN:LX:=inClass (top 45) 9
theorem lZ:aG ["self","voter"] ["self","voter"] (ax gN):=⟨rfl,rfl,rfl,by decide +kernel,rfl,by decide +kernel,by decide +kernel⟩
noncomputable abbrev iR:LX:=inClass (top 45) 10
theorem nj:aG ["self","work"] ["self","work"] (ax iR):=⟨rfl,rfl,rfl,by decide +kernel,rfl,by decide +kernel,by decide +kernel⟩
noncomputable abbrev mj:LX:=inClass (top 45) 18
theorem sm:aG ["self","voter","work"] ["self","voter","work"] (ax mj):=⟨rfl,rfl,rfl,by decide +kernel,rfl,by decide +kernel,by decide +kernel⟩
noncomputable abbrev wO:LX:=top 41
theorem BZ:aG ["name"] ["name"] (ax wO):=⟨rfl,rfl,rfl,by decide +kernel,rfl,by decide +kernel,by decide +kernel⟩
noncomputable abbrev jB:LX:=top 42
theorem oS:aG ["name","names"] ["name","names"] (ax jB):=⟨rfl,rfl,rfl,by decide +kernel,rfl,by decide +kernel,by decide +kernel⟩
noncomputable abbrev ny:LX:=top 44
theorem tV:aG ["names","most"] ["names","most"] (ax ny):=⟨rfl,rfl,rfl,by decide +kernel,rfl,by decide +kernel,by decide +kernel⟩
noncomputable abbrev nA:LX:=inClass (top 45) 11
theorem tj:aG ["self","name"] ["self","name"] (ax nA):=⟨rfl,rfl,rfl,by decide +kernel,rfl,by decide +kernel,by decide +kernel⟩
noncomputable abbrev nz:LX:=top 43
theorem uA:aG ["coins","least"] ["coins","least"] (ax nz):=⟨rfl,rfl,rfl,by decide +kernel,rfl,by decide +kernel,by decide +kernel⟩
noncomputable abbrev kX:LX:=inClass (top 45) 15
theorem qW:aG ["self","work","cost"] ["self","work","cost"] (ax kX):=⟨rfl,rfl,rfl,by decide +kernel,rfl,by decide +kernel,by decide +kernel⟩
noncomputable abbrev nX:LX:=inClass (top 45) 14
theorem uJ:aG ["self","part"] ["self","part"] (ax nX):=⟨rfl,rfl,rfl,by decide +kernel,rfl,by decide +kernel,by decide +kernel⟩
noncomputable abbrev pN:LX:=inClass (top 45) 13
theorem vp:aG ["self","coins"] ["self","coins"] (ax pN):=⟨rfl,rfl,rfl,by decide +kernel,rfl,by decide +kernel,by decide +kernel⟩
noncomputable abbrev nS:LX:=inClass (top 45) 12
theorem tK:aG ["self","name"] ["self","name"] (ax nS):=⟨rfl,rfl,rfl,by decide +kernel,rfl,by decide +kernel,by decide +kernel⟩
noncomputable abbrev jM:LX:=inClass (top 45) 16
theorem pT:aG ["self","work"] ["self","work"] (ax jM):=⟨rfl,rfl,rfl,by decide +kernel,rfl,by decide +kernel,by decide +kernel⟩
noncomputable abbrev pq:LX:=inClass (top 45) 17
theorem vU:aG ["self","voter","work"] ["self","voter","work"] (ax pq):=⟨rfl,rfl,rfl,by decide +kernel,rfl,by decide +kernel,by decide +kernel⟩
noncomputable abbrev rq:LX:=top 54
theorem yQ:aG ["chest","word","things"] ["chest","word","things"] (ax rq):=⟨rfl,rfl,rfl,by decide +kernel,rfl,by decide +kernel,by decide +kernel⟩
noncomputable abbrev rF:LX:=top 56
theorem dQ:aG ["word","things","people","works","coins","each","k","at","work","wanters"] ["word","things","people","works","coins"] (ax rF):=⟨rfl,rfl,rfl,by decide +kernel,rfl,by decide +kernel,by decide +kernel⟩
noncomputable abbrev mx:LX:=inClass (top 45) 1
theorem rZ:aG ["self"] ["self"] (ax mx):=⟨rfl,rfl,rfl,by decide +kernel,rfl,by decide +kernel,by decide +kernel⟩
noncomputable abbrev jO:LX:=top 6
theorem fB:aG ["step","number","multiple"] ["step","number"] (ax jO):=⟨rfl,rfl,rfl,by decide +kernel,rfl,by decide +kernel,by decide +kernel⟩
noncomputable abbrev uO:LX:=top 7
theorem ja:aG ["n","least","number"] ["n"] (ax uO):=⟨rfl,rfl,rfl,by decide +kernel,rfl,by decide +kernel,by decide +kernel⟩
noncomputable abbrev rh:LX:=top 8
theorem fh:aG ["voters","works","factor","grains","work"] ["voters","works"] (ax rh):=⟨rfl,rfl,rfl,by decide +kernel,rfl,by decide +kernel,by decide +kernel⟩
noncomputable abbrev xu:LX:=top 23
theorem BE:aG ["steps","voter"] ["steps","voter"] (ax xu):=⟨rfl,rfl,rfl,by decide +kernel,rfl,by decide +kernel,by decide +kernel⟩
noncomputable abbrev xk:LX:=top 24
theorem BB:aG ["purses","steps"] ["purses","steps"] (ax xk):=⟨rfl,rfl,rfl,by decide +kernel,rfl,by decide +kernel,by decide +kernel⟩
noncomputable abbrev rf:LX:=top 16
theorem oY:aG ["costs","wishes","grains"] ["costs","wishes"] (ax rf):=⟨rfl,rfl,rfl,by decide +kernel,rfl,by decide +kernel,by decide +kernel⟩
noncomputable abbrev pW:LX:=top 3
theorem wA:aG ["amount","shares"] ["amount","shares"] (ax pW):=⟨rfl,rfl,rfl,by decide +kernel,rfl,by decide +kernel,by decide +kernel⟩
noncomputable abbrev rH:LX:=top 4
theorem dR:aG ["purses","price","missing","payers","purse"] ["purses","price"] (ax rH):=⟨rfl,rfl,rfl,by decide +kernel,rfl,by decide +kernel,by decide +kernel⟩
noncomputable abbrev q5:LX:=top 12
theorem xQ:aG ["wanted","works"] ["wanted","works"] (ax q5):=⟨rfl,rfl,rfl,by decide +kernel,rfl,by decide +kernel,by decide +kernel⟩
noncomputable abbrev rJ:LX:=top 14
theorem xV:aG ["wishes","works"] ["wishes","works"] (ax rJ):=⟨rfl,rfl,rfl,by decide +kernel,rfl,by decide +kernel,by decide +kernel⟩
noncomputable abbrev pI:LX:=top 13
theorem wj:aG ["wishes","work"] ["wishes","work"] (ax pI):=⟨rfl,rfl,rfl,by decide +kernel,rfl,by decide +kernel,by decide +kernel⟩
noncomputable abbrev uX:LX:=top 17
theorem An:aG ["purses","wishes","work","price"] ["purses","wishes","work","price"] (ax uX):=⟨rfl,rfl,rfl,by decide +kernel,rfl,by decide +kernel,by decide +kernel⟩
noncomputable abbrev rA:LX:=top 18
theorem hG:aG ["purses","costs","wishes","done","offers","work","price"] ["purses","costs","wishes","done"] (ax rA):=⟨rfl,rfl,rfl,by decide +kernel,rfl,by decide +kernel,by decide +kernel⟩
noncomputable abbrev wR:LX:=top 19
theorem iP:aG ["offers","best","work","offer"] ["offers"] (ax wR):=⟨rfl,rfl,rfl,by decide +kernel,rfl,by decide +kernel,by decide +kernel⟩
noncomputable abbrev ur:LX:=top 22
theorem Az:aG ["steps"] ["steps"] (ax ur):=⟨rfl,rfl,rfl,by decide +kernel,rfl,by decide +kernel,by decide +kernel⟩
noncomputable abbrev wG:LX:=top 2
theorem BJ:aG ["purses","level"] ["purses","level"] (ax wG):=⟨rfl,rfl,rfl,by decide +kernel,rfl,by decide +kernel,by decide +kernel⟩
noncomputable abbrev nv:LX:=top 21
theorem mw:aG ["purses","wishes","work","level","wanters"] ["purses","wishes","work","level"] (ax nv):=⟨rfl,rfl,rfl,by decide +kernel,rfl,by decide +kernel,by decide +kernel⟩
noncomputable abbrev nU:LX:=top 25
theorem dM:aG ["purses","costs","wishes","steps","left","offers","work","level"] ["purses","costs","wishes","steps"] (ax nU):=⟨rfl,rfl,rfl,by decide +kernel,rfl,by decide +kernel,by decide +kernel⟩
noncomputable abbrev zi:LX:=top 26
theorem mP:aG ["purses","costs","wishes","steps","step"] ["purses","costs","wishes"] (ax zi):=⟨rfl,rfl,rfl,by decide +kernel,rfl,by decide +kernel,by decide +kernel⟩
noncomputable abbrev iE:LX:=inClass (top 45) 21
theorem m6:aG ["self","left","grains"] ["self","left","grains"] (ax iE):=⟨rfl,rfl,rfl,by decide +kernel,rfl,by decide +kernel,by decide +kernel⟩
noncomputable abbrev fO:LX:=inClass (top 45) 8
theorem kG:aG ["self","voter"] ["self","voter"] (ax fO):=⟨rfl,rfl,rfl,by decide +kernel,rfl,by decide +kernel,by decide +kernel⟩
noncomputable abbrev i9:LX:=inClass (top 45) 20
theorem eI:aG ["self","place","paid","name","rows"] ["self","place","paid"] (ax i9):=⟨rfl,rfl,rfl,by decide +kernel,rfl,by decide +kernel,by decide +kernel⟩
noncomputable abbrev nM:LX:=inClass (top 45) 19
theorem cc:aG ["self","grains","purses","wishes","steps","told","name","cost","rows"] ["self"] (ax nM):=⟨rfl,rfl,rfl,by decide +kernel,rfl,by decide +kernel,by decide +kernel⟩
noncomputable abbrev rK:LX:=inClass (top 45) 3
theorem yv:aG ["self"] ["self"] (ax rK):=⟨rfl,rfl,rfl,by decide +kernel,rfl,by decide +kernel,by decide +kernel⟩
noncomputable abbrev nO:LX:=inClass (top 45) 5
theorem sW:aG ["self"] ["self"] (ax nO):=⟨rfl,rfl,rfl,by decide +kernel,rfl,by decide +kernel,by decide +kernel⟩
noncomputable abbrev kM:LX:=inClass (top 45) 7
theorem qQ:aG ["self","work"] ["self","work"] (ax kM):=⟨rfl,rfl,rfl,by decide +kernel,rfl,by decide +kernel,by decide +kernel⟩
noncomputable abbrev nF:LX:=inClass (top 45) 2
theorem tJ:aG ["self"] ["self"] (ax nF):=⟨rfl,rfl,rfl,by decide +kernel,rfl,by decide +kernel,by decide +kernel⟩
noncomputable abbrev rm:LX:=top 57
theorem dZ:aG ["chest","people","works","coins","name","coffer","work","cost","names"] ["chest","people","works","coins"] (ax rm):=⟨rfl,rfl,rfl,by decide +kernel,rfl,by decide +kernel,by decide +kernel⟩
noncomputable abbrev pR:LX:=top 48
theorem gr:aG ["cell","many","spins","k","turn"] ["cell","many"] (ax pR):=⟨rfl,rfl,rfl,by decide +kernel,rfl,by decide +kernel,by decide +kernel⟩
noncomputable abbrev qY:LX:=top 49
theorem d5:aG ["cell","k","letters","xs","word","at"] ["cell","k"] (ax qY):=⟨rfl,rfl,rfl,by decide +kernel,rfl,by decide +kernel,by decide +kernel⟩
noncomputable abbrev rN:LX:=top 50
theorem fD:aG ["cell","x","known","name","at","signs","spoilt"] ["cell","x","known"] (ax rN):=⟨rfl,rfl,rfl,by decide +kernel,rfl,by decide +kernel,by decide +kernel⟩
noncomputable abbrev nI:LX:=top 51
theorem mq:aG ["x","least","edges"] ["x","least"] (ax nI):=⟨rfl,rfl,rfl,by decide +kernel,rfl,by decide +kernel,by decide +kernel⟩
noncomputable abbrev nZ:LX:=top 59
theorem fw:aG ["word","xs","cell","people","works","known","plans","voter"] ["word","xs","cell","people","works"] (ax nZ):=⟨rfl,rfl,rfl,by decide +kernel,rfl,by decide +kernel,by decide +kernel⟩
noncomputable abbrev ml:LX:=top 52
theorem sv:aG ["text"] ["text"] (ax ml):=⟨rfl,rfl,rfl,by decide +kernel,rfl,by decide +kernel,by decide +kernel⟩
noncomputable abbrev sZ:LX:=top 53
theorem rM:aG ["word","things","people","works","known"] ["word","things","people","works"] (ax sZ):=⟨rfl,rfl,rfl,by decide +kernel,rfl,by decide +kernel,by decide +kernel⟩
noncomputable abbrev oW:LX:=top 55
theorem cX:aG ["chest","word","things","caught","told","e","kinds"] ["chest","word","things"] (ax oW):=⟨rfl,rfl,rfl,by decide +kernel,rfl,by decide +kernel,by decide +kernel⟩
noncomputable abbrev nC:LX:=inClass (top 45) 4
theorem u6:aG ["self"] ["self"] (ax nC):=⟨rfl,rfl,rfl,by decide +kernel,rfl,by decide +kernel,by decide +kernel⟩
noncomputable abbrev o7:LX:=top 58
theorem jj:aG ["chest","people","works","coins","rows","work"] ["chest","people","works","coins"] (ax o7):=⟨rfl,rfl,rfl,by decide +kernel,rfl,by decide +kernel,by decide +kernel⟩
noncomputable abbrev zf:LX:=top 60
theorem cH:aG ["script","first","cell","chest","people","works","coins","many","rows","word","things","words","names","one","xs","due","found","kinds"] ["script"] (ax zf):=⟨rfl,rfl,rfl,by decide +kernel,rfl,by decide +kernel,by decide +kernel⟩
structure jb(K:LO):Prop where
 fq:(Nw K (ar K "NoName")).isSome=true
 d7:oE K (ar K "NoName")
 gR:(Nw K (ar K "Twice")).isSome=true
 fz:oE K (ar K "Twice")
 d4:(Nw K (ar K "NoVoter")).isSome=true
 dh:oE K (ar K "NoVoter")
 eX:(Nw K (ar K "NoWork")).isSome=true
 dS:oE K (ar K "NoWork")
 d0:(Nw K (ar K "TooMuch")).isSome=true
 dg:oE K (ar K "TooMuch")
 jZ:(Nw K (ar K "Full")).isSome=true
 hV:oE K (ar K "Full")
 mY:Oe K (.ref (ar K "NoName")) (.ref (ar K "PurseError"))=some true
 nu:Mh K (.ref (ar K "NoName")) (.type "ValueError")=some true
 rT:Mh K (.ref (ar K "NoName")) (.ref (ar K "NoName"))=some true
 uw:Mh K (.ref (ar K "NoName")) (.ref (ar K "Twice"))=some false
 qg:Mh K (.ref (ar K "NoName")) (.ref (ar K "NoVoter"))=some false
 sq:Mh K (.ref (ar K "NoName")) (.ref (ar K "NoWork"))=some false
 qM:Mh K (.ref (ar K "NoName")) (.ref (ar K "TooMuch"))=some false
 vJ:Mh K (.ref (ar K "NoName")) (.ref (ar K "Full"))=some false
 qk:Mh K (.ref (ar K "NoName")) (.ref (ar K "NoPaper"))=some false
 tL:Mh K (.ref (ar K "NoName")) (.ref (ar K "NoRow"))=some false
 oy:Oe K (.ref (ar K "Twice")) (.ref (ar K "PurseError"))=some true
 oJ:Mh K (.ref (ar K "Twice")) (.type "ValueError")=some true
 uG:Mh K (.ref (ar K "Twice")) (.ref (ar K "NoName"))=some false
 vS:Mh K (.ref (ar K "Twice")) (.ref (ar K "Twice"))=some true
 sj:Mh K (.ref (ar K "Twice")) (.ref (ar K "NoVoter"))=some false
 sU:Mh K (.ref (ar K "Twice")) (.ref (ar K "NoWork"))=some false
 rS:Mh K (.ref (ar K "Twice")) (.ref (ar K "TooMuch"))=some false
 xZ:Mh K (.ref (ar K "Twice")) (.ref (ar K "Full"))=some false
 sE:Mh K (.ref (ar K "Twice")) (.ref (ar K "NoPaper"))=some false
 vQ:Mh K (.ref (ar K "Twice")) (.ref (ar K "NoRow"))=some false
 me:Oe K (.ref (ar K "NoVoter")) (.ref (ar K "PurseError"))=some true
 lj:Mh K (.ref (ar K "NoVoter")) (.type "ValueError")=some true
 qD:Mh K (.ref (ar K "NoVoter")) (.ref (ar K "NoName"))=some false
 sh:Mh K (.ref (ar K "NoVoter")) (.ref (ar K "Twice"))=some false
 oO:Mh K (.ref (ar K "NoVoter")) (.ref (ar K "NoVoter"))=some true
 qE:Mh K (.ref (ar K "NoVoter")) (.ref (ar K "NoWork"))=some false
 oQ:Mh K (.ref (ar K "NoVoter")) (.ref (ar K "TooMuch"))=some false
 uP:Mh K (.ref (ar K "NoVoter")) (.ref (ar K "Full"))=some false
 o8:Mh K (.ref (ar K "NoVoter")) (.ref (ar K "NoPaper"))=some false
 sA:Mh K (.ref (ar K "NoVoter")) (.ref (ar K "NoRow"))=some false
 mX:Oe K (.ref (ar K "NoWork")) (.ref (ar K "PurseError"))=some true
 nh:Mh K (.ref (ar K "NoWork")) (.type "ValueError")=some true
 su:Mh K (.ref (ar K "NoWork")) (.ref (ar K "NoName"))=some false
 uF:Mh K (.ref (ar K "NoWork")) (.ref (ar K "Twice"))=some false
 qV:Mh K (.ref (ar K "NoWork")) (.ref (ar K "NoVoter"))=some false
 sy:Mh K (.ref (ar K "NoWork")) (.ref (ar K "NoWork"))=some true
 qJ:Mh K (.ref (ar K "NoWork")) (.ref (ar K "TooMuch"))=some false
 wy:Mh K (.ref (ar K "NoWork")) (.ref (ar K "Full"))=some false
 qO:Mh K (.ref (ar K "NoWork")) (.ref (ar K "NoPaper"))=some false
 uZ:Mh K (.ref (ar K "NoWork")) (.ref (ar K "NoRow"))=some false
 lP:Oe K (.ref (ar K "TooMuch")) (.ref (ar K "PurseError"))=some true
 lO:Mh K (.ref (ar K "TooMuch")) (.type "ValueError")=some true
 qi:Mh K (.ref (ar K "TooMuch")) (.ref (ar K "NoName"))=some false
 sk:Mh K (.ref (ar K "TooMuch")) (.ref (ar K "Twice"))=some false
 o6:Mh K (.ref (ar K "TooMuch")) (.ref (ar K "NoVoter"))=some false
 qv:Mh K (.ref (ar K "TooMuch")) (.ref (ar K "NoWork"))=some false
 pM:Mh K (.ref (ar K "TooMuch")) (.ref (ar K "TooMuch"))=some true
 ve:Mh K (.ref (ar K "TooMuch")) (.ref (ar K "Full"))=some false
 oM:Mh K (.ref (ar K "TooMuch")) (.ref (ar K "NoPaper"))=some false
 rQ:Mh K (.ref (ar K "TooMuch")) (.ref (ar K "NoRow"))=some false
 pJ:Oe K (.ref (ar K "Full")) (.ref (ar K "PurseError"))=some true
 pj:Mh K (.ref (ar K "Full")) (.type "ValueError")=some true
 vK:Mh K (.ref (ar K "Full")) (.ref (ar K "NoName"))=some false
 xE:Mh K (.ref (ar K "Full")) (.ref (ar K "Twice"))=some false
 vc:Mh K (.ref (ar K "Full")) (.ref (ar K "NoVoter"))=some false
 vV:Mh K (.ref (ar K "Full")) (.ref (ar K "NoWork"))=some false
 vg:Mh K (.ref (ar K "Full")) (.ref (ar K "TooMuch"))=some false
 AG:Mh K (.ref (ar K "Full")) (.ref (ar K "Full"))=some true
 uL:Mh K (.ref (ar K "Full")) (.ref (ar K "NoPaper"))=some false
 yw:Mh K (.ref (ar K "Full")) (.ref (ar K "NoRow"))=some false
 aL:L2.jb K (ar K "Chest")
 aR:c7 K (ar K "Chest") "purses"
 bK:c7 K (ar K "Chest") "costs"
 bP:c7 K (ar K "Chest") "wishes"
 cn:c7 K (ar K "Chest") "unshared"
 jw:c7 K (ar K "Chest") "gifts"
 iy:c7 K (ar K "Chest") "outlay"
noncomputable def lh(K:LO):TS:=
 (aF (k7 (cp K (zB (Bh K) (ae 0) (ff (ae 1)) (ff (aH gy (ae 1) (tC (.int 1)))))) (au 2) (bE (ae 2)))
  (bE (tC (.int 0))))
noncomputable def fe(K:LO):TS:=
 (aF (qG K (ae 0) yb "purses")
  (aF (qG K (ae 0) yb "costs")
  (aF (qG K (ae 0) (cW ay) "wishes")
  (aF (qG K (ae 0) (tC (.int 0)) "unshared")
  (aF (qG K (ae 0) (tC (.int 0)) "gifts")
  (qG K (ae 0) (tC (.int 0)) "outlay"))))))
noncomputable def dP(K:LO)(E:XK):TS:=
 (bU (tB (sM (ae 1) (cZ K (ae 0) "purses"))) (km (ar K "NoVoter") E (af (Gb [(tC (.str "no voter: ")),(CU (ae 1))] ML) ay)) bH)
noncomputable def ef(K:LO)(E:XK):TS:=
 (bU (tB (sM (ae 1) (cZ K (ae 0) "costs"))) (km (ar K "NoWork") E (af (Gb [(tC (.str "no work: ")),(CU (ae 1))] ML) ay)) bH)
noncomputable def gC(K:LO)(E:XK):TS:=
 (aF (bV (b9 (ar K "Chest") "check_voter" (cx K) [] E (ae 0) (af (ae 1) ay)))
  (aF (bV (b9 (ar K "Chest") "check_work" (cz K) [] E (ae 0) (af (ae 2) ay)))
  (qG K (ae 0) (bL [none,some 1,some 2] (cp K (cZ K (ae 0) "wishes")) (au 0) (aV (aH (oB K true) (ae 0) (gY (af (ae 1) (af (ae 2) ay))))) (ae 0)) "wishes")))
noncomputable def oG(K:LO):TS:=
 (bE (FH (BI oLe oLe (tC (.int 1)) (gs nD (af (ae 0) ay)) (tC (.int 8))) (gs (Ht K) (af (bL [none] (CI (ae 0)) (au 0) cY (aH Gn (ae 0) (tC (.str "abcdefghijklmnopqrstuvwxyz")))) ay))))
noncomputable def fE(K:LO)(E:XK):TS:=
 (aF (bU (zo (tB (a9 (oh K) [] E0 (af (ae 0) ay)))) (km (ar K "NoName") E (af (Gb [(tC (.str "no name: ")),(CU (ae 0))] ML) ay)) bH)
  (bU (tB (Js (ae 0) (ae 1))) (km (ar K "Twice") E (af (Gb [(tC (.str "there already: ")),(Hx (ae 0))] ML) ay)) bH))
noncomputable def iG(K:LO)(E:XK):TS:=
 (bU (aV (aH KZ (gs uc (af (ae 0) ay)) (ae 1))) (km (ar K "Full") E (af (Gb [(tC (.str "there are ")),(D7 (ae 1)),(tC (.str " already"))] ML) ay)) bH)
noncomputable def iB(K:LO)(E:XK):TS:=
 (aF (bV (a9 (dF K) [] E (af (ae 1) (af (cZ K (ae 0) "purses") ay))))
  (aF (bV (a9 (fg K) [] E (af (cZ K (ae 0) "purses") (af (tC (.int 20)) ay))))
  (nW (cZ K (ae 0) "purses") (ae 1) (tC (.int 0)))))
noncomputable def ic(K:LO)(E:XK):TS:=
 (bU (Gc (aV (aH oLt (ae 0) (ae 1))) (aV (aH HH (ae 0) (tC (.int 1000000000))))) (km (ar K "TooMuch") E (af (Gb [(tC (.str "not from ")),(D7 (ae 1)),(tC (.str " to ")),(D7 (tC (.int 1000000000))),(tC (.str " coins"))] ML) ay)) bH)
noncomputable def fS(K:LO)(E:XK):TS:=
 (aF (bV (a9 (dF K) [] E (af (ae 1) (af (cZ K (ae 0) "costs") ay))))
  (aF (bV (a9 (fH K) [] E (af (ae 2) (af (tC (.int 1)) ay))))
  (aF (bV (a9 (fg K) [] E (af (cZ K (ae 0) "costs") (af (tC (.int 12)) ay))))
  (nW (cZ K (ae 0) "costs") (ae 1) (ae 2)))))
noncomputable def ir(K:LO):TS:=
 (aF (i0 K (ae 0) (aH lz (ae 1) (gs uc (af (cZ K (ae 0) "purses") ay))) KY "unshared")
  (qG K (ae 0) (gs (EM K) (af (gM (bL [none,none,some 1] (sX (cZ K (ae 0) "purses")) (fK K 2 (bq (au 0) (bq (au 1) fN))) cY (gY (af (ae 0) (af (aH gy (ae 1) (ae 2)) ay))))) ay)) "purses"))
noncomputable def jm(K:LO)(E:XK):TS:=
 (aF (bV (a9 (fH K) [] E (af (ae 1) (af (tC (.int 0)) ay))))
  (aF (i0 K (ae 0) (ae 1) CZ "gifts")
  (aF (i0 K (ae 0) (ae 1) CZ "unshared")
  (bU (Ku (cZ K (ae 0) "purses")) (bV (b9 (ar K "Chest") "share" (ix K) [] E0 (ae 0) (af (aH oDiv (cZ K (ae 0) "unshared") (gs uc (af (cZ K (ae 0) "purses") ay))) ay))) bH))))
noncomputable def iu(K:LO)(E:XK):TS:=
 (aF (bV (b9 (ar K "Chest") "check_voter" (cx K) [] E (ae 0) (af (ae 1) ay)))
  (aF (i0 K (ae 0) (yU (cZ K (ae 0) "purses") (ae 1)) CZ "unshared")
  (qG K (ae 0) (bL [none,none,some 1] (cp K (cZ K (ae 0) "wishes")) (fK K 2 (bq (au 0) (bq (au 1) fN))) (aV (aH FN (ae 0) (ae 2))) (gY (af (ae 0) (af (ae 1) ay)))) "wishes")))
noncomputable def fC(K:LO)(E:XK):TS:=
 (aF (bV (b9 (ar K "Chest") "check_work" (cz K) [] E (ae 0) (af (ae 1) ay)))
  (aF (bV (yU (cZ K (ae 0) "costs") (ae 1)))
  (qG K (ae 0) (bL [none,none,some 1] (cp K (cZ K (ae 0) "wishes")) (fK K 2 (bq (au 0) (bq (au 1) fN))) (aV (aH FN (ae 1) (ae 2))) (gY (af (ae 0) (af (ae 1) ay)))) "wishes")))
noncomputable def ji(K:LO)(E:XK):TS:=
 (aF (bV (b9 (ar K "Chest") "check_voter" (cx K) [] E (ae 0) (af (ae 1) ay)))
  (aF (bV (b9 (ar K "Chest") "check_work" (cz K) [] E (ae 0) (af (ae 2) ay)))
  (bU (aV (aH (Ej K true) (gY (af (ae 1) (af (ae 2) ay))) (cZ K (ae 0) "wishes"))) (bV (yW K "list" fZ (cZ K (ae 0) "wishes") (af (gY (af (ae 1) (af (ae 2) ay))) ay))) bH)))
noncomputable def kj(K:LO)(E:XK):TS:=
 (aF (bU (aV (aH i4 (ae 1) (tC (.str "enrol")))) (bE (b9 (ar K "Chest") "enrol" (ik K) [] E (ae 0) (af (aH (bO K) (ae 2) (tC (.int 0))) ay))) bH)
  (aF (bU (aV (aH i4 (ae 1) (tC (.str "propose")))) (bE (b9 (ar K "Chest") "propose" (fP K) [] E (ae 0) (af (aH (bO K) (ae 2) (tC (.int 0))) (af (aH (bO K) (ae 2) (tC (.int 1))) ay)))) bH)
  (aF (bU (aV (aH i4 (ae 1) (tC (.str "give")))) (bE (b9 (ar K "Chest") "give" (jk K) [] E (ae 0) (af (aH (bO K) (ae 2) (tC (.int 0))) ay))) bH)
  (aF (bU (aV (aH i4 (ae 1) (tC (.str "leave")))) (bE (b9 (ar K "Chest") "leave" (ip K) [] E (ae 0) (af (aH (bO K) (ae 2) (tC (.int 0))) ay))) bH)
  (aF (bU (aV (aH i4 (ae 1) (tC (.str "withdraw")))) (bE (b9 (ar K "Chest") "withdraw" (dD K) [] E (ae 0) (af (aH (bO K) (ae 2) (tC (.int 0))) ay))) bH)
  (aF (bU (aV (aH i4 (ae 1) (tC (.str "want")))) (bE (b9 (ar K "Chest") "want" (gm K) [] E (ae 0) (af (aH (bO K) (ae 2) (tC (.int 0))) (af (aH (bO K) (ae 2) (tC (.int 1))) ay)))) bH)
  (bE (b9 (ar K "Chest") "unwant" (gI K) [] E (ae 0) (af (aH (bO K) (ae 2) (tC (.int 0))) (af (aH (bO K) (ae 2) (tC (.int 1))) ay))))))))))
noncomputable def kC(K:LO):TS:=
 (bU (aV (aH i4 (ae 0) (tC (.str "enrol")))) (bV (yW K "list" fZ (ae 2) (af (gY (af (aH (bO K) (ae 1) (tC (.int 0))) (af (tC (.int 0)) ay))) ay))) (bU (aV (aH i4 (ae 0) (tC (.str "propose")))) (bV (yW K "list" fZ (ae 3) (af (gY (af (aH (bO K) (ae 1) (tC (.int 0))) (af (aH (bO K) (ae 1) (tC (.int 1))) (af (cW ay) ay)))) ay))) (bU (aV (aH i4 (ae 0) (tC (.str "give")))) (aF (nW (ae 4) (tC (.str "given")) (aH gy (mo (ae 4) (tC (.str "given"))) (aH (bO K) (ae 1) (tC (.int 0)))))
  (aF (nW (ae 4) (tC (.str "pot")) (aH gy (mo (ae 4) (tC (.str "pot"))) (aH (bO K) (ae 1) (tC (.int 0)))))
  (aF (bC (aH oDiv (mo (ae 4) (tC (.str "pot"))) (gs Kl (af (tC (.int 1)) (af (gs (mC K) (af (ae 2) ay)) ay)))) (au 5))
  (aF (k7 (uW (af (gs (mC K) (af (ae 2) ay)) ay)) (au 6) (bC (gY (af (aH (iY K) (aH (bO K) (ae 2) (ae 6)) (tC (.int 0))) (af (aH gy (aH (iY K) (aH (bO K) (ae 2) (ae 6)) (tC (.int 1))) (ae 5)) ay))) (JH (ae 2) (ae 6) FC)))
  (nW (ae 4) (tC (.str "pot")) (aH qm (mo (ae 4) (tC (.str "pot"))) (aH lz (ae 5) (gs (mC K) (af (ae 2) ay))))))))) (bU (aV (aH i4 (ae 0) (tC (.str "leave")))) (aF (bC (yW K "list" xG (bL [none] (cp K (ae 2)) (au 0) cY (aH (iY K) (ae 0) (tC (.int 0)))) (af (aH (bO K) (ae 1) (tC (.int 0))) ay)) (au 7))
  (aF (nW (ae 4) (tC (.str "pot")) (aH gy (mo (ae 4) (tC (.str "pot"))) (aH (iY K) (yW K "list" BL (ae 2) (af (ae 7) ay)) (tC (.int 1)))))
  (k7 (cp K (ae 3)) (au 8) (bU (aV (aH (AS K false) (aH (bO K) (ae 1) (tC (.int 0))) (aH (iY K) (ae 8) (tC (.int 2))))) (bV (yW K "list" (yK K) (aH (iY K) (ae 8) (tC (.int 2))) (af (aH (bO K) (ae 1) (tC (.int 0))) ay))) bH)))) (bU (aV (aH i4 (ae 0) (tC (.str "withdraw")))) (bV (yW K "list" BL (ae 3) (af (yW K "list" xG (bL [none] (cp K (ae 3)) (au 0) cY (aH (iY K) (ae 0) (tC (.int 0)))) (af (aH (bO K) (ae 1) (tC (.int 0))) ay)) ay))) (aF (bC (aH (bO K) (bL [none,some 1] (cp K (ae 3)) (au 0) (aV (aH i4 (aH (iY K) (ae 0) (tC (.int 0))) (aH (bO K) (ae 1) (tC (.int 1))))) (aH (iY K) (ae 0) (tC (.int 2)))) (tC (.int 0))) (au 9))
  (aF (bU (qy (aV (aH i4 (ae 0) (tC (.str "want")))) (aV (aH (AS K true) (aH (bO K) (ae 1) (tC (.int 0))) (ae 9)))) (bV (yW K "list" fZ (ae 9) (af (aH (bO K) (ae 1) (tC (.int 0))) ay))) bH)
  (bU (qy (aV (aH i4 (ae 0) (tC (.str "unwant")))) (aV (aH (AS K false) (aH (bO K) (ae 1) (tC (.int 0))) (ae 9)))) (bV (yW K "list" (yK K) (ae 9) (af (aH (bO K) (ae 1) (tC (.int 0))) ay))) bH))))))))
noncomputable def gB(K:LO):TS:=
 (bE (gs Fe (af (C5 K "dict" BF (cZ K (ae 0) "purses")) ay)))
noncomputable def eY(K:LO):TS:=
 (aF (bC (ae 0) (au 2))
  (aF (Bs (aV (aH FN (aH oMod (ae 2) (ae 1)) (tC (.int 0)))) (BA 2 (ae 0) gy))
  (bE (ae 2))))
noncomputable def lX(K:LO):TS:=
 (aF (bC (tC (.int 1)) (au 1))
  (aF (k7 (F6 (af (tC (.int 1)) (af (aH gy (ae 0) (tC (.int 1))) ay))) (au 2) (bC (a9 (fm K) [] E0 (af (ae 1) (af (ae 2) ay))) (au 1)))
  (bE (ae 1))))
noncomputable def j1(K:LO):TS:=
 (aF (bC (a9 (lA K) [] E0 (af (ae 0) ay)) (au 2))
  (aF (bC (ae 2) (au 3))
  (aF (k7 (uW (af (ae 1) ay)) (au 4) (BA 3 (ae 2) lz))
  (bE (ae 3)))))
noncomputable def oK(K:LO):TS:=
 (bE (gs (DJ K) (af (bL [none,none,none,some 1] (cp K (ae 0)) (fK K 3 (bq (au 0) (bq (au 1) (bq (au 2) fN)))) cY (aH (bO K) (ae 2) (ae 3))) ay)))
noncomputable def om(K:LO):TS:=
 (bE (bL [none,none,some 1] (uu K (ae 0)) (fK K 2 (bq (au 0) (bq (au 1) fN))) cY (aH qm (ae 1) (a9 (oC K) [] E0 (af (ae 2) (af (ae 0) ay))))))
noncomputable def kD(K:LO):TS:=
 (aF (bC (a9 (gU K) [] E0 (af (gs (mC K) (af (ae 1) ay)) (af (gs (mC K) (af (ae 0) ay)) ay))) (au 2))
  (bE (bL [none,some 2] (cp K (ae 0)) (au 0) cY (aH lz (ae 0) (ae 1)))))
noncomputable def jl(K:LO):TS:=
 (bE (aH oDiv (aH qm (aH gy (ae 0) (ae 1)) (tC (.int 1))) (ae 1)))
noncomputable def kE(K:LO):TS:=
 (aF (bU (aV (aH oLt (gs (DJ K) (af (ae 0) ay)) (ae 1))) (bE (tC .non)) bH)
  (aF (bC (ae 1) (au 2))
  (aF (bC (gs (mC K) (af (ae 0) ay)) (au 3))
  (aF (k7 (cp K (gs (CF K) (af (ae 0) ay))) (au 4) (aF (bU (aV (aH KZ (aH lz (ae 4) (ae 3)) (ae 2))) (bE (a9 (jq K) [] E0 (af (ae 2) (af (ae 3) ay)))) bH)
  (aF (BA 2 (ae 4) qm)
  (BA 3 (tC (.int 1)) qm))))
  (bE (tC (.int 0)))))))
noncomputable def kB(K:LO):TS:=
 (bE (gs (Ht K) (af (bL [none,some 0] (cp K (ae 1)) (au 0) cY (aH (AS K false) (ae 0) (ae 1))) ay)))
noncomputable def kf(K:LO):TS:=
 (bE (bL [none,none,some 1] (uu K (ae 0)) (fK K 2 (bq (au 0) (bq (au 1) fN))) (tB (a9 (kq K) [] E0 (af (ae 1) (af (ae 2) ay)))) (ae 0)))
noncomputable def jg(K:LO):TS:=
 (bE (a9 (kx K) [] E0 (af (ae 0) (af (cW (af (ae 1) ay)) ay))))
noncomputable def mr(K:LO):TS:=
 (bE (a9 (ky K) [] E0 (af (bL [none,some 0] (cp K (a9 (gq K) [] E0 (af (ae 1) (af (ae 2) ay)))) (au 0) cY (aH (bO K) (ae 1) (ae 0))) (af (ae 3) ay))))
noncomputable def kJ(K:LO):TS:=
 (aF (bC (cW ay) (au 4))
  (aF (k7 (uu K (a9 (jY K) [] E0 (af (ae 1) (af (ae 2) ay)))) (fK K 2 (bq (au 5) (bq (au 6) fN))) (bV (yW K "list" fZ (ae 4) (af (K7 (aV (aH (AS K false) (ae 5) (ae 3))) (tC .non) (a9 (mz K) [] E0 (af (ae 0) (af (ae 2) (af (ae 5) (af (ae 6) ay)))))) ay))))
  (bE (ae 4))))
noncomputable def oA(K:LO):TS:=
 (aF (bC (tC .non) (au 1))
  (aF (k7 (uu K (ae 0)) (fK K 2 (bq (au 2) (bq (au 3) fN))) (bU (qy (aV (aH zX (ae 3) (tC .non))) (Gc (aV (aH G3 (ae 1) (tC .non))) (aV (aH oLt (ae 3) (aH (bO K) (ae 0) (ae 1)))))) (bC (ae 2) (au 1)) bH))
  (bE (ae 1))))
noncomputable def ly(K:LO):TS:=
 (bE (gs (CF K) (af (bL [none,none,none] (cp K (ae 0)) (fK K 3 (bq (au 0) (bq (au 1) (bq (au 2) fN)))) cY (ae 0)) ay)))
noncomputable def oz(K:LO):TS:=
 (bE (bL [none,some 1] (cp K (ae 0)) (au 0) cY (gs Km (af (ae 0) (af (ae 1) ay)))))
noncomputable def iN(K:LO):TS:=
 (aF (bC (a9 (gq K) [] E0 (af (ae 1) (af (ae 2) ay))) (au 4))
  (bE (bL [none,none,some 4] (uu K (a9 (n9 K) [] E0 (af (ae 0) (af (ae 3) ay)))) (fK K 2 (bq (au 0) (bq (au 1) fN))) cY (K7 (aV (aH (AS K false) (ae 0) (ae 2))) (ae 1) (tC (.int 0))))))
noncomputable def iK(K:LO):TS:=
 (aF (bC (a9 (jS K) [] E0 (af (ae 0) (af (ae 3) ay))) (au 4))
  (aF (bC (a9 (ka K) [] E0 (af (ae 4) (af (ae 1) (af (ae 2) (af (a9 (lR K) [] E0 (af (ae 3) ay)) ay))))) (au 5))
  (aF (bC (a9 (og K) [] E0 (af (ae 5) ay)) (au 6))
  (aF (bU (aV (aH G3 (ae 6) (tC .non))) (bE (tC .non)) bH)
  (aF (bC (aH (bO K) (ae 5) (ae 6)) (au 7))
  (bE (gY (af (ae 6) (af (ae 7) (af (a9 (il K) [] E0 (af (ae 4) (af (ae 2) (af (ae 6) (af (ae 7) ay))))) ay))))))))))
noncomputable def qH(K:LO):TS:=
 (aF (bC (cW ay) (au 3))
  (aF (bC (a9 (dG K) [] E0 (af (ae 0) (af (ae 1) (af (ae 2) (af (ae 3) ay))))) (au 4))
  (aF (Bs (aV (aH zX (ae 4) (tC .non))) (aF (bV (yW K "list" fZ (ae 3) (af (ae 4) ay)))
  (bC (a9 (dG K) [] E0 (af (ae 0) (af (ae 1) (af (ae 2) (af (ae 3) ay))))) (au 4))))
  (bE (ae 3)))))
noncomputable def d9(K:LO):TS:=
 (aF (i0 K (ae 0) (aH oDiv (gs (DJ K) (af (bL [none,some 2] (cp K (ae 1)) (au 0) cY (aH oMod (ae 0) (ae 1))) ay)) (ae 2)) CZ "unshared")
  (qG K (ae 0) (BK K (af (cZ K (ae 0) "purses") (af (bL [none,some 2] (cp K (ae 1)) (au 0) cY (aH oDiv (ae 0) (ae 1))) ay))) "purses"))
noncomputable def dj(K:LO):TS:=
 (bE (gM (bL [none,none,some 1,some 0] (B5 (cZ K (ae 0) "costs")) (fK K 2 (bq (au 0) (bq (au 1) fN))) (aV (aH (Ej K false) (gY (af (ae 2) (af (ae 1) ay))) (cZ K (ae 3) "wishes"))) (ae 0))))
noncomputable def eM(K:LO):TS:=
 (aF (bC (aH (bO K) (gs Fz (af (cZ K (ae 0) "costs") ay)) (ae 1)) (au 3))
  (aF (bC (gM (bL [none,none] (ER K (af (cZ K (ae 0) "purses") (af (ae 2) ay))) (fK K 2 (bq (au 0) (bq (au 1) fN))) (aV (aH HH (ae 1) (tC (.int 0)))) (gY (af (ae 0) (af (ae 1) ay))))) (au 4))
  (bE (gY (af (ae 3) (af (mo (cZ K (ae 0) "costs") (ae 3)) (af (ae 4) ay)))))))
noncomputable def iA(K:LO):TS:=
 (aF (bU (Gc (zo (Ku (cZ K (ae 0) "purses"))) (zo (Ku (cZ K (ae 0) "costs")))) (bE (gY (af (cW ay) (af (tC (.int 1)) ay)))) bH)
  (aF (bC (a9 (gU K) [] E0 (af (gs uc (af (cZ K (ae 0) "purses") ay)) (af (gs uc (af (cZ K (ae 0) "costs") ay)) ay))) (au 1))
  (aF (bC (gM (bL [none,some 1] (FJ (cZ K (ae 0) "purses")) (au 0) cY (aH lz (ae 0) (ae 1)))) (au 2))
  (aF (bC (gM (bL [none,some 0] (Ay (cZ K (ae 0) "purses")) (au 0) cY (b9 (ar K "Chest") "wanted_places" (di K) [] E0 (ae 1) (af (ae 0) ay)))) (au 3))
  (aF (bC (a9 (qP K) [] E0 (af (ae 2) (af (gs zH (af (C5 K "dict" FE (cZ K (ae 0) "costs")) ay)) (af (ae 3) ay)))) (au 4))
  (aF (bC (bL [none,none,none,some 0] (cp K (ae 4)) (fK K 3 (bq (au 0) (bq (au 1) (bq (au 2) fN)))) cY (b9 (ar K "Chest") "told_step" (eJ K) [] E0 (ae 3) (af (ae 0) (af (ae 2) ay)))) (au 5))
  (aF (bV (b9 (ar K "Chest") "keep_coins" (ee K) [] E0 (ae 0) (af (a9 (jS K) [] E0 (af (ae 2) (af (ae 4) ay))) (af (ae 1) ay))))
  (aF (k7 (cp K (ae 5)) (fK K 3 (bq (au 6) (bq (au 7) (bq (au 8) fN)))) (aF (i0 K (ae 0) (ae 7) CZ "outlay")
  (bV (b9 (ar K "Chest") "withdraw" (dD K) [] E0 (ae 0) (af (ae 6) ay)))))
  (bE (gY (af (ae 5) (af (ae 1) ay))))))))))))
noncomputable def kF(K:LO):TS:=
 (bE (cZ K (ae 0) "unshared"))
noncomputable def iq(K:LO):TS:=
 (bE (cZ K (ae 0) "outlay"))
noncomputable def fX(K:LO):TS:=
 (bE (gM (bL [none,some 1,some 0] (Ay (cZ K (ae 0) "purses")) (au 0) (aV (aH (Ej K false) (gY (af (ae 0) (af (ae 1) ay))) (cZ K (ae 2) "wishes"))) (ae 0))))
noncomputable def iD(K:LO):TS:=
 (bE (gM (bL [none,none,some 0] (sX (cZ K (ae 0) "costs")) (fK K 2 (bq (au 0) (bq (au 1) fN))) cY (gY (af (ae 0) (af (ae 1) (af (b9 (ar K "Chest") "wanters" (fY K) [] E0 (ae 2) (af (ae 0) ay)) ay)))))))
noncomputable def ki(K:LO):TS:=
 (aF (k7 (cp K (b9 (ar K "Chest") "voters" (dz K) [] E0 (ae 0) ay)) (fK K 2 (bq (au 4) (bq (au 5) fN))) (k7 (cp K (zB (Bh K) (b9 (ar K "Chest") "works" (dO K) [] E0 (ae 0) ay) dm (ff (tC (.int 3))))) (fK K 3 (bq (au 6) (bq (au 7) (bq (au 8) fN)))) (bV (b9 (ar K "Chest") "want" (gm K) [] E0 (ae 0) (af (ae 4) (af (ae 6) ay))))))
  (aF (bV (b9 (ar K "Chest") "close" (iF K) [] E0 (ae 0) ay))
  (aF (bV (C5 K "list" A5 (ae 1)))
  (aF (bV (yW K "list" yy (ae 1) (af (b9 (ar K "Chest") "voters" (dz K) [] E0 (ae 0) ay) ay)))
  (aF (bV (C5 K "list" A5 (ae 2)))
  (aF (bV (yW K "list" yy (ae 2) (af (bL [none,none,none] (cp K (b9 (ar K "Chest") "works" (dO K) [] E0 (ae 0) ay)) (fK K 3 (bq (au 0) (bq (au 1) (bq (au 2) fN)))) cY (gY (af (ae 0) (af (ae 1) (af (gs (sJ K) (af (ae 2) ay)) ay))))) ay)))
  (aF (nW (ae 3) (tC (.str "pot")) (b9 (ar K "Chest") "pot" (gT K) [] E0 (ae 0) ay))
  (nW (ae 3) (tC (.str "spent")) (b9 (ar K "Chest") "spent" (fJ K) [] E0 (ae 0) ay)))))))))
noncomputable def ju(K:LO):TS:=
 (aF (bC (cW ay) (au 2))
  (aF (k7 (uW (af (ae 1) ay)) (au 3) (aF (bC (aH gy (aH gy (aH oMod (ae 0) (tC (.int 900900929))) (aH lz (tC (.int 2503)) (ae 3))) (tC (.int 77))) (au 4))
  (bV (yW K "list" fZ (ae 2) (af (aH oMod (aH oDiv (aH lz (aH lz (ae 4) (ae 4)) (aH gy (ae 4) (aH lz (tC (.int 31)) (ae 3)))) (tC (.int 13))) (tC (.int 700700003))) ay)))))
  (bE (ae 2))))
noncomputable def jV(K:LO):TS:=
 (aF (bC (tC (.str "abcdefghijklmnopqrstuvwxyz")) (au 2))
  (aF (bC (a9 (gk K) [] E0 (af (ae 0) (af (tC (.int 9)) ay))) (au 3))
  (aF (bC (yW K "str" (rJoin K) (tC (.str "")) (af (bL [none,some 2] (cp K (zB (Bh K) (ae 3) dm (ff (tC (.int 7))))) (au 0) cY (aH Al (ae 1) (aH oMod (ae 0) (tC (.int 26))))) ay)) (au 4))
  (aF (bU (aV (aH i4 (aH oMod (aH (bO K) (ae 3) (tC (.int 8))) (tC (.int 4))) (tC (.int 0)))) (bE (aH gz (aH Al (ae 2) (aH oMod (aH gy (aH (bO K) (ae 3) (tC (.int 7))) (aH oDiv (ae 1) (tC (.int 8)))) (tC (.int 26)))) (zB pU (ae 4) dm (ff (aH oMod (ae 1) (tC (.int 8))))))) bH)
  (aF (bU (aV (aH i4 (aH oMod (aH (bO K) (ae 3) (tC (.int 8))) (tC (.int 4))) (tC (.int 1)))) (bE (aH gz (zB pU (ae 4) (ff (aH qm (tC (.int 7)) (aH oMod (ae 1) (tC (.int 8))))) dm) (aH Al (ae 2) (aH oMod (aH gy (aH (bO K) (ae 3) (tC (.int 7))) (aH oDiv (ae 1) (tC (.int 8)))) (tC (.int 26)))))) bH)
  (aF (bC (zB pU (ae 4) dm (ff (aH oMod (aH oDiv (aH (bO K) (ae 3) (tC (.int 8))) (tC (.int 4))) (tC (.int 8))))) (au 4))
  (aF (bC (aH oMod (aH oDiv (aH (bO K) (ae 3) (tC (.int 8))) (tC (.int 32))) (aH gy (gs nD (af (ae 4) ay)) (tC (.int 1)))) (au 5))
  (bE (aH gz (aH gz (zB pU (ae 4) dm (ff (ae 5))) (aH Al (ae 2) (aH oMod (aH gy (aH (bO K) (ae 3) (tC (.int 7))) (ae 1)) (tC (.int 26))))) (zB pU (ae 4) (ff (ae 5)) dm))))))))))
noncomputable def kr(K:LO):TS:=
 (aF (bU (qy (aV (aH i4 (aH oMod (ae 1) (tC (.int 4))) (tC (.int 0)))) (aV (aH (oB K true) (ae 2) (cW ay)))) (bE (aH (bO K) (ae 2) (aH oMod (aH oDiv (ae 1) (tC (.int 4))) (gs (mC K) (af (ae 2) ay))))) bH)
  (aF (bU (aV (aH oLt (aH oMod (ae 1) (tC (.int 4))) (tC (.int 3)))) (bE (a9 (cU K) [] E0 (af (ae 0) (af (aH oMod (aH oDiv (ae 1) (tC (.int 4))) (tC (.int 26))) ay)))) bH)
  (aF (bC (a9 (cU K) [] E0 (af (ae 0) (af (aH oMod (aH oDiv (ae 1) (tC (.int 4))) (tC (.int 26))) ay))) (au 3))
  (aF (bC (aH oMod (aH oDiv (ae 1) (tC (.int 104))) (gs nD (af (ae 3) ay))) (au 4))
  (aF (bC (tC (.str "AZ09-_ .\t\n\"\\!#$&'()*+,/:;<=>?@\x5b]^`{|}~")) (au 5))
  (aF (bC (aH gz (aH gz (zB pU (ae 3) dm (ff (ae 4))) (aH Al (ae 5) (aH oMod (aH oDiv (ae 1) (tC (.int 1040))) (gs nD (af (ae 5) ay))))) (zB pU (ae 3) (ff (aH gy (ae 4) (tC (.int 1)))) dm)) (au 6))
  (bE (aH (bO K) (cW (af (tC (.str "")) (af (ae 6) (af (zB pU (aH gz (ae 3) (tC (.str "abcdefgh"))) dm (ff (tC (.int 9)))) (af (aH gz (ae 3) (tC (.str "\n"))) (af (aH gz (tC (.str " ")) (ae 3)) ay)))))) (aH oMod (aH oDiv (ae 1) (tC (.int 7))) (tC (.int 5)))))))))))
noncomputable def iJ(K:LO):TS:=
 (aF (bU (aV (aH i4 (aH oMod (ae 0) (tC (.int 3))) (tC (.int 0)))) (aF (bC (cW (af (aH qm (ae 1) (tC (.int 1))) (af (aH gy (aH vH (tC (.int 10)) (tC (.int 9))) (tC (.int 1))) (af (aH qm (tC (.int 0)) (ae 0)) (af (aH gy (aH gy (aH vH (tC (.int 10)) (tC (.int 9))) (tC (.int 2))) (ae 0)) ay))))) (au 2))
  (bE (aH (bO K) (aH vw (ae 2) (cW (af (ae 1) (af (aH vH (tC (.int 10)) (tC (.int 9))) (af (aH vH (tC (.int 10)) (tC (.int 14))) (af (K6 (rU fun i=>.int (-i)) (aH vH (tC (.int 10)) (tC (.int 14)))) ay)))))) (aH oMod (aH oDiv (ae 0) (tC (.int 3))) (tC (.int 8)))))) bH)
  (bE (aH gy (ae 1) (aH oMod (aH oDiv (ae 0) (tC (.int 3))) (tC (.int 40))))))
noncomputable def iz(K:LO):TS:=
 (aF (bC (bL [none] (cp K (ae 3)) (au 0) cY (aH (iY K) (ae 0) (tC (.int 0)))) (au 5))
  (aF (bC (bL [none] (cp K (ae 4)) (au 0) cY (aH (iY K) (ae 0) (tC (.int 0)))) (au 6))
  (aF (bU (Gc (aV (aH i4 (ae 0) (tC (.str "enrol")))) (aV (aH i4 (ae 0) (tC (.str "leave"))))) (bE (cW (af (a9 (dk K) [] E0 (af (ae 2) (af (aH (bO K) (ae 1) (tC (.int 1))) (af (ae 5) ay)))) ay))) bH)
  (aF (bU (aV (aH i4 (ae 0) (tC (.str "propose")))) (bE (cW (af (a9 (dk K) [] E0 (af (ae 2) (af (aH (bO K) (ae 1) (tC (.int 1))) (af (ae 6) ay)))) (af (a9 (fk K) [] E0 (af (aH (bO K) (ae 1) (tC (.int 2))) (af (tC (.int 1)) ay))) ay)))) bH)
  (aF (bU (aV (aH i4 (ae 0) (tC (.str "give")))) (bE (cW (af (a9 (fk K) [] E0 (af (aH (bO K) (ae 1) (tC (.int 2))) (af (tC (.int 0)) ay))) ay))) bH)
  (aF (bU (aV (aH i4 (ae 0) (tC (.str "withdraw")))) (bE (cW (af (a9 (dk K) [] E0 (af (ae 2) (af (aH (bO K) (ae 1) (tC (.int 1))) (af (ae 6) ay)))) ay))) bH)
  (aF (bC (a9 (dk K) [] E0 (af (ae 2) (af (aH qm (aH (bO K) (ae 1) (tC (.int 1))) (aH lz (aH oMod (aH (bO K) (ae 1) (tC (.int 1))) (tC (.int 4))) (gs rL (af (aH i4 (aH oMod (aH (bO K) (ae 1) (tC (.int 3))) (tC (.int 2))) (tC (.int 0))) ay)))) (af (ae 5) ay)))) (au 7))
  (bE (cW (af (ae 7) (af (a9 (dk K) [] E0 (af (ae 2) (af (aH qm (aH (bO K) (ae 1) (tC (.int 2))) (aH lz (aH oMod (aH (bO K) (ae 1) (tC (.int 2))) (tC (.int 4))) (gs rL (af (aH i4 (aH oMod (aH oDiv (aH (bO K) (ae 1) (tC (.int 3))) (tC (.int 2))) (tC (.int 2))) (tC (.int 0))) ay)))) (af (ae 6) ay)))) ay)))))))))))
noncomputable def gD(K:LO):TS:=
 (aF (bU (Gc (aV (aH i4 (ae 0) (tC (.str "")))) (aV (aH HH (gs nD (af (ae 0) ay)) (tC (.int 8))))) (bE (tC (.bl false))) bH)
  (bE (aH (oB K false) (bL [none] (CI (ae 0)) (au 0) (aV (aH sN (ae 0) (tC (.str "abcdefghijklmnopqrstuvwxyz")))) (ae 0)) (cW ay))))
noncomputable def mf(K:LO):TS:=
 (aF (bU (Gc (aV (aH i4 (ae 0) (tC (.str "enrol")))) (aV (aH i4 (ae 0) (tC (.str "propose"))))) (aF (bC (bL [none] (cp K (aH (bO K) (cW (af (ae 2) (af (ae 3) ay))) (gs rL (af (aH i4 (ae 0) (tC (.str "propose"))) ay)))) (au 0) cY (aH (iY K) (ae 0) (tC (.int 0)))) (au 4))
  (aF (bU (zo (tB (a9 (gL K) [] E0 (af (aH (bO K) (ae 1) (tC (.int 0))) ay)))) (bE (tC (.str "name"))) bH)
  (aF (bU (aV (aH (AS K false) (aH (bO K) (ae 1) (tC (.int 0))) (ae 4))) (bE (tC (.str "twice"))) bH)
  (aF (bU (qy (aV (aH i4 (ae 0) (tC (.str "propose")))) (Gc (aV (aH oLt (aH (bO K) (ae 1) (tC (.int 1))) (tC (.int 1)))) (aV (aH HH (aH (bO K) (ae 1) (tC (.int 1))) (aH vH (tC (.int 10)) (tC (.int 9))))))) (bE (tC (.str "much"))) bH)
  (bE (aH (bO K) (cW (af (tC (.str "")) (af (tC (.str "full")) ay))) (gs rL (af (aH i4 (gs (mC K) (af (ae 4) ay)) (aH (bO K) (cW (af (tC (.int 20)) (af (tC (.int 12)) ay))) (gs rL (af (aH i4 (ae 0) (tC (.str "propose"))) ay)))) ay)))))))) bH)
  (aF (bU (aV (aH i4 (ae 0) (tC (.str "give")))) (bE (aH (bO K) (cW (af (tC (.str "")) (af (tC (.str "much")) ay))) (gs rL (af (Ju (aH oLt (aH (bO K) (ae 1) (tC (.int 0))) (tC (.int 0))) (aH HH (aH (bO K) (ae 1) (tC (.int 0))) (aH vH (tC (.int 10)) (tC (.int 9))))) ay)))) bH)
  (aF (bU (qy (aV (aH FN (ae 0) (tC (.str "withdraw")))) (aV (aH (AS K true) (aH (bO K) (ae 1) (tC (.int 0))) (bL [none] (cp K (ae 2)) (au 0) cY (aH (iY K) (ae 0) (tC (.int 0))))))) (bE (tC (.str "voter"))) bH)
  (aF (bU (qy (aV (aH FN (ae 0) (tC (.str "leave")))) (aV (aH (AS K true) (aH (bO K) (ae 1) (K6 (rU fun i=>.int (-i)) (tC (.int 1)))) (bL [none] (cp K (ae 3)) (au 0) cY (aH (iY K) (ae 0) (tC (.int 0))))))) (bE (tC (.str "work"))) bH)
  (bE (tC (.str "")))))))
noncomputable def js(K:LO):TS:=
 (aF (bC (tC .non) (au 3))
  (aF (bC (tC .non) (au 4))
  (aF (Ca K (.ref (ar K "PurseError")) 5 4 (fun E=>a9 (eW K) [] E (af (ae 0) (af (ae 1) (af (ae 2) ay)))) (bC (ae 5) (au 3)))
  (aF (bU (aV (aH G3 (ae 3) (tC .non))) (bE (ae 4)) bH)
  (aF (bC (cW (af (gs (wc K) (af (ae 3) (af (tC (.ref (ar K "NoName"))) ay))) (af (gs (wc K) (af (ae 3) (af (tC (.ref (ar K "Twice"))) ay))) (af (gs (wc K) (af (ae 3) (af (tC (.ref (ar K "NoVoter"))) ay))) ay)))) (au 6))
  (aF (bC (aH vw (ae 6) (cW (af (gs (wc K) (af (ae 3) (af (tC (.ref (ar K "NoWork"))) ay))) (af (gs (wc K) (af (ae 3) (af (tC (.ref (ar K "TooMuch"))) ay))) (af (gs (wc K) (af (ae 3) (af (tC (.ref (ar K "Full"))) ay))) ay))))) (au 6))
  (bE (aH vw (ae 6) (cW (af (gs (wc K) (af (ae 3) (af (tC (.ref (ar K "NoPaper"))) ay))) (af (gs (wc K) (af (ae 3) (af (tC (.ref (ar K "NoRow"))) ay))) (af (gs (wc K) (af (ae 3) (af (tC (.ty "ValueError")) ay))) ay))))))))))))
noncomputable def iC(K:LO):TS:=
 (bE (cZ K (ae 0) "gifts"))
noncomputable def jt(K:LO):TS:=
 (aF (bC (cW ay) (au 4))
  (aF (k7 (cp K (ae 2)) (au 5) (bV (yW K "list" fZ (ae 4) (af (gY (af (aH (iY K) (ae 5) (tC (.int 0))) (af (aH (iY K) (ae 5) (tC (.int 1))) (af (bL [none,some 5] (cp K (ae 1)) (au 0) (aV (aH (AS K false) (aH (iY K) (ae 0) (tC (.int 0))) (aH (iY K) (ae 1) (tC (.int 2))))) (aH (iY K) (ae 0) (tC (.int 0)))) ay)))) ay))))
  (aF (bU (Gc (aV (aH (oB K true) (b9 (ar K "Chest") "voters" (dz K) [] E0 (ae 0) ay) (ae 1))) (aV (aH (oB K true) (b9 (ar K "Chest") "works" (dO K) [] E0 (ae 0) ay) (ae 4)))) (bE (tC (.bl false))) bH)
  (bE (aH (Kx K false) (cW (af (b9 (ar K "Chest") "pot" (gT K) [] E0 (ae 0) ay) (af (b9 (ar K "Chest") "given" (iX K) [] E0 (ae 0) ay) (af (b9 (ar K "Chest") "spent" (fJ K) [] E0 (ae 0) ay) ay)))) (cW (af (mo (ae 3) (tC (.str "pot"))) (af (mo (ae 3) (tC (.str "given"))) (af (mo (ae 3) (tC (.str "spent"))) ay)))))))))
noncomputable def B8(K:LO):TS:=
 (aF (bC (a9 (je K) [] E0 (af (ae 0) (af (tC (.int 0)) ay))) (au 1))
  (aF (bC (a9 (je K) [] E0 (af (ae 0) (af (tC (.int 1)) ay))) (au 2))
  (aF (bC (CB (ar K "Chest") (fG K) [] E0 ay) (au 3))
  (aF (bC (cW ay) (au 4))
  (aF (bC (cW ay) (au 5))
  (aF (bC (EG [((tC (.str "pot")),(tC (.int 0))),((tC (.str "given")),(tC (.int 0))),((tC (.str "spent")),(tC (.int 0)))]) (au 6))
  (aF (bC (aH (bO K) (cW (af (tC (.int 20)) (af (aH oMod (aH oDiv (ae 1) (tC (.int 4))) (tC (.int 21))) ay))) (aH oMod (ae 1) (tC (.int 2)))) (au 7))
  (aF (bC (bL [none,some 2] (uW (af (ae 7) ay)) (au 0) cY (gY (af (tC (.str "enrol")) (af (cW (af (a9 (cU K) [] E0 (af (ae 1) (af (ae 0) ay))) ay)) ay)))) (au 8))
  (aF (bC (aH (bO K) (cW (af (tC (.int 12)) (af (aH oMod (aH oDiv (ae 1) (tC (.int 84))) (tC (.int 13))) ay))) (aH oMod (aH oDiv (ae 1) (tC (.int 2))) (tC (.int 2)))) (au 7))
  (aF (bC (aH vw (ae 8) (bL [none,some 2] (uW (af (ae 7) ay)) (au 0) cY (gY (af (tC (.str "propose")) (af (cW (af (a9 (cU K) [] E0 (af (ae 1) (af (ae 0) ay))) (af (aH gy (ae 0) (tC (.int 1))) ay))) ay))))) (au 8))
  (aF (k7 (cp K (aH vw (ae 8) (cW (af (gY (af (tC (.str "give")) (af (cW (af (aH oMod (ae 1) (tC (.int 1000))) ay)) ay))) ay)))) (fK K 2 (bq (au 9) (bq (au 10) fN))) (aF (bV (a9 (eW K) [] E0 (af (ae 3) (af (ae 9) (af (ae 10) ay)))))
  (bV (a9 (fi K) [] E0 (af (ae 9) (af (ae 10) (af (ae 4) (af (ae 5) (af (ae 6) ay)))))))))
  (aF (bU (aV (aH HH (aH oMod (aH oDiv (ae 1) (tC (.int 4))) (tC (.int 3))) (tC (.int 0)))) (bV (a9 (j4 K) [] E0 (af (ae 3) (af (ae 4) (af (ae 5) (af (ae 6) ay)))))) bH)
  (aF (bC (cW (af (tC (.str "enrol")) (af (tC (.str "propose")) (af (tC (.str "give")) (af (tC (.str "leave")) (af (tC (.str "withdraw")) (af (tC (.str "want")) (af (tC (.str "unwant")) ay)))))))) (au 11))
  (aF (bC (aH vw (ae 11) (cW (af (tC (.str "enrol")) (af (tC (.str "propose")) (af (tC (.str "want")) ay))))) (au 11))
  (aF (bC (cW (af (tC (.str "name")) (af (tC (.str "twice")) (af (tC (.str "voter")) (af (tC (.str "work")) (af (tC (.str "much")) (af (tC (.str "full")) ay))))))) (au 12))
  (aF (k7 (cp K (zB (Bh K) (ae 0) (ff (tC (.int 2))) (ff (tC (.int 62))))) (au 13) (aF (bC (a9 (gk K) [] E0 (af (ae 13) (af (tC (.int 4)) ay))) (au 14))
  (aF (bC (aH (bO K) (ae 11) (aH oMod (aH (bO K) (ae 14) (tC (.int 0))) (tC (.int 10)))) (au 9))
  (aF (bC (a9 (ig K) [] E0 (af (ae 9) (af (ae 14) (af (ae 2) (af (ae 4) (af (ae 5) ay)))))) (au 10))
  (aF (bC (a9 (lC K) [] E0 (af (ae 9) (af (ae 10) (af (ae 4) (af (ae 5) ay))))) (au 15))
  (aF (bC (a9 (jh K) [] E0 (af (ae 3) (af (ae 9) (af (ae 10) ay)))) (au 16))
  (aF (bU (qy (aV (aH i4 (ae 15) (tC (.str "")))) (aV (aH zX (ae 16) (tC .non)))) (bE (tC (.bl false))) bH)
  (aF (bC (bL [none,some 15] (cp K (ae 12)) (au 0) cY (aH i4 (ae 1) (ae 0))) (au 17))
  (aF (bU (qy (aV (aH FN (ae 15) (tC (.str "")))) (aV (aH (oB K true) (ae 16) (aH vw (ae 17) (cW (af (tC (.bl false)) (af (tC (.bl false)) (af (tC (.bl true)) ay)))))))) (bE (tC (.bl false))) bH)
  (aF (bU (aV (aH i4 (ae 15) (tC (.str "")))) (bV (a9 (fi K) [] E0 (af (ae 9) (af (ae 10) (af (ae 4) (af (ae 5) (af (ae 6) ay))))))) bH)
  (bU (zo (tB (a9 (gj K) [] E0 (af (ae 3) (af (ae 4) (af (ae 5) (af (ae 6) ay))))))) (bE (tC (.bl false))) bH)))))))))))
  (bE (tC (.bl true)))))))))))))))))))
section
variable {K:LO}
theorem zC:∀vs H Q E,je K vs H Q E->lh K {nx:=fun _ H'=>Q .non H',rt:=Q} (start ["script","k","cell"] vs) H:=by
 rintro vs H Q E ⟨_,a,ns,k,rfl,hS,q⟩
 unfold lh
 walk_at "q"
 walk_at "z"
 rename_i p H1 f1 s1 h1
 obtain⟨ms,e,_,_⟩:=Ae ns (some (k:Int)) (some ((k:Int)+1))
 rw[e]at h1
 refine jv (cR (K:=K) (xs:=ms.map V.int) 2) (fun i σ H'=>av H1 H'/\∃v,σ=[some (.ref a),some (.int k),v]) ⟨av.refl _,_,rfl⟩ (fun i σ H' h=>h.1.seq (aK.of h1)) ?_ ?_
 ·rintro i σ Ha Hb hi ⟨sa,v,rfl⟩ sb
  rw[Md]at hi
  have et:(ms.map V.int).getD i .non=.int (ms.getD i 0):=by simp[Mf,hi]
  rw[et]
  show bE _ _ _ _
  walk_at "z"
  exact q _ Hb ((s1.trans sa).trans sb)
 ·rintro σ Ha ⟨sa,v,rfl⟩
  walk_at "z"
  exact q 0 Ha (s1.trans sa)
theorem pL(C:jb K):∀vs H Q E,fG K vs H Q E->fe K {nx:=fun _ H'=>Q .non H',rt:=Q} (start ["self"] vs) H:=by
 rintro vs H Q E ⟨_,c,dx,rfl,hc,q⟩
 unfold fe
 walk_at "q"
 walk_at "z"
 refine EJ fun d1 H1 f1 s1 h1=>?_
 walk_at "z"
 have l0:([]:List (LK×V)).length<=0:=L0 _
 have l1:(bZ "purses" (.ref d1) []).length<=1:=jJ _ _ _
 refine lg (s1 _ _ hc) C.aL C.aR (by decide) ?_
 have n1:d1≠c:=(du hc f1).symm
 have b1:bx [c] H1 (upd H1 c (.ins (ar K "Chest") dx (bZ "purses" (.ref d1) []))):=bx.upd (s1 _ _ hc) (by intro xs z;cases z) (by simp)
 walk_at "q"
 walk_at "z"
 refine EJ fun d2 H2 f2 s2 h2=>?_
 walk_at "z"
 have l2:(bZ "costs" (.ref d2) (bZ "purses" (.ref d1) [])).length<=2:=Ma (jJ _ _ _) (by omega)
 refine lg (s2 _ _ ao) C.aL C.bK (by omega) ?_
 have n2:d2≠c:=(du ao f2).symm
 have n12:d1≠d2:=du (b1.1 d1 _ (by simpa using n1) h1) f2
 have b2:bx [c] H2 (upd H2 c (.ins (ar K "Chest") dx (bZ "costs" (.ref d2) (bZ "purses" (.ref d1) [])))):=bx.upd (s2 _ _ ao) (by intro xs z;cases z) (by simp)
 walk_at "q"
 walk_at "z"
 rename_i w H3 f3 s3 h3
 have l3:(bZ "wishes" (.ref w) (bZ "costs" (.ref d2) (bZ "purses" (.ref d1) []))).length<=3:=Ma (jJ _ _ _) (by omega)
 refine lg (s3 _ _ ao) C.aL C.bP (by omega) ?_
 have n3:w≠c:=(du ao f3).symm
 have b3:bx [c] H3 (upd H3 c (.ins (ar K "Chest") dx (bZ "wishes" (.ref w) (bZ "costs" (.ref d2) (bZ "purses" (.ref d1) []))))):=bx.upd (s3 _ _ ao) (by intro xs z;cases z) (by simp)
 walk_at "q"
 walk_at "z"
 have l4:(bZ "unshared" (.int 0) (bZ "wishes" (.ref w) (bZ "costs" (.ref d2) (bZ "purses" (.ref d1) [])))).length<=4:=Ma (jJ _ _ _) (by omega)
 refine lg ao C.aL C.cn (by omega) ?_
 walk_at "q"
 walk_at "z"
 have l5:(bZ "gifts" (.int 0) (bZ "unshared" (.int 0) (bZ "wishes" (.ref w) (bZ "costs" (.ref d2) (bZ "purses" (.ref d1) []))))).length<=5:=Ma (jJ _ _ _) (by omega)
 refine lg ao C.aL C.jw (by omega) ?_
 walk_at "z"
 refine lg ao C.aL C.iy (by omega) ?_
 rw[Gy]
 have hI:∀(G:Hp)(o:List (LK×V))(fs:List (LK×V)),G c=some (.ins (ar K "Chest") dx o)->bx [c] G (upd G c (.ins (ar K "Chest") dx fs)):=fun G o fs h=>bx.upd h (by intro xs z;cases z) (by simp)
 have key:∀Hf:Hp,bx [c] H3 Hf->Hf c=some (.ins (ar K "Chest") dx (gG d1 d2 w 0 0 0))->Q .non Hf:=fun Hf b4 hf=>by
  have b5:=(b2.trans (bx.of s3)).trans b4
  have b6:=(b1.trans (bx.of s2)).trans b5
  refine q _ [c,d1,d2,w] ⟨dx,d1,d2,w,[],⟨hf,b6.1 d1 _ (by simpa using n1) h1,b5.1 d2 _ (by simpa using n2) h2,b4.1 w _ (by simpa using n3) h3,.nil,n12,N6,N6⟩,rfl⟩ ((bx.of s1).trans b6) ?_
  intro a ha
  have g2:H1 d2=none:=b1.2.2 _ f2
  have g3:H1 w=none:=((b1.trans (bx.of s2)).trans b2).2.2 _ f3
  simp only[L9,NG,or_false]at ha
  rcases ha with rfl|rfl|rfl|rfl
  ·exact .inl (by simp)
  ·exact .inr f1
  ·exact .inr (s1.free g2)
  ·exact .inr (s1.free g3)
 refine key _ ?_ ao
 exact((b3.trans (hI _ _ _ ao)).trans (hI _ _ _ ao)).trans (hI _ _ _ ao)
theorem mH(C:jb K):∀vs H Q E,cx K vs H Q E->dP K E {nx:=fun _ H'=>Q .non H',rt:=Q} (start ["self","voter"] vs) H:=by
 rintro vs H Q E ⟨_,c,n,fp,s,rfl,⟨dx,d1,d2,w,wt,x,rfl⟩,h⟩
 unfold dP
 walk_at "z"
 refine b7 x.at_ C.aL C.aR bY ?_
 refine Co x.p1 ?_
 rcases h with⟨hn,q⟩|⟨hn,hz,q⟩
 ·obtain⟨p,hp,rfl⟩:=LY.mp hn
  rw[oF x.nd (show(p.1,p.2)∈s.ps from hp)]
  walk_at "z"
  exact q
 ·rw[mR hn]
  walk_at "z"
  obtain⟨n1,n2,n3⟩:=Fx hz (show(ML++("no voter: ":LK)).length=10 by decide +kernel) (by decide)
  exact⟨_,rfl,n1,_,rfl,n,rfl,n2,_,rfl,n3,n3,(by decide:1<=LW),q _ (av.refl _)⟩
theorem nk(C:jb K):∀vs H Q E,cz K vs H Q E->ef K E {nx:=fun _ H'=>Q .non H',rt:=Q} (start ["self","work"] vs) H:=by
 rintro vs H Q E ⟨_,c,n,fp,s,rfl,⟨dx,d1,d2,w,wt,x,rfl⟩,h⟩
 unfold ef
 walk_at "z"
 refine b7 x.at_ C.aL C.bK dy ?_
 refine Co x.p2 ?_
 rcases h with⟨hn,q⟩|⟨hn,hz,q⟩
 ·obtain⟨p,hp,rfl⟩:=LY.mp hn
  rw[oF x.nd2 (show(p.1,p.2)∈s.cs from hp)]
  walk_at "z"
  exact q
 ·rw[mR hn]
  walk_at "z"
  obtain⟨n1,n2,n3⟩:=Fx hz (show(ML++("no work: ":LK)).length=9 by decide +kernel) (by decide)
  exact⟨_,rfl,n1,_,rfl,n,rfl,n2,_,rfl,n3,n3,(by decide:1<=LW),q _ (av.refl _)⟩
theorem rX(C:jb K):∀vs H Q E,gI K vs H Q E->gC K E {nx:=fun _ H'=>Q .non H',rt:=Q} (start ["self","voter","work"] vs) H:=by
 rintro vs H Q E ⟨_,c,v,n,fp,s,rfl,⟨dx,d1,d2,w,wt,X,rfl⟩,hz1,hz2,ha,hl,qn,qe⟩
 have hwl:s.ws.length=wt.length:=Mr X.wt
 unfold gC
 walk_at "q"
 walk_at "z"
 refine bW X.at_ (cD (by decide +kernel)) ?_
 walk_at "z"
 by_cases hv:v∈s.ps.map (·.1)
 rotate_left
 ·exact⟨rfl,c,v,_,s,rfl,⟨dx,d1,d2,w,wt,X,rfl⟩,.inr ⟨hv,hz1,qe _ (by rw[aW.due,if_neg hv])⟩⟩
 have a1:=hz1.1
 have a2:=hz2.1
 refine⟨rfl,c,v,_,s,rfl,⟨dx,d1,d2,w,wt,X,rfl⟩,.inl ⟨hv,?_⟩⟩
 walk_at "z"
 walk_at "q"
 walk_at "z"
 refine bW X.at_ (cD (by decide +kernel)) ?_
 walk_at "z"
 by_cases hn:n∈s.cs.map (·.1)
 rotate_left
 ·exact⟨rfl,c,n,_,s,rfl,⟨dx,d1,d2,w,wt,X,rfl⟩,.inr ⟨hn,hz2,qe _ (by rw[aW.due,if_pos hv,if_neg hn])⟩⟩
 have q:=qn (by rw[aW.due,if_pos hv,if_pos hn])
 refine⟨rfl,c,n,_,s,rfl,⟨dx,d1,d2,w,wt,X,rfl⟩,.inl ⟨hn,?_⟩⟩
 walk_at "z"
 refine b7 X.at_ C.aL C.bP fR ?_
 exists w,rfl,⟨_,aK.of X.w_⟩
 refine eE (cR (K:=K) (a:=w) (xs:=wt.map V.ref) 0) (fun i=>[some ((wt.map V.ref).getD i .non),some (.str v),some (.str n)]) (by rintro j σ' (rfl|⟨k,rfl⟩)<;>rfl) (fun H' s'=>s'.seq (aK.of X.w_)) (by rw[Md];exact Ma (show _<=1000 by omega) bg)
  (fun i=>!decide (s.ws.getD i ("","")=(v,n))) (fun i=>(wt.map V.ref).getD i .non) ?_ ?_ ?_
 ·intro i hi H' G s' kk
  have hi:i<s.ws.length:=by rw[hwl];simpa using hi
  obtain⟨b',z1,z2⟩:=dI X.wt (Mg hi)
  have et:(wt.map V.ref).getD i .non=.ref b':=by simp[Mf,z1]
  have eg:s.ws.getD i ("","")=s.ws[i]:=by rw[MH,Mg hi];rfl
  have hai:=ha s.ws[i] (Na hi)
  rw[et]
  rw[eg]at kk
  walk_at "z"
  rename_i t H2 f2 s2 h2
  refine L2.BV (n:=4) (d:=Ci s.ws[i]) (e:=Ci (v,n)) (.tup (gf.of (s2 _ _ (s' _ _ z2))) (.cons (.str _) (.cons (.str _) .nil))) (.tup (gf.of h2) (.cons (.str _) (.cons (.str _) .nil))) (yt hai.1 hai.2) (yt a1 a2) (by decide) ?_
  rw[FL]
  walk_at "z"
  exact kk H2 s2
 ·intro i hi hb H' G s' kk
  walk_at "z"
  exact kk H' (av.refl _)
 intro l H3 f3 s3 h3
 have X3:=X.same s3
 have hp:∃bs:List LL,H3 l=some (.lst (bs.map V.ref))/\L7 (y9 H3) (s.ws.filter fun p=>!decide (p=(v,n))) bs:=by
  refine⟨((Me (wt.map V.ref).length).filter fun i=>!decide (s.ws.getD i ("","")=(v,n))).map (fun i=>wt.getD i 0),?_,?_⟩
  ·rw[h3,Mn]
   congr 2
   refine OA fun i hi=>?_
   have hi:i<wt.length:=by simpa using NC.mp (Mw.mp hi).1
   simp[Mf,hi]
  ·rw[<-iW (fun p:LK×LK=>!decide (p=(v,n))) ("","") s.ws,hwl,Md]
   have go:∀is:List Nat,(∀i∈is,i<wt.length)->L7 (y9 H3) (is.map fun i=>s.ws.getD i ("","")) (is.map fun i=>wt.getD i 0):=by
    intro is
    induction is with
    |nil=>exact fun _=>.nil
    |cons i r ih=>
     intro h
     have hi:=h i (by simp)
     refine .cons ?_ (ih fun j hj=>h j (by simp[hj]))
     obtain⟨b',z1,z2⟩:=dI X3.wt (Mg (show i<s.ws.length by omega))
     show y9 H3 (s.ws.getD i ("","")) (wt.getD i 0)
     rw[MH,MH,z1,Mg (show i<s.ws.length by omega)]
     exact z2
   exact go _ fun i hi=>by simpa using NC.mp (Mw.mp hi).1
 obtain⟨bs,h3',hp⟩:=hp
 walk_at "z"
 refine lg X3.at_ C.aL C.bP (show 6<1000 by decide) ?_
 rw[qT]
 have X4:=X3.setW h3' hp
 refine q _ [c,d1,d2,l] ⟨dx,d1,d2,l,bs,X4,rfl⟩ ((bx.of s3).trans (bx.upd X3.at_ (by intro xs z;cases z) (by simp))) ?_
 intro a ha
 simp only[L9,NG,or_false]at ha
 rcases ha with rfl|rfl|rfl|rfl
 ·exact .inl (by simp)
 ·exact .inl (by simp)
 ·exact .inl (by simp)
 ·exact .inr f3
theorem Bd:∀vs H Q E,oh K vs H Q E->oG K {nx:=fun _ H'=>Q .non H',rt:=Q} (start ["name"] vs) H:=by
 rintro vs H Q E ⟨_,z,rfl,ha,hz,q⟩
 have hl:=cm z
 have hsz:z.cps.size=z.length:=rfl
 have e:eG z=((decide (1<=z.length)&&decide (z.length<=8))&&z.cps.toList.all isLet):=rfl
 unfold oG
 walk_at "v"
 refine gu (fun h1=>?_) (fun h1=>?_)
 ·walk_at "z"
  refine gu (fun h2=>?_) (fun h2=>?_)
  ·walk_at "z"
   exists z,rfl,ha
   refine cG (Cv (x:=z) 0) (fun j=>[some (.str ⟨#[z.cps.getD j 0]⟩)]) (by rintro j σ' (rfl|⟨k,rfl⟩)<;>rfl) (fun _ _=>trivial) (Ma (show _<=1000 by omega) bg) (fun j=>.bl (isLet (z.cps.getD j 0))) ?_ ?_
   ·intro j hj H' F s kk
    walk_at "z"
    rw[CJ]
    exact kk H' (av.refl _)
   intro l1 H1 f1 s1 h1
   have e1:(Me z.cps.size).map (fun j=>V.bl (isLet (z.cps.getD j 0)))=(z.cps.toList.map isLet).map V.bl:=by
    rw[Mn]
    have:=bT (fun c=>V.bl (isLet c)) 0 z.cps.toList
    rw[hl]at this
    rw[hsz]
    refine QQ ?_ this
    refine OA fun j hj=>?_
    simp[T5,MH]
   rw[e1]at h1
   have q1:aK K H1 l1 ((z.cps.toList.map isLet).map V.bl):=aK.of h1
   walk_at "z"
   have e2:(z.cps.toList.map isLet).all id=eG z:=by
    rw[e,PL,decide_eq_true (by omega),decide_eq_true (by omega)]
    rfl
   rw[e2]
   exact q H1 s1
  ·walk_at "z"
   rw[decide_eq_false (show ¬z.length<=8 by omega),RT,OH]at e
   rw[<-e]
   exact q H (av.refl _)
 ·walk_at "z"
  rw[decide_eq_false (show ¬1<=z.length by omega),OH,OH]at e
  rw[<-e]
  exact q H (av.refl _)
theorem pP:∀vs H Q E,dF K vs H Q E->fE K E {nx:=fun _ H'=>Q .non H',rt:=Q} (start ["name","names"] vs) H:=by
 rintro vs H Q E ⟨_,z,d,kvs,rfl,hd,hz,h⟩
 have hsz:=size_eq
 have hz2:=hz.2
 unfold fE
 walk_at "q"
 walk_at "z"
 refine⟨rfl,z,rfl,hz.1,by omega,fun H1 s1=>?_⟩
 rcases h with⟨hn,hv,q⟩|⟨hn,q⟩|⟨hn,hv,q⟩
 ·rw[hn]
  walk_at "z"
  refine Co (s1 _ _ hd) ?_
  rw[hv]
  walk_at "z"
  exact q H1 s1
 ·rw[hn]
  walk_at "z"
  obtain⟨n1,n2,n3⟩:=Fx hz (show(ML++("no name: ":LK)).length=9 by decide +kernel) (by decide)
  exact⟨_,rfl,n1,_,rfl,z,rfl,n2,_,rfl,n3,n3,(by decide:1<=LW),q _ s1⟩
 ·rw[hn]
  walk_at "z"
  refine Co (s1 _ _ hd) ?_
  rw[hv]
  walk_at "z"
  have n1:(ML++("there already: ":LK)).length=15:=by decide +kernel
  have n2:(ML++("there already: ":LK)++z).length<=LW:=by
   rw[NS]
   omega
  exact⟨_,rfl,by omega,_,rfl,z,rfl,by omega,_,rfl,n2,n2,(by decide:1<=LW),q _ s1⟩
theorem D1:∀y:Int,y=12\/y=20->(ML++("there are ":LK)).length<=LW/\y.natAbs.log2<1920/\(ML++("there are ":LK)++((toString y:String):LK)).length<=LW/\(ML++("there are ":LK)++((toString y:String):LK)++(" already":LK)).length<=LW:=by
 rintro y (rfl|rfl)<;>decide +kernel
theorem uC:∀vs H Q E,fg K vs H Q E->iG K E {nx:=fun _ H'=>Q .non H',rt:=Q} (start ["names","most"] vs) H:=by
 rintro vs H Q E ⟨_,d,kvs,n,rfl,hd,hn,h⟩
 obtain⟨n1,n2,n3,n4⟩:=D1 n hn
 unfold iG
 walk_at "z"
 refine u9 hd ?_
 walk_at "z"
 rcases h with⟨h1,q⟩|⟨h1,q⟩
 ·refine bN (by omega) ?_
  walk_at "z"
  exact q
 ·refine gP (by omega) ?_
  exact⟨_,rfl,n1,_,rfl,n,rfl,n2,_,rfl,n3,_,rfl,n4,n4,(by decide:1<=LW),q _ (av.refl _)⟩
theorem tG(C:jb K):∀vs H Q E,ik K vs H Q E->iB K E {nx:=fun _ H'=>Q .non H',rt:=Q} (start ["self","name"] vs) H:=by
 rintro vs H Q E ⟨_,c,n,fp,s,rfl,⟨dx,d1,d2,w,wt,x,rfl⟩,hz,qn,qe⟩
 unfold iB
 walk_at "q"
 walk_at "z"
 refine b7 x.at_ C.aL C.aR bY ?_
 walk_at "z"
 by_cases hn:eG n=true
 ·by_cases hm:n∈s.ps.map (·.1)
  ·exact⟨rfl,n,d1,_,rfl,x.p1,hz,.inr (.inr ⟨hn,AA x.nd hm,qe _ (by rw[aW.due,if_neg (by rw[hn];simp),if_pos hm])⟩)⟩
  refine⟨rfl,n,d1,_,rfl,x.p1,hz,.inl ⟨hn,mR hm,fun H1 s1=>?_⟩⟩
  have x1:=x.same s1
  walk_at "z"
  walk_at "q"
  walk_at "z"
  refine b7 x1.at_ C.aL C.aR bY ?_
  walk_at "z"
  by_cases hl:20<=s.ps.length
  ·exact⟨rfl,d1,_,20,rfl,x1.p1,.inr rfl,.inr ⟨by rw[cL];omega,fun H' s'=>qe _ (by rw[aW.due,if_neg (by rw[hn];simp),if_neg hm,if_pos hl]) H' (s1.trans s')⟩⟩
  refine⟨rfl,d1,_,20,rfl,x1.p1,.inr rfl,.inl ⟨by rw[cL];omega,?_⟩⟩
  walk_at "z"
  refine b7 x1.at_ C.aL C.aR bY ?_
  walk_at "z"
  refine lD x1.p1 (by rw[cL];exact MD (show _<1000 by omega) bg) ?_
  rw[CG hm]
  refine qn (by rw[aW.due,if_neg (by rw[hn];simp),if_neg hm,if_neg hl]) _ [c,d1,d2,w] ⟨dx,d1,d2,w,wt,x1.setP (ps:=s.ps++[(n,0)]) ?_,rfl⟩ ((bx.of s1).trans (bx.upd x1.p1 (by intro xs z;cases z) (by simp))) kS.refl
  rw[MX]
  exact jc x.nd hm
 ·have hn:eG n=false:=by simpa using hn
  exact⟨rfl,n,d1,_,rfl,x.p1,hz,.inr (.inl ⟨hn,qe _ (by rw[aW.due,if_pos hn])⟩)⟩
theorem Dt:∀y:Int,y=0\/y=1->(ML++("not from ":LK)).length<=LW/\y.natAbs.log2<1920/\(ML++("not from ":LK)++((toString y:String):LK)).length<=LW/\(ML++("not from ":LK)++((toString y:String):LK)++(" to ":LK)).length<=LW/\
  (1000000000:Int).natAbs.log2<1920/\(ML++("not from ":LK)++((toString y:String):LK)++(" to ":LK)++((toString (1000000000:Int):String):LK)).length<=LW/\(ML++("not from ":LK)++((toString y:String):LK)++(" to ":LK)++((toString (1000000000:Int):String):LK)++(" coins":LK)).length<=LW:=by
 rintro y (rfl|rfl)<;>decide +kernel
theorem tP:∀vs H Q E,fH K vs H Q E->ic K E {nx:=fun _ H'=>Q .non H',rt:=Q} (start ["coins","least"] vs) H:=by
 rintro vs H Q E ⟨_,x,y,rfl,hy,h⟩
 obtain⟨n1,n2,n3,n4,n5,n6,n7⟩:=Dt y hy
 unfold ic
 walk_at "z"
 rcases h with⟨h1,h2,q⟩|⟨h1,q⟩
 ·refine bN (by omega) ?_
  walk_at "z"
  refine bN (by omega) ?_
  walk_at "z"
  exact q
 ·have fin:km (ar K "TooMuch") E (af (Gb [(tC (.str "not from ")),(D7 (ae 1)),(tC (.str " to ")),(D7 (tC (.int 1000000000))),(tC (.str " coins"))] ML) ay) {nx:=fun _ H'=>Q .non H',rt:=Q} (start ["coins","least"] [.int x,.int y]) H:=
   ⟨_,rfl,n1,_,rfl,y,rfl,n2,_,rfl,n3,_,rfl,n4,_,rfl,n5,_,rfl,n6,_,rfl,n7,n7,(by decide:1<=LW),q _ (av.refl _)⟩
  refine gu (fun _=>?_) (fun h3=>?_)
  ·walk_at "z"
   exact fin
  ·walk_at "z"
   refine gP (by omega) ?_
   exact fin
theorem qu(C:jb K):∀vs H Q E,fP K vs H Q E->fS K E {nx:=fun _ H'=>Q .non H',rt:=Q} (start ["self","work","cost"] vs) H:=by
 rintro vs H Q E ⟨_,c,n,x,fp,s,rfl,⟨dx,d1,d2,w,wt,X,rfl⟩,hz,qn,qe⟩
 unfold fS
 walk_at "q"
 walk_at "z"
 refine b7 X.at_ C.aL C.bK dy ?_
 walk_at "z"
 by_cases hn:eG n=true
 ·by_cases hm:n∈s.cs.map (·.1)
  ·exact⟨rfl,n,d2,_,rfl,X.p2,hz,.inr (.inr ⟨hn,AA X.nd2 hm,qe _ (by rw[aW.due,if_neg (by rw[hn];simp),if_pos hm])⟩)⟩
  refine⟨rfl,n,d2,_,rfl,X.p2,hz,.inl ⟨hn,mR hm,fun H1 s1=>?_⟩⟩
  have x1:=X.same s1
  walk_at "z"
  walk_at "q"
  walk_at "z"
  by_cases hx:x<1\/1000000000<x
  ·exact⟨rfl,x,1,rfl,.inr rfl,.inr ⟨hx,fun H' s'=>qe _ (by rw[aW.due,if_neg (by rw[hn];simp),if_neg hm,if_pos hx]) H' (s1.trans s')⟩⟩
  refine⟨rfl,x,1,rfl,.inr rfl,.inl ⟨by omega,by omega,?_⟩⟩
  walk_at "z"
  walk_at "q"
  walk_at "z"
  refine b7 x1.at_ C.aL C.bK dy ?_
  walk_at "z"
  by_cases hl:12<=s.cs.length
  ·exact⟨rfl,d2,_,12,rfl,x1.p2,.inl rfl,.inr ⟨by rw[cL];omega,fun H' s'=>qe _ (by rw[aW.due,if_neg (by rw[hn];simp),if_neg hm,if_neg hx,if_pos hl]) H' (s1.trans s')⟩⟩
  refine⟨rfl,d2,_,12,rfl,x1.p2,.inl rfl,.inl ⟨by rw[cL];omega,?_⟩⟩
  walk_at "z"
  refine b7 x1.at_ C.aL C.bK dy ?_
  walk_at "z"
  refine lD x1.p2 (by rw[cL];exact MD (show _<1000 by omega) bg) ?_
  rw[CG hm]
  refine qn (by rw[aW.due,if_neg (by rw[hn];simp),if_neg hm,if_neg hx,if_neg hl]) _ [c,d1,d2,w] ⟨dx,d1,d2,w,wt,x1.setC (cs:=s.cs++[(n,x)]) ?_,rfl⟩ ((bx.of s1).trans (bx.upd x1.p2 (by intro xs z;cases z) (by simp))) kS.refl
  rw[MX]
  exact jc X.nd2 hm
 ·have hn:eG n=false:=by simpa using hn
  exact⟨rfl,n,d2,_,rfl,X.p2,hz,.inr (.inl ⟨hn,qe _ (by rw[aW.due,if_pos hn])⟩)⟩
theorem u7(C:jb K):∀vs H Q E,ix K vs H Q E->ir K {nx:=fun _ H'=>Q .non H',rt:=Q} (start ["self","part"] vs) H:=by
 rintro vs H Q E ⟨_,c,x,fp,s,rfl,⟨dx,d1,d2,w,wt,X,rfl⟩,hl,q⟩
 unfold ir
 walk_at "q"
 walk_at "z"
 refine wX X.at_ C.aL C.cn eN ?_
 walk_at "z"
 refine b7 X.at_ C.aL C.aR bY ?_
 walk_at "z"
 refine u9 X.p1 ?_
 rw[cL]
 walk_at "z"
 exists _,_,rfl,rfl,dx,_,X.at_,(show 6<1000 by decide)
 rw[jd]
 have X1:=X.setF (a:=s.pot-x*s.ps.length) (b:=s.giv) (e:=s.spt)
 have b1:bx [c,d1,d2,w] H (upd H c (.ins (ar K "Chest") dx (gG d1 d2 w (s.pot-x*s.ps.length) s.giv s.spt))):=bx.upd X.at_ (by intro xs z;cases z) (by simp)
 generalize upd H c (.ins (ar K "Chest") dx (gG d1 d2 w (s.pot-x*s.ps.length) s.giv s.spt))=H1 at *
 walk_at "z"
 have hk:=cL s.ps
 refine BS (d:=d1) (kvs:=ed s.ps) (fun k hk=>⟨_,rfl,b7 X1.at_ C.aL C.aR bY hk⟩) X1.p1 (by rw[hk];exact Ma (show _<=1000 by omega) bg) (fun i=>.str (s.ps.getD i ("",0)).1) (fun i=>.int (s.ps.getD i ("",0)).2) ?_
  (fun i=>[some (.str (s.ps.getD i ("",0)).1),some (.int (s.ps.getD i ("",0)).2),some (.int x)]) (by rintro j σ' (rfl|⟨k,rfl⟩)<;>rfl) (fun i=>[.str (s.ps.getD i ("",0)).1,.int ((s.ps.getD i ("",0)).2+x)]) ?_ ?_
 ·intro i p hp
  have hi:i<s.ps.length:=by rw[<-hk];exact(Mx.mp hp).1
  rw[i5 (Mg hi)]at hp
  cases hp
  rw[MH,Mg hi]
  exact⟨rfl,rfl⟩
 ·intro i hi H' G kk
  walk_at "z"
  rename_i a H'' f s' h
  exact kk a H'' f s' h
 intro l bs H2 f2 s2 h2 pr
 rw[hk]at pr
 have X2:=X1.same s2
 walk_at "z"
 have nd':((s.ps.map fun p=>(p.1,p.2+x)).map (·.1)).Nodup:=by rw[map_fst];exact X.nd
 refine⟨l,bs,ed (s.ps.map fun p=>(p.1,p.2+x)),rfl,h2,?_,?_,?_,fun d f3=>?_⟩
 ·have e:ed (s.ps.map fun p=>(p.1,p.2+x))=(Me s.ps.length).map fun i=>((.inr (s.ps.getD i ("",0)).1:Key),V.int ((s.ps.getD i ("",0)).2+x)):=by
   rw[bT (fun p:LK×Int=>((.inr p.1:Key),V.int (p.2+x))) ("",0) s.ps]
   unfold ed
   rw[Mn]
   rfl
  rw[e]
  exact eU (Paired.mapP pr fun i a z=>gf.of z)
 ·unfold ed
  rw[Mn]
  have:((fun p:LK×Int=>((.inr p.1:Key),V.int p.2)))=fun p:LK×Int=>((.inr p.1:Key),V.int p.2):=rfl
  show Ml (NO (fun p:LK×Int=>(NI p.1:Key)) _)
  have e2:NO (fun p:LK×Int=>(NI p.1:Key)) (s.ps.map fun p=>(p.1,p.2+x))=((s.ps.map fun p=>(p.1,p.2+x)).map (·.1)).map NI:=by rw[Mn,Mn,Mn];rfl
  rw[e2]
  exact SU _ (fun a b h z=>h (Ta z)) nd'
 ·rw[cL,Md];omega
 have s3:av H2 (upd H2 d (.dK (ed (s.ps.map fun p=>(p.1,p.2+x))))):=av.updN f3
 have X3:=X2.same s3
 have h3:upd H2 d (.dK (ed (s.ps.map fun p=>(p.1,p.2+x)))) d=some (.dK (ed (s.ps.map fun p=>(p.1,p.2+x)))):=ao
 generalize upd H2 d (.dK (ed (s.ps.map fun p=>(p.1,p.2+x))))=H3 at *
 walk_at "z"
 refine lg X3.at_ C.aL C.aR (show 6<1000 by decide) ?_
 rw[xv]
 have X4:=X3.setD h3 (Mm (du X2.p2 f3)) nd'
 refine q _ [c,d,d2,w] ⟨dx,d,d2,w,wt,X4,rfl⟩ (((b1.trans (bx.of s2)).trans (bx.of s3)).trans (bx.upd X3.at_ (by intro xs z;cases z) (by simp))) ?_
 intro a ha
 simp only[L9,NG,or_false]at ha
 rcases ha with rfl|rfl|rfl|rfl
 ·exact .inl (by simp)
 ·exact .inr (b1.2.2 _ (s2.free f3))
 ·exact .inl (by simp)
 ·exact .inl (by simp)
theorem vM(C:jb K):∀vs H Q E,jk K vs H Q E->jm K E {nx:=fun _ H'=>Q .non H',rt:=Q} (start ["self","coins"] vs) H:=by
 rintro vs H Q E ⟨_,c,x,fp,s,rfl,⟨dx,d1,d2,w,wt,X,rfl⟩,hl,qn,qe⟩
 unfold jm
 walk_at "q"
 walk_at "z"
 by_cases hx:x<0\/1000000000<x
 ·exact⟨rfl,x,0,rfl,.inl rfl,.inr ⟨hx,qe _ (by rw[aW.due,if_pos hx])⟩⟩
 have h0:0<=x:=by omega
 have h1:x<=1000000000:=by omega
 have q:=qn (by rw[aW.due,if_neg hx])
 refine⟨rfl,x,0,rfl,.inl rfl,.inl ⟨h0,h1,?_⟩⟩
 walk_at "z"
 walk_at "q"
 walk_at "z"
 refine wX X.at_ C.aL C.jw zx ?_
 walk_at "z"
 exists _,_,rfl,rfl,dx,_,X.at_,(show 6<1000 by decide)
 rw[Ex]
 have X1:=X.setF (a:=s.pot) (b:=s.giv+x) (e:=s.spt)
 have b1:bx [c,d1,d2,w] H (upd H c (.ins (ar K "Chest") dx (gG d1 d2 w s.pot (s.giv+x) s.spt))):=bx.upd X.at_ (by intro xs z;cases z) (by simp)
 generalize upd H c (.ins (ar K "Chest") dx (gG d1 d2 w s.pot (s.giv+x) s.spt))=H1 at *
 walk_at "q"
 walk_at "z"
 refine wX X1.at_ C.aL C.cn eN ?_
 walk_at "z"
 exists _,_,rfl,rfl,dx,_,X1.at_,(show 6<1000 by decide)
 rw[jd]
 have X2:=X1.setF (a:=s.pot+x) (b:=s.giv+x) (e:=s.spt)
 have b2:bx [c,d1,d2,w] H1 (upd H1 c (.ins (ar K "Chest") dx (gG d1 d2 w (s.pot+x) (s.giv+x) s.spt))):=bx.upd X1.at_ (by intro xs z;cases z) (by simp)
 generalize upd H1 c (.ins (ar K "Chest") dx (gG d1 d2 w (s.pot+x) (s.giv+x) s.spt))=H2 at *
 walk_at "z"
 refine b7 X2.at_ C.aL C.aR bY ?_
 exists d1,_,rfl,X2.p1
 by_cases hp:s.ps=[]
 ·have e:(!(ed s.ps).isEmpty)=false:=by rw[hp];rfl
  rw[show(!List.isEmpty (ed (bo.mk s.ps s.cs s.ws (s.pot+x) (s.giv+x) s.spt).ps))=false from e]
  walk_at "z"
  have hS:jz s x=⟨s.ps,s.cs,s.ws,s.pot+x,s.giv+x,s.spt⟩:=by unfold jz;rw[if_pos hp]
  exact q H2 _ (by rw[hS];exact⟨dx,d1,d2,w,wt,X2,rfl⟩) (b1.trans b2) kS.refl
 ·have hpos:0<s.ps.length:=Pj.mpr hp
  have e:(!(ed s.ps).isEmpty)=true:=by
   cases hh:s.ps with
   |nil=>exact absurd hh hp
   |cons=>rfl
  rw[show(!List.isEmpty (ed (bo.mk s.ps s.cs s.ws (s.pot+x) (s.giv+x) s.spt).ps))=true from e]
  walk_at "z"
  refine bW X2.at_ (cD (by decide +kernel)) ?_
  walk_at "z"
  refine b7 X2.at_ C.aL C.cn eN ?_
  walk_at "z"
  refine b7 X2.at_ C.aL C.aR bY ?_
  walk_at "z"
  refine u9 X2.p1 ?_
  rw[cL]
  have e3:(bo.mk s.ps s.cs s.ws (s.pot+x) (s.giv+x) s.spt).ps.length=s.ps.length:=rfl
  refine F0 (by rw[e3];omega) (by rw[e3];omega) ?_
  walk_at "z"
  have hS:jz s x=yn ⟨s.ps,s.cs,s.ws,s.pot+x,s.giv+x,s.spt⟩ ((s.pot+x)/(s.ps.length:Int)):=by unfold jz;rw[if_neg hp]
  refine⟨rfl,c,_,[c,d1,d2,w],⟨s.ps,s.cs,s.ws,s.pot+x,s.giv+x,s.spt⟩,rfl,⟨dx,d1,d2,w,wt,X2,rfl⟩,hl,fun H3 fp3 x3 b3 n3=>?_⟩
  walk_at "z"
  exact q H3 fp3 (by rw[hS];exact x3) ((b1.trans b2).trans b3) (kS.refl.trans n3 (b1.trans b2))
theorem tw(C:jb K):∀vs H Q E,ip K vs H Q E->iu K E {nx:=fun _ H'=>Q .non H',rt:=Q} (start ["self","name"] vs) H:=by
 rintro vs H Q E ⟨_,c,n,fp,s,rfl,⟨dx,d1,d2,w,wt,X,rfl⟩,hz,hw,qn,qe⟩
 unfold iu
 walk_at "q"
 walk_at "z"
 refine bW X.at_ (cD (by decide +kernel)) ?_
 walk_at "z"
 by_cases hin:n∈s.ps.map (·.1)
 rotate_left
 ·exact⟨rfl,c,n,_,s,rfl,⟨dx,d1,d2,w,wt,X,rfl⟩,.inr ⟨hin,hz,qe _ (by rw[aW.due,if_neg hin])⟩⟩
 have q:=qn (by rw[aW.due,if_pos hin])
 have hm:=Bt hin
 generalize vP s.ps n=x at *
 refine⟨rfl,c,n,_,s,rfl,⟨dx,d1,d2,w,wt,X,rfl⟩,.inl ⟨hin,?_⟩⟩
 walk_at "z"
 walk_at "q"
 walk_at "z"
 refine wX X.at_ C.aL C.cn eN ?_
 walk_at "z"
 refine b7 X.at_ C.aL C.aR bY ?_
 exists d1,rfl,.inl ⟨_,.inl X.p1⟩
 walk_at "z"
 exists _,.inr n,.int x,X.p1,rfl,oF X.nd hm
 rw[AF]
 have X1:=X.setP (ps:=s.ps.filter fun p=>decide (p.1≠n)) (sO X.nd)
 have b1:bx [c,d1,d2,w] H (upd H d1 (.dK (ed (s.ps.filter fun p=>decide (p.1≠n))))):=bx.upd X.p1 (by intro xs z;cases z) (by simp)
 generalize upd H d1 (.dK (ed (s.ps.filter fun p=>decide (p.1≠n))))=H1 at *
 exists _,_,rfl,rfl,dx,_,X1.at_,(show 6<1000 by decide)
 rw[jd]
 have X2:=X1.setF (a:=s.pot+x) (b:=s.giv) (e:=s.spt)
 have b2:bx [c,d1,d2,w] H1 (upd H1 c (.ins (ar K "Chest") dx (gG d1 d2 w (s.pot+x) s.giv s.spt))):=bx.upd X1.at_ (by intro xs z;cases z) (by simp)
 generalize upd H1 c (.ins (ar K "Chest") dx (gG d1 d2 w (s.pot+x) s.giv s.spt))=H2 at *
 walk_at "z"
 refine b7 X2.at_ C.aL C.bP fR ?_
 exists w,rfl,⟨_,aK.of X2.w_⟩
 have hwl:s.ws.length=wt.length:=Mr X.wt
 refine lW (pB (K:=K) (a:=w) (ts:=wt) (u:=fun i=>.str (s.ws.getD i ("","")).1) (v:=fun i=>.str (s.ws.getD i ("","")).2) 0 1) (fun i=>[some (.str (s.ws.getD i ("","")).1),some (.str (s.ws.getD i ("","")).2),some (.str n)]) (by rintro j σ' (rfl|⟨k,rfl⟩)<;>rfl) ?_ (Ma (show _<=1000 by omega) bg)
  (fun i=>!decide ((s.ws.getD i ("","")).1=n)) (fun i=>[.str (s.ws.getD i ("","")).1,.str (s.ws.getD i ("","")).2]) ?_ ?_ ?_
 ·intro H' s'
  refine⟨s'.seq (aK.of X2.w_),fun i b hb=>?_⟩
  have hi:i<s.ws.length:=by rw[hwl];exact(Mx.mp hb).1
  obtain⟨b',z1,z2⟩:=dI X2.wt (Mg hi)
  rw[hb]at z1
  cases z1
  rw[MH,Mg hi]
  exact s'.seqT (gf.of z2)
 ·intro i hi H' G s' kk
  walk_at "z"
  exact kk H' (av.refl _)
 ·intro i hi hb H' G s' kk
  walk_at "z"
  rename_i a H'' f s'' h
  exact kk a H'' f s'' h
 intro l bs H3 f3 s3 h3 pr
 have X3:=X2.same s3
 rw[<-hwl]at pr
 have hp:L7 (y9 H3) (s.ws.filter fun p=>!decide (p.1=n)) bs:=by
  rw[<-iW (fun p:LK×LK=>!decide (p.1=n)) ("","") s.ws]
  exact eU pr
 walk_at "z"
 refine lg X3.at_ C.aL C.bP (show 6<1000 by decide) ?_
 rw[qT]
 have X4:=X3.setW h3 hp
 refine q _ [c,d1,d2,l] ⟨dx,d1,d2,l,bs,X4,rfl⟩ (((b1.trans b2).trans (bx.of s3)).trans (bx.upd X3.at_ (by intro xs z;cases z) (by simp))) ?_
 intro a ha
 simp only[L9,NG,or_false]at ha
 rcases ha with rfl|rfl|rfl|rfl
 ·exact .inl (by simp)
 ·exact .inl (by simp)
 ·exact .inl (by simp)
 ·exact .inr ((b1.trans b2).2.2 _ f3)
theorem o3(C:jb K):∀vs H Q E,dD K vs H Q E->fC K E {nx:=fun _ H'=>Q .non H',rt:=Q} (start ["self","work"] vs) H:=by
 rintro vs H Q E ⟨_,c,n,fp,s,rfl,⟨dx,d1,d2,w,wt,X,rfl⟩,hw,qn,qe⟩
 unfold fC
 walk_at "q"
 walk_at "z"
 refine bW X.at_ (cD (by decide +kernel)) ?_
 walk_at "z"
 by_cases hin:n∈s.cs.map (·.1)
 rotate_left
 ·exact⟨rfl,c,n,_,s,rfl,⟨dx,d1,d2,w,wt,X,rfl⟩,.inr ⟨hin,qe _ (by rw[aW.due,if_neg hin])⟩⟩
 have q:=qn (by rw[aW.due,if_pos hin])
 have hm:=Bt hin
 generalize vP s.cs n=x at *
 refine⟨rfl,c,n,_,s,rfl,⟨dx,d1,d2,w,wt,X,rfl⟩,.inl ⟨hin,?_⟩⟩
 walk_at "z"
 walk_at "q"
 walk_at "z"
 refine b7 X.at_ C.aL C.bK dy ?_
 exists d2,rfl,.inl ⟨_,.inl X.p2⟩
 walk_at "z"
 exists _,.inr n,.int x,X.p2,rfl,oF X.nd2 hm
 rw[AF]
 have X2:=X.setC (cs:=s.cs.filter fun p=>decide (p.1≠n)) (sO X.nd2)
 have b1:bx [c,d1,d2,w] H (upd H d2 (.dK (ed (s.cs.filter fun p=>decide (p.1≠n))))):=bx.upd X.p2 (by intro xs z;cases z) (by simp)
 generalize upd H d2 (.dK (ed (s.cs.filter fun p=>decide (p.1≠n))))=H2 at *
 walk_at "z"
 refine b7 X2.at_ C.aL C.bP fR ?_
 exists w,rfl,⟨_,aK.of X2.w_⟩
 have hwl:s.ws.length=wt.length:=Mr X.wt
 refine lW (pB (K:=K) (a:=w) (ts:=wt) (u:=fun i=>.str (s.ws.getD i ("","")).1) (v:=fun i=>.str (s.ws.getD i ("","")).2) 0 1) (fun i=>[some (.str (s.ws.getD i ("","")).1),some (.str (s.ws.getD i ("","")).2),some (.str n)]) (by rintro j σ' (rfl|⟨k,rfl⟩)<;>rfl) ?_ (Ma (show _<=1000 by omega) bg)
  (fun i=>!decide ((s.ws.getD i ("","")).2=n)) (fun i=>[.str (s.ws.getD i ("","")).1,.str (s.ws.getD i ("","")).2]) ?_ ?_ ?_
 ·intro H' s'
  refine⟨s'.seq (aK.of X2.w_),fun i b hb=>?_⟩
  have hi:i<s.ws.length:=by rw[hwl];exact(Mx.mp hb).1
  obtain⟨b',z1,z2⟩:=dI X2.wt (Mg hi)
  rw[hb]at z1
  cases z1
  rw[MH,Mg hi]
  exact s'.seqT (gf.of z2)
 ·intro i hi H' G s' kk
  walk_at "z"
  exact kk H' (av.refl _)
 ·intro i hi hb H' G s' kk
  walk_at "z"
  rename_i a H'' f s'' h
  exact kk a H'' f s'' h
 intro l bs H3 f3 s3 h3 pr
 have X3:=X2.same s3
 rw[<-hwl]at pr
 have hp:L7 (y9 H3) (s.ws.filter fun p=>!decide (p.2=n)) bs:=by
  rw[<-iW (fun p:LK×LK=>!decide (p.2=n)) ("","") s.ws]
  exact eU pr
 walk_at "z"
 refine lg X3.at_ C.aL C.bP (show 6<1000 by decide) ?_
 rw[qT]
 have X4:=X3.setW h3 hp
 refine q _ [c,d1,d2,l] ⟨dx,d1,d2,l,bs,X4,rfl⟩ ((b1.trans (bx.of s3)).trans (bx.upd X3.at_ (by intro xs z;cases z) (by simp))) ?_
 intro a ha
 simp only[L9,NG,or_false]at ha
 rcases ha with rfl|rfl|rfl|rfl
 ·exact .inl (by simp)
 ·exact .inl (by simp)
 ·exact .inl (by simp)
 ·exact .inr (b1.2.2 _ f3)
theorem vB(C:jb K):∀vs H Q E,gm K vs H Q E->ji K E {nx:=fun _ H'=>Q .non H',rt:=Q} (start ["self","voter","work"] vs) H:=by
 rintro vs H Q E ⟨_,c,v,n,fp,s,rfl,⟨dx,d1,d2,w,wt,X,rfl⟩,hz1,hz2,ha,hl,qn,qe⟩
 have hwl:s.ws.length=wt.length:=Mr X.wt
 unfold ji
 walk_at "q"
 walk_at "z"
 refine bW X.at_ (cD (by decide +kernel)) ?_
 walk_at "z"
 by_cases hv:v∈s.ps.map (·.1)
 rotate_left
 ·exact⟨rfl,c,v,_,s,rfl,⟨dx,d1,d2,w,wt,X,rfl⟩,.inr ⟨hv,hz1,qe _ (by rw[aW.due,if_neg hv])⟩⟩
 have a1:=hz1.1
 have a2:=hz2.1
 refine⟨rfl,c,v,_,s,rfl,⟨dx,d1,d2,w,wt,X,rfl⟩,.inl ⟨hv,?_⟩⟩
 walk_at "z"
 walk_at "q"
 walk_at "z"
 refine bW X.at_ (cD (by decide +kernel)) ?_
 walk_at "z"
 by_cases hn:n∈s.cs.map (·.1)
 rotate_left
 ·exact⟨rfl,c,n,_,s,rfl,⟨dx,d1,d2,w,wt,X,rfl⟩,.inr ⟨hn,hz2,qe _ (by rw[aW.due,if_pos hv,if_neg hn])⟩⟩
 have q:=qn (by rw[aW.due,if_pos hv,if_pos hn])
 refine⟨rfl,c,n,_,s,rfl,⟨dx,d1,d2,w,wt,X,rfl⟩,.inl ⟨hn,?_⟩⟩
 walk_at "z"
 rename_i t H1 f1 s1 h1
 have X1:=X.same s1
 refine b7 X1.at_ C.aL C.bP fR ?_
 refine A2 (p:=(v,n)) h1 X1.w_ X1.wt a1 a2 ha ?_
 rw[PU]
 by_cases hin:(v,n)∈s.ws
 ·have hS:kW s v n=s:=if_pos hin
  rw[show decide ((v,n)∈s.ws)=true from decide_eq_true hin]
  walk_at "z"
  exact q H1 _ (by rw[hS];exact⟨dx,d1,d2,w,wt,X1,rfl⟩) (bx.of s1) kS.refl
 ·have hS:kW s v n={s with ws:=s.ws++[(v,n)]}:=if_neg hin
  rw[show decide ((v,n)∈s.ws)=false from decide_eq_false hin]
  walk_at "z"
  refine b7 X1.at_ C.aL C.bP fR ?_
  exists y8 X1.w_
  walk_at "z"
  rename_i t2 H2 f2 s2 h2
  have X2:=X1.same s2
  refine dB X2.w_ (by rw[Md,<-hwl];exact MD (show _<1000 by omega) bg) ?_
  rw[show wt.map V.ref++[V.ref t2]=(wt++[t2]).map V.ref by simp]
  exact q _ [c,d1,d2,w] (by rw[hS];exact⟨dx,d1,d2,w,wt++[t2],X2.addW h2,rfl⟩) ((bx.of (s1.trans s2)).trans (bx.upd X2.w_ (by intro xs z;cases z) (by simp))) kS.refl
theorem yT:∀vs H Q E,eW K vs H Q E->kj K E {nx:=fun _ H'=>Q .non H',rt:=Q} (start ["chest","word","things"] vs) H:=by
 rintro vs H Q E ⟨_,c,lt,fp,s,D,rfl,hlt,X0,tx,hv,haw,hwl,qn,qe⟩
 obtain⟨dx,d1,d2,w,wt,X,efp⟩:=id X0
 unfold kj
 cases D with
 |enrol z=>
  simp only[aW.word,aW.things]at hlt ⊢
  walk_at "q"
  walk_at "z"
  refine gP rfl ?_
  walk_at "z"
  refine bW X.at_ (cD (by decide +kernel)) ?_
  walk_at "z"
  refine bB (aK.of hlt) (az (j:=0) rfl) ?_
  walk_at "z"
  exact⟨rfl,c,z,fp,s,rfl,X0,tx,qn,qe⟩
 |propose z x=>
  simp only[aW.word,aW.things]at hlt ⊢
  walk_at "q"
  walk_at "z"
  refine bN (by decide +kernel) ?_
  walk_at "z"
  walk_at "q"
  walk_at "z"
  refine gP rfl ?_
  walk_at "z"
  refine bW X.at_ (cD (by decide +kernel)) ?_
  walk_at "z"
  refine bB (aK.of hlt) (az (j:=0) rfl) ?_
  walk_at "z"
  refine bB (aK.of hlt) (az (j:=1) rfl) ?_
  walk_at "z"
  exact⟨rfl,c,z,x,fp,s,rfl,X0,tx,qn,qe⟩
 |give x=>
  simp only[aW.word,aW.things]at hlt ⊢
  walk_at "q"
  walk_at "z"
  refine bN (by decide +kernel) ?_
  walk_at "z"
  walk_at "q"
  walk_at "z"
  refine bN (by decide +kernel) ?_
  walk_at "z"
  walk_at "q"
  walk_at "z"
  refine gP rfl ?_
  walk_at "z"
  refine bW X.at_ (cD (by decide +kernel)) ?_
  walk_at "z"
  refine bB (aK.of hlt) (az (j:=0) rfl) ?_
  walk_at "z"
  exact⟨rfl,c,x,fp,s,rfl,X0,hv,qn,qe⟩
 |leave z=>
  simp only[aW.word,aW.things]at hlt ⊢
  walk_at "q"
  walk_at "z"
  refine bN (by decide +kernel) ?_
  walk_at "z"
  walk_at "q"
  walk_at "z"
  refine bN (by decide +kernel) ?_
  walk_at "z"
  walk_at "q"
  walk_at "z"
  refine bN (by decide +kernel) ?_
  walk_at "z"
  walk_at "q"
  walk_at "z"
  refine gP rfl ?_
  walk_at "z"
  refine bW X.at_ (cD (by decide +kernel)) ?_
  walk_at "z"
  refine bB (aK.of hlt) (az (j:=0) rfl) ?_
  walk_at "z"
  exact⟨rfl,c,z,fp,s,rfl,X0,tx,by omega,qn,qe⟩
 |withdraw z=>
  simp only[aW.word,aW.things]at hlt ⊢
  walk_at "q"
  walk_at "z"
  refine bN (by decide +kernel) ?_
  walk_at "z"
  walk_at "q"
  walk_at "z"
  refine bN (by decide +kernel) ?_
  walk_at "z"
  walk_at "q"
  walk_at "z"
  refine bN (by decide +kernel) ?_
  walk_at "z"
  walk_at "q"
  walk_at "z"
  refine bN (by decide +kernel) ?_
  walk_at "z"
  walk_at "q"
  walk_at "z"
  refine gP rfl ?_
  walk_at "z"
  refine bW X.at_ (cD (by decide +kernel)) ?_
  walk_at "z"
  refine bB (aK.of hlt) (az (j:=0) rfl) ?_
  walk_at "z"
  exact⟨rfl,c,z,fp,s,rfl,X0,by omega,qn,fun cl e=>⟨tx,qe cl e⟩⟩
 |want v n=>
  simp only[aW.word,aW.things]at hlt ⊢
  walk_at "q"
  walk_at "z"
  refine bN (by decide +kernel) ?_
  walk_at "z"
  walk_at "q"
  walk_at "z"
  refine bN (by decide +kernel) ?_
  walk_at "z"
  walk_at "q"
  walk_at "z"
  refine bN (by decide +kernel) ?_
  walk_at "z"
  walk_at "q"
  walk_at "z"
  refine bN (by decide +kernel) ?_
  walk_at "z"
  walk_at "q"
  walk_at "z"
  refine bN (by decide +kernel) ?_
  walk_at "z"
  walk_at "q"
  walk_at "z"
  refine gP rfl ?_
  walk_at "z"
  refine bW X.at_ (cD (by decide +kernel)) ?_
  walk_at "z"
  refine bB (aK.of hlt) (az (j:=0) rfl) ?_
  walk_at "z"
  refine bB (aK.of hlt) (az (j:=1) rfl) ?_
  walk_at "z"
  exact⟨rfl,c,v,n,fp,s,rfl,X0,tx.1,tx.2,haw,hwl,qn,qe⟩
 |unwant v n=>
  simp only[aW.word,aW.things]at hlt ⊢
  walk_at "q"
  walk_at "z"
  refine bN (by decide +kernel) ?_
  walk_at "z"
  walk_at "q"
  walk_at "z"
  refine bN (by decide +kernel) ?_
  walk_at "z"
  walk_at "q"
  walk_at "z"
  refine bN (by decide +kernel) ?_
  walk_at "z"
  walk_at "q"
  walk_at "z"
  refine bN (by decide +kernel) ?_
  walk_at "z"
  walk_at "q"
  walk_at "z"
  refine bN (by decide +kernel) ?_
  walk_at "z"
  walk_at "q"
  walk_at "z"
  refine bN (by decide +kernel) ?_
  walk_at "z"
  refine bW X.at_ (cD (by decide +kernel)) ?_
  walk_at "z"
  refine bB (aK.of hlt) (az (j:=0) rfl) ?_
  walk_at "z"
  refine bB (aK.of hlt) (az (j:=1) rfl) ?_
  walk_at "z"
  exact⟨rfl,c,v,n,fp,s,rfl,X0,tx.1,tx.2,haw,hwl,qn,qe⟩
theorem Ba{H H':Hp}{lp lw ld:LL}{s:bo}{rows:List j3}{z:LK}(X:eV H lp lw ld s rows)(hn:eG z=true)(hm:z∉s.ps.map (·.1))(hl:s.ps.length<20)(b:bx [lp] H H')(hp:cq H' lp (s.ps++[(z,0)])):eV H' lp lw ld {s with ps:=s.ps++[(z,0)]} rows:=by
 obtain⟨m1,m2,m3⟩:=X.l_ne
 refine⟨hp,b.1 _ _ (by simpa using Mm m1) X.hw,fun r hr=>⟨b.2.1 _ _ (X.hr r hr).1,b.1 _ _ (by simpa using(X.w_ne hr).1) (X.hr r hr).2⟩,b.1 _ _ (by simpa using Mm m2) X.hd,X.nd,X.ec,X.ew,fun r hr=>⟨(X.zs r hr).1,fun v hv=>?_⟩,?_,X.nc,fun p hp'=>?_,X.nn,?_,X.lr,X.cb⟩
 ·show v∈NO (fun p:LK×Int=>p.1) (s.ps++[(z,0)])
  rw[MX]
  exact Mp.mpr (.inl ((X.zs r hr).2 v hv))
 ·show(NO (fun p:LK×Int=>p.1) (s.ps++[(z,0)])).Nodup
  rw[MX]
  exact jc X.np hm
 ·rcases Mp.mp hp' with h|h
  ·exact X.nm p h
  ·rw[Mz.mp h];exact hn
 ·show(s.ps++[(z,0)]).length<=20
  simp
  omega
theorem y0{H H':Hp}{lp lw ld t w:LL}{s:bo}{rows:List j3}{z:LK}{x:Int}(X:eV H lp lw ld s rows)(hn:eG z=true)(hm:z∉s.cs.map (·.1))(hx:1<=x/\x<=1000000000)(hl:s.cs.length<12)(b:bx [lw] H H')(hw:H' lw=some (.lst ((rows++[(⟨t,w,z,x,[]⟩:j3)]).map fun r=>V.ref r.t)))(ht:H' t=some (.tup [.str z,.int x,.ref w]))(hw2:H' w=some (.lst []))(hf:w∉cN lp lw ld rows):
  eV H' lp lw ld {s with cs:=s.cs++[(z,x)]} (rows++[(⟨t,w,z,x,[]⟩:j3)]):=by
 obtain⟨m1,m2,m3⟩:=X.l_ne
 have hfp:cN lp lw ld (rows++[(⟨t,w,z,x,[]⟩:j3)])=cN lp lw ld rows++[w]:=by unfold cN;simp
 refine⟨X.hp.but b (by simpa using m1),hw,fun r hr=>?_,b.1 _ _ (by simpa using Mm m3) X.hd,?_,?_,fun v n=>?_,fun r hr=>?_,X.np,?_,X.nm,fun p hp=>?_,X.le,?_,fun p hp=>?_⟩
 ·rcases Mp.mp hr with h|h
  ·exact⟨b.2.1 _ _ (X.hr r h).1,b.1 _ _ (by simpa using(X.w_ne h).2.1) (X.hr r h).2⟩
  ·rw[Mz.mp h];exact⟨ht,hw2⟩
 ·rw[hfp]
  exact jc X.nd hf
 ·show s.cs++[(z,x)]=_
  rw[X.ec];simp
 ·show(v,n)∈s.ws↔_
  rw[X.ew v n]
  constructor
  ·rintro⟨r,hr,h⟩
   exact⟨r,Mp.mpr (.inl hr),h⟩
  ·rintro⟨r,hr,h1,h2⟩
   rcases Mp.mp hr with h|h
   ·exact⟨r,h,h1,h2⟩
   ·rw[Mz.mp h]at h2
    cases h2
 ·rcases Mp.mp hr with h|h
  ·exact X.zs r h
  ·rw[Mz.mp h]
   exact⟨N6,by intro z hz;cases hz⟩
 ·show(NO (fun p:LK×Int=>p.1) (s.cs++[(z,x)])).Nodup
  rw[MX]
  exact jc X.nc hm
 ·rcases Mp.mp hp with h|h
  ·exact X.nn p h
  ·rw[Mz.mp h];exact hn
 ·show(s.cs++[(z,x)]).length<=12
  simp
  omega
 ·rcases Mp.mp hp with h|h
  ·exact X.cb p h
  ·rw[Mz.mp h];exact hx
theorem zI{H H':Hp}{lp lw ld:LL}{s:bo}{rows:List j3}{ps:List (LK×Int)}{a b':Int}(X:eV H lp lw ld s rows)(e:ps.map (·.1)=s.ps.map (·.1))(b:bx [lp,ld] H H')(hp:cq H' lp ps)(hd:H' ld=some (.dK (hU a b' s.spt))):eV H' lp lw ld {s with ps:=ps,pot:=a,giv:=b'} rows:=by
 obtain⟨m1,m2,m3⟩:=X.l_ne
 have hlen:ps.length=s.ps.length:=by have:=congrArg OQ e;simpa using this
 refine⟨hp,b.1 _ _ (by simp[Mm m1,m3]) X.hw,fun r hr=>⟨b.2.1 _ _ (X.hr r hr).1,b.1 _ _ (by simp[(X.w_ne hr).1,(X.w_ne hr).2.2]) (X.hr r hr).2⟩,hd,X.nd,X.ec,X.ew,fun r hr=>⟨(X.zs r hr).1,fun v hv=>?_⟩,?_,X.nc,fun p hp'=>?_,X.nn,?_,X.lr,X.cb⟩
 ·show v∈ps.map (·.1)
  rw[e];exact(X.zs r hr).2 v hv
 ·show(ps.map (·.1)).Nodup
  rw[e];exact X.np
 ·have:p.1∈s.ps.map (·.1):=by rw[<-e];exact LY.mpr ⟨p,hp',rfl⟩
  obtain⟨p2,h2,e2⟩:=LY.mp this
  rw[<-e2];exact X.nm p2 h2
 ·show ps.length<=20
  rw[hlen];exact X.le
theorem vX{H:Hp}{lp lw ld:LL}{s:bo}{rows:List j3}{z:LK}{j:Nat}(X:eV H lp lw ld s rows)(hj:(s.cs.map (·.1))[j]?=some z):eV (upd H lw (.lst ((rows.eraseIdx j).map fun r=>V.ref r.t))) lp lw ld (ET s z) (rows.eraseIdx j):=by
 obtain⟨m1,m2,m3⟩:=X.l_ne
 have b:bx [lw] H (upd H lw (.lst ((rows.eraseIdx j).map fun r=>V.ref r.t))):=bx.upd X.hw (by intro xs z;cases z) (by simp)
 have hsub:∀r∈rows.eraseIdx j,r∈rows:=fun r hr=>SE hr
 have ecs:s.cs.filter (fun p=>decide (p.1≠z))=s.cs.eraseIdx j:=(my X.nc hj).symm
 have hne:∀r∈rows.eraseIdx j,r.n≠z:=fun r hr e=>by
  have h1:(r.n,r.x)∈s.cs.eraseIdx j:=by
   rw[X.ec,<-eQ]
   exact LY.mpr ⟨r,hr,rfl⟩
  rw[<-ecs]at h1
  have:=(Mw.mp h1).2
  simp at this
  exact this e
 have hin:∀r∈rows,r.n≠z->r∈rows.eraseIdx j:=fun r hr e=>by
  have h1:(r.n,r.x)∈s.cs.eraseIdx j:=by
   rw[<-ecs]
   exact Mw.mpr ⟨by rw[X.ec];exact LY.mpr ⟨r,hr,rfl⟩,by simpa using e⟩
  rw[X.ec,<-eQ]at h1
  obtain⟨r',hr',e'⟩:=LY.mp h1
  have:r'=r:=gZ X.nr (hsub r' hr') hr (congrArg S7 e')
  rw[<-this];exact hr'
 refine⟨X.hp.but b (by simpa using m1),ao,fun r hr=>⟨b.2.1 _ _ (X.hr r (hsub r hr)).1,b.1 _ _ (by simpa using(X.w_ne (hsub r hr)).2.1) (X.hr r (hsub r hr)).2⟩,b.1 _ _ (by simpa using Mm m3) X.hd,?_,?_,fun v n=>?_,fun r hr=>X.zs r (hsub r hr),X.np,?_,X.nm,fun p hp=>X.nn p (Mw.mp hp).1,X.le,Ma (Oc _ _) X.lr,fun p hp=>X.cb p (Mw.mp hp).1⟩
 ·refine Sb ?_ X.nd
  unfold cN
  exact((SN _ (List.eraseIdx_sublist _ _)).cons₂ _ |>.cons₂ _ |>.cons₂ _)
 ·show s.cs.filter _=_
  rw[ecs,X.ec,eQ]
 ·show(v,n)∈s.ws.filter _↔_
  rw[Mw,X.ew v n]
  constructor
  ·rintro⟨⟨r,hr,e,hv⟩,hz⟩
   exact⟨r,hin r hr (by rw[e];simpa using hz),e,hv⟩
  ·rintro⟨r,hr,e,hv⟩
   exact⟨⟨r,hsub r hr,e,hv⟩,by have:=hne r hr;rw[e]at this;simpa using this⟩
 ·exact sO X.nc
noncomputable def HK(z:LK)(r:j3):j3:={r with zs:=r.zs.filter fun v=>!decide (v=z)}
theorem Bf{H H':Hp}{lp lw ld:LL}{s:bo}{rows:List j3}{z:LK}{x:Int}(X:eV H lp lw ld s rows)(b:bx (cN lp lw ld rows) H H')(hp:cq H' lp (s.ps.filter fun p=>decide (p.1≠z)))(hw:H' lw=some (.lst (rows.map fun r=>V.ref r.t)))(hd:H' ld=some (.dK (hU (s.pot+x) s.giv s.spt)))(hr:∀r∈rows,H' r.w=some (.lst ((HK z r).zs.map V.str))):
  eV H' lp lw ld (yu s z x) (rows.map (HK z)):=by
 have hfp:cN lp lw ld (rows.map (HK z))=cN lp lw ld rows:=by unfold cN;rw[Mn];rfl
 refine⟨hp,by rw[hw,Mn];rfl,fun q hq=>?_,hd,by rw[hfp];exact X.nd,?_,fun v n=>?_,fun q hq=>?_,sO X.np,X.nc,fun p hp'=>X.nm p (Mw.mp hp').1,X.nn,Ma (Oc _ _) X.le,X.lr,X.cb⟩
 ·obtain⟨r,h,rfl⟩:=LY.mp hq
  exact⟨b.2.1 _ _ (X.hr r h).1,hr r h⟩
 ·show s.cs=_
  rw[X.ec,Mn]
  rfl
 ·show(v,n)∈s.ws.filter _↔_
  rw[Mw,X.ew v n]
  constructor
  ·rintro⟨⟨r,h,e,hv⟩,hz⟩
   exact⟨HK z r,LY.mpr ⟨r,h,rfl⟩,e,Mw.mpr ⟨hv,hz⟩⟩
  ·rintro⟨q,hq,e,hv⟩
   obtain⟨r,h,rfl⟩:=LY.mp hq
   obtain⟨h1,h2⟩:=Mw.mp hv
   exact⟨⟨r,h,e,h1⟩,h2⟩
 ·obtain⟨r,h,rfl⟩:=LY.mp hq
  refine⟨ON _ (X.zs r h).1,fun v hv=>?_⟩
  obtain⟨h1,h2⟩:=Mw.mp hv
  obtain⟨p,hp1,e⟩:=LY.mp ((X.zs r h).2 v h1)
  refine LY.mpr ⟨p,Mw.mpr ⟨hp1,?_⟩,e⟩
  rw[e]
  simpa using h2
theorem yC:∀vs H Q E,fi K vs H Q E->kC K {nx:=fun _ H'=>Q .non H',rt:=Q} (start ["word","things","people","works","coins","each","k","at","work","wanters"] vs) H:=by
 rintro vs H Q E ⟨_,lt,lp,lw,ld,s,rows,D,rfl,hlt,hln,X,hdue,tx,q⟩
 have hsz:=size_eq
 have hle:=X.le
 have hlr:=X.lr
 have hrl:=X.rl
 obtain⟨m1,m2,m3⟩:=X.l_ne
 have f1:lp∈cN lp lw ld rows:=by simp[cN]
 have f2:lw∈cN lp lw ld rows:=by simp[cN]
 have f3:ld∈cN lp lw ld rows:=by simp[cN]
 have hpl:(s.ps.map (·.1)).length=s.ps.length:=by simp
 have hcl:(s.cs.map (·.1)).length=s.cs.length:=by simp
 unfold kC
 cases D with
 |enrol z=>
  simp only[aW.word,aW.things]at hlt ⊢
  rw[aW.due]at hdue
  walk_at "z"
  refine gP rfl ?_
  walk_at "z"
  obtain⟨tp,p1,p2,p3⟩:=X.hp.at
  exists y8 p1
  walk_at "z"
  refine bB (aK.of hlt) (az (j:=0) rfl) ?_
  walk_at "z"
  rename_i t H1 g1 s1 h1
  obtain⟨xs,hxs,hxl,hnew⟩:=(X.hp.same s1).snoc h1
  refine dB hxs (by rw[hxl];exact MD (show _<1000 by omega) bg) ?_
  have b:bx [lp] H (upd H1 lp (.lst (xs++[.ref t]))):=(bx.of s1).trans (bx.upd hxs (by intro xs z;cases z) (by simp))
  by_cases hn:eG z=false
  ·rw[if_pos hn]at hdue;cases hdue
  rw[if_neg hn]at hdue
  by_cases hm:z∈s.ps.map (·.1)
  ·rw[if_pos hm]at hdue;cases hdue
  rw[if_neg hm]at hdue
  by_cases hl:20<=s.ps.length
  ·rw[if_pos hl]at hdue;cases hdue
  exact q _ rows (Ba X (by simpa using hn) hm (by omega) b hnew) ⟨b.mono (by intro c hc;rw[Mz.mp hc];exact f1),kS.refl⟩
 |propose z x=>
  simp only[aW.word,aW.things]at hlt ⊢
  rw[aW.due]at hdue
  walk_at "z"
  refine bN (by decide +kernel) ?_
  walk_at "z"
  refine gP rfl ?_
  walk_at "z"
  exists y8 X.hw
  walk_at "z"
  refine bB (aK.of hlt) (az (j:=0) rfl) ?_
  walk_at "z"
  refine bB (aK.of hlt) (az (j:=1) rfl) ?_
  walk_at "z"
  rename_i w H1 g1 s1 h1 t H2 g2 s2 h2
  have s12:=s1.trans s2
  have hw2:=s12 _ _ X.hw
  refine dB hw2 (by rw[Md];exact MD (show _<1000 by omega) bg) ?_
  have b:bx [lw] H (upd H2 lw (.lst ((rows.map fun r=>V.ref r.t)++[.ref t]))):=(bx.of s12).trans (bx.upd hw2 (by intro xs z;cases z) (by simp))
  by_cases hn:eG z=false
  ·rw[if_pos hn]at hdue;cases hdue
  rw[if_neg hn]at hdue
  by_cases hm:z∈s.cs.map (·.1)
  ·rw[if_pos hm]at hdue;cases hdue
  rw[if_neg hm]at hdue
  by_cases hx:x<1\/1000000000<x
  ·rw[if_pos hx]at hdue;cases hdue
  rw[if_neg hx]at hdue
  by_cases hl:12<=s.cs.length
  ·rw[if_pos hl]at hdue;cases hdue
  have hwl:w≠lw:=fun e=>by rw[e,X.hw]at g1;cases g1
  have htl:t≠lw:=fun e=>by rw[e,s1 _ _ X.hw]at g2;cases g2
  have hf:w∉cN lp lw ld rows:=fun m=>X.there w m g1
  refine q _ (rows++[(⟨t,w,z,x,[]⟩:j3)]) (y0 X (by simpa using hn) hm (by omega) (by omega) b (by rw[ao];simp) (by rw[aq htl];exact h2) (by rw[aq hwl];exact s2 _ _ h1) hf) ⟨b.mono (by intro c hc;rw[Mz.mp hc];exact f2),fun a ha=>?_⟩
  have:a∈cN lp lw ld rows++[w]:=by unfold cN at ha ⊢;simpa using ha
  rcases Mp.mp this with h|h
  ·exact .inl h
  ·rw[Mz.mp h];exact .inr g1
 |give x=>
  simp only[aW.word,aW.things]at hlt ⊢
  walk_at "z"
  refine bN (by decide +kernel) ?_
  walk_at "z"
  refine bN (by decide +kernel) ?_
  walk_at "z"
  refine gP rfl ?_
  walk_at "q"
  walk_at "z"
  refine kA X.hd AB ?_
  walk_at "z"
  refine bB (aK.of hlt) (az (j:=0) rfl) ?_
  walk_at "z"
  refine lD X.hd qz ?_
  rw[FR]
  have b1:bx [lp,ld] H (upd H ld (.dK (hU s.pot (s.giv+x) s.spt))):=bx.upd X.hd (by intro xs z;cases z) (by simp)
  have hd1:upd H ld (.dK (hU s.pot (s.giv+x) s.spt)) ld=some (.dK (hU s.pot (s.giv+x) s.spt)):=ao
  have ht1:upd H ld (.dK (hU s.pot (s.giv+x) s.spt)) lt=some (.lst [.int x]):=by rw[aq (fun e=>hln (by rw[e];exact f3))];exact hlt
  have hp1:cq (upd H ld (.dK (hU s.pot (s.giv+x) s.spt))) lp s.ps:=X.hp.but (bx.upd (l:=[ld]) X.hd (by intro xs z;cases z) (by simp)) (by simpa using m2)
  generalize upd H ld (.dK (hU s.pot (s.giv+x) s.spt))=H1 at *
  walk_at "q"
  walk_at "z"
  refine kA hd1 uY ?_
  walk_at "z"
  refine bB (aK.of ht1) (az (j:=0) rfl) ?_
  walk_at "z"
  refine lD hd1 qz ?_
  rw[yo]
  have b2:bx [lp,ld] H1 (upd H1 ld (.dK (hU (s.pot+x) (s.giv+x) s.spt))):=bx.upd hd1 (by intro xs z;cases z) (by simp)
  have hd2:upd H1 ld (.dK (hU (s.pot+x) (s.giv+x) s.spt)) ld=some (.dK (hU (s.pot+x) (s.giv+x) s.spt)):=ao
  have hp2:cq (upd H1 ld (.dK (hU (s.pot+x) (s.giv+x) s.spt))) lp s.ps:=hp1.but (bx.upd (l:=[ld]) hd1 (by intro xs z;cases z) (by simp)) (by simpa using m2)
  generalize upd H1 ld (.dK (hU (s.pot+x) (s.giv+x) s.spt))=H2 at *
  have b02:=b1.trans b2
  obtain⟨tp,p1,p2,p3⟩:=hp2.at
  have hpm:(tp.map V.ref).length=s.ps.length:=by simp[p2]
  have qp:aK K H2 lp (tp.map V.ref):=aK.of p1
  walk_at "q"
  walk_at "z"
  refine kA hd2 uY ?_
  walk_at "z"
  rw[hpm]
  try refine F0 (by omega) (by omega) ?_
  generalize heach:(s.pot+x)/max 1 (s.ps.length:Int)=each
  walk_at "z"
  with_reducible refine wK (fun σ H'=>bx [lp] H2 H'/\cq H' lp (s.ps.map fun p=>(p.1,p.2+each))/\∃v6,σ=[some (.str "give"),some (.ref lt),some (.ref lp),some (.ref lw),some (.ref ld),some (.int each),v6,none,none,none]) (fun F hF=>?_) ?_
  ·walk_at "z"
   rw[hpm]
   try refine Cq (by omega) (by omega) ?_
   rw[show((s.ps.length:Int)).toNat=s.ps.length by omega]
   refine mJ (lo:=0) (n:=s.ps.length) (fun i σ H'=>bx [lp] H2 H'/\cq H' lp ((s.ps.take i).map (fun p=>(p.1,p.2+each))++s.ps.drop i)/\∃v6,σ=[some (.str "give"),some (.ref lt),some (.ref lp),some (.ref lw),some (.ref ld),some (.int each),v6,none,none,none])
    ⟨bx.of (av.refl _),by simpa using hp2,_,rfl⟩ ?_ ?_
   ·rintro i σ Ha hi ⟨ba,ra,v6,rfl⟩
    have hli:((s.ps.take i).map (fun p=>(p.1,p.2+each))).length=i:=by simp;omega
    have hdr:s.ps.drop i=s.ps[i]::s.ps.drop (i+1):=(Q3 hi).symm
    obtain⟨ta,a1,a2,a3⟩:=ra.at
    have hll:((s.ps.take i).map (fun p=>(p.1,p.2+each))++s.ps.drop i).length=s.ps.length:=by simp;omega
    obtain⟨t,e1,e2⟩:=a3 i (by rw[hll];exact hi)
    have eg:((s.ps.take i).map (fun p=>(p.1,p.2+each))++s.ps.drop i).getD i ("",0)=s.ps[i]:=by
     rw[MH,Oa (by omega),hli,hdr]
     simp[hi]
    rw[eg]at e2
    have qa:aK K Ha lp (ta.map V.ref):=aK.of a1
    have e0:(0+(i:Int))=(i:Int):=by omega
    show bC _ _ _ _ _
    walk_at "z"
    rw[e0]
    refine bB qa (v:=.ref t) (az (j:=i) (by rw[MO,e1];rfl)) ?_
    walk_at "z"
    refine iO (gf.of e2) (az (j:=0) rfl) ?_
    walk_at "z"
    try rw[e0]
    refine bB qa (v:=.ref t) (az (j:=i) (by rw[MO,e1];rfl)) ?_
    walk_at "z"
    refine iO (gf.of e2) (az (j:=1) rfl) ?_
    walk_at "z"
    rename_i t2 Hb fb sb hb
    obtain⟨xs,hxs,hxl,hnew⟩:=(ra.same sb).set (i:=i) (by rw[hll];exact hi) hb
    refine Iq hxs (k:=i) (by rw[hxl,hll];exact hi) (by first|exact e0|rfl) ?_
    refine⟨(ba.trans (bx.of sb)).trans (bx.upd hxs (by intro xs z;cases z) (by simp)),?_,_,rfl⟩
    have es:((s.ps.take i).map (fun p=>(p.1,p.2+each))++s.ps.drop i).set i ((s.ps[i]).1,(s.ps[i]).2+each)=(s.ps.take (i+1)).map (fun p=>(p.1,p.2+each))++s.ps.drop (i+1):=by
     rw[List.set_append_right _ _ (by omega),hli,Nat.sub_self,hdr,Rm,Oq,Mg hi,MX,QU]
     rfl
    rw[es]at hnew
    exact hnew
   ·rintro σ Ha ⟨ba,ra,v6,rfl⟩
    rw[Nt (L0 _),List.drop_of_length_le (L0 _),O8]at ra
    exact hF _ _ ⟨ba,ra,v6,rfl⟩
  rintro σ H3 ⟨b3,r3,v6,rfl⟩
  have hd3:=b3.1 _ _ (by simpa using Mm m2) hd2
  obtain⟨tq,a1,a2,_⟩:=r3.at
  have hqm:(tq.map V.ref).length=s.ps.length:=by simp[a2]
  have q3:aK K H3 lp (tq.map V.ref):=aK.of a1
  walk_at "z"
  refine kA hd3 uY ?_
  walk_at "z"
  rw[hqm]
  try refine F8 (by omega) (by omega) ?_
  walk_at "z"
  refine lD hd3 qz ?_
  rw[yo]
  have b4:bx [lp,ld] H3 (upd H3 ld (.dK (hU (s.pot+x-each*(s.ps.length:Int)) (s.giv+x) s.spt))):=bx.upd hd3 (by intro xs z;cases z) (by simp)
  have b04:bx [lp,ld] H (upd H3 ld (.dK (hU (s.pot+x-each*(s.ps.length:Int)) (s.giv+x) s.spt))):=(b02.trans (b3.mono (by intro c hc;simp at hc;simp[hc]))).trans b4
  have r4:cq (upd H3 ld (.dK (hU (s.pot+x-each*(s.ps.length:Int)) (s.giv+x) s.spt))) lp (s.ps.map fun p=>(p.1,p.2+each)):=r3.but (bx.upd (l:=[ld]) hd3 (by intro xs z;cases z) (by simp)) (by simpa using m2)
  have hS:jz s x={s with ps:=s.ps.map fun p=>(p.1,p.2+each),pot:=s.pot+x-each*(s.ps.length:Int),giv:=s.giv+x}:=by
   unfold jz
   by_cases hp:s.ps=[]
   ·rw[if_pos hp,hp]
    simp
   ·have hpos:0<s.ps.length:=Pj.mpr hp
    rw[if_neg hp]
    unfold yn
    rw[<-heach,show max 1 (s.ps.length:Int)=(s.ps.length:Int) by omega]
  have res:=zI (a:=s.pot+x-each*(s.ps.length:Int)) (b':=s.giv+x) X (map_fst s.ps each) b04 r4 ao
  rw[<-hS]at res
  exact q _ rows res ⟨b04.mono (by intro c hc;simp at hc;rcases hc with rfl|rfl;exact f1;exact f3),kS.refl⟩
 |leave z=>
  simp only[aW.word,aW.things]at hlt ⊢
  rw[aW.due]at hdue
  by_cases hin:z∈s.ps.map (·.1)
  rotate_left
  ·rw[if_neg hin]at hdue;cases hdue
  obtain⟨tp,p1,p2,p3⟩:=X.hp.firsts
  obtain⟨j,hj,hjl,hjn⟩:=eT X.np hin
  walk_at "z"
  refine bN (by decide +kernel) ?_
  walk_at "z"
  refine bN (by decide +kernel) ?_
  walk_at "z"
  refine bN (by decide +kernel) ?_
  walk_at "z"
  refine gP rfl ?_
  walk_at "q"
  walk_at "z"
  try refine bA (aK.of p1) ?_
  refine cy (aK.of p1) p2 (by rw[p2,hpl];omega) p3 fun l1 H1 g1 s1 h1=>?_
  exists y8 h1
  walk_at "z"
  refine bB (aK.of (s1 _ _ hlt)) (az (j:=0) rfl) ?_
  walk_at "z"
  exists l1,_,z,j,rfl,rfl,h1,hj,hjn,by rw[hpl];omega
  walk_at "z"
  have X1:=X.same s1
  rw[hpl]at hjl
  obtain⟨xs,t,hxs,hxl,hxi,ht,hpop⟩:=X1.hp.pop hjl
  have hvp:vP s.ps z=(s.ps.getD j ("",0)).2:=by
   refine Kg X.np ?_
   have hg:=getD_mem (xs:=s.ps) ("",0) hjl
   have e:(s.ps.getD j ("",0)).1=z:=by
    rw[MO,Mg hjl]at hj
    rw[MH,Mg hjl]
    exact MB hj
   rw[<-e];exact hg
  rw[my X.np hj]at hpop
  walk_at "q"
  walk_at "z"
  refine kA X1.hd uY ?_
  walk_at "z"
  exists y8 hxs
  walk_at "z"
  exists lp,xs,(j:Int),j,.ref t,rfl,rfl,hxs,by omega,by omega,EX (by omega),hxi
  have b2:bx [lp] H1 (upd H1 lp (.lst (xs.eraseIdx j))):=bx.upd hxs (by intro xs z;cases z) (by simp)
  generalize upd H1 lp (.lst (xs.eraseIdx j))=H2 at *
  have hd2:=b2.1 _ _ (by simpa using Mm m2) X1.hd
  walk_at "z"
  refine iO (gf.of (b2.2.1 _ _ ht)) (az (j:=1) rfl) ?_
  walk_at "z"
  refine lD hd2 qz ?_
  rw[yo]
  have b3:bx [ld] H2 (upd H2 ld (.dK (hU (s.pot+(s.ps.getD j ("",0)).2) s.giv s.spt))):=bx.upd hd2 (by intro xs z;cases z) (by simp)
  have hd3:upd H2 ld (.dK (hU (s.pot+(s.ps.getD j ("",0)).2) s.giv s.spt)) ld=some (.dK (hU (s.pot+(s.ps.getD j ("",0)).2) s.giv s.spt)):=ao
  have hp3:=hpop.but b3 (by simpa using m2)
  generalize upd H2 ld (.dK (hU (s.pot+(s.ps.getD j ("",0)).2) s.giv s.spt))=H3 at *
  have b03:bx [lp,ld] H H3:=((bx.of s1).trans (b2.mono (by intro c hc;simp at hc;simp[hc]))).trans (b3.mono (by intro c hc;simp at hc;simp[hc]))
  have hw3:=b03.1 _ _ (by simp[Mm m1,m3]) X.hw
  have hlt3:=b03.1 _ _ (by
   have h1:lt≠lp:=fun e=>hln (by rw[e];exact f1)
   have h2:lt≠ld:=fun e=>hln (by rw[e];exact f3)
   simp[h1,h2]) hlt
  have hrm:(rows.map fun r=>V.ref r.t).length=rows.length:=by simp
  have q3:aK K H3 lw (rows.map fun r=>V.ref r.t):=aK.of hw3
  have hwn:∀r∈rows,r.w∉[lp,ld]:=fun r hr=>by simp[(X.w_ne hr).1,(X.w_ne hr).2.2]
  have hws:∀y∈rows.map (·.w),y≠lp/\y≠lw/\y≠ld/\y≠lt:=fun y hy=>by
   obtain⟨r,hr,rfl⟩:=LY.mp hy
   exact⟨(X.w_ne hr).1,(X.w_ne hr).2.1,(X.w_ne hr).2.2,fun e=>hln (by rw[<-e];exact Cz hr)⟩
  walk_at "z"
  refine jv (cR (K:=K) (xs:=rows.map fun r=>V.ref r.t) 8) (fun i σ H'=>bx (rows.map (·.w)) H3 H'/\(∀k r,rows[k]?=some r->H' r.w=some (.lst ((if k<i then HK z r else r).zs.map V.str)))/\∃v8,σ=[some (.str "leave"),some (.ref lt),some (.ref lp),some (.ref lw),some (.ref ld),none,none,some (.int (j:Int)),v8,none])
   ⟨bx.of (av.refl _),fun k r hr=>?_,_,rfl⟩ (fun i σ H' p=>aK.of (p.1.1 _ _ (fun m=>(hws lw m).2.1 rfl) hw3)) ?_ ?_
  ·rw[if_neg (by omega)]
   have hr':=Nr hr
   exact b03.1 _ _ (hwn r hr') (X.hr r hr').2
  ·rintro i σ Ha Hb hi ⟨ba,hra,v8,rfl⟩ sb
   rw[hrm]at hi
   have et:(rows.map fun r=>V.ref r.t).getD i .non=.ref (rows[i]).t:=by simp[Mf,hi]
   have hri:rows[i]?=some rows[i]:=by simp[hi]
   have hmem:=Na hi
   have hw0:=hra i rows[i] hri
   rw[if_neg (by omega)]at hw0
   obtain⟨g1',_⟩:=X.hr rows[i] hmem
   have hzn:=(X.zs rows[i] hmem).1
   have hza:∀v∈(rows[i]).zs,aY v:=fun v hv=>by
    obtain⟨p,hp,e⟩:=LY.mp ((X.zs rows[i] hmem).2 v hv)
    rw[<-e];exact X.ap p hp
   rw[et]
   have hother:∀{k r},rows[k]?=some r->k≠i->r.w≠(rows[i]).w:=fun {k r} hk hne e=>by
    have e2:=X.w_inj (Nr hk) hmem e
    obtain⟨hk1,hk2⟩:=Mx.mp hk
    have nr:=X.nr
    have:k=i:=by
     rcases O9 k i with c|c|c
     ·have:=Ni.mp nr k i (by simpa using hk1) (by simpa using hi) c
      simp[hk2,e2]at this
     ·exact c
     ·have:=Ni.mp nr i k (by simpa using hi) (by simpa using hk1) c
      simp[hk2,e2]at this
    exact hne this
   generalize hrr:rows[i]=r at *
   have sba:=sb
   have g1b:=sb _ _ (ba.2.1 _ _ (b03.2.1 _ _ g1'))
   have hw0b:=sb _ _ hw0
   have hltb:=sb _ _ (ba.1 _ _ (fun m=>(hws lt m).2.2.2 rfl) hlt3)
   show bU _ _ _ _ _ _
   walk_at "z"
   refine bB (aK.of hltb) (az (j:=0) rfl) ?_
   walk_at "z"
   refine iO (gf.of g1b) (az (j:=2) rfl) ?_
   refine uv (aK.of hw0b) ?_
   walk_at "z"
   refine gu (fun hz=>?_) (fun hz=>?_)
   ·walk_at "z"
    refine iO (gf.of g1b) (az (j:=2) rfl) ?_
    exists y8 hw0b
    walk_at "z"
    refine bB (aK.of hltb) (az (j:=0) rfl) ?_
    walk_at "z"
    obtain⟨j2,hj2,hj2l,hj2n⟩:=eT hzn hz
    exists r.w,_,.str z,r.zs.map OD,.str z,j2,rfl,rfl,hw0b,jA _,.str _,(pK _ hza).mono (by decide),vj tx.1,by rw[MO,hj2];rfl,fun m hm e=>?_
    ·rw[MO]at e
     cases hh:r.zs[m]? with
     |none=>rw[hh]at e;cases e
     |some v=>
      rw[hh]at e
      have e:OD v=.str z:=MB e
      injection e with e
      exact hj2n m hm (by rw[hh,e])
    rw[<-eQ,erase_filter hzn hj2]
    have bu:bx (rows.map (·.w)) Hb (upd Hb r.w (.lst ((r.zs.filter fun y=>!decide (y=z)).map V.str))):=bx.upd hw0b (by intro xs z;cases z) (LY.mpr ⟨r,hmem,rfl⟩)
    refine⟨(ba.trans (bx.of sb)).trans bu,fun k r' hk=>?_,_,rfl⟩
    by_cases hki:k=i
    ·subst hki
     rw[hri]at hk
     cases hk
     rw[if_pos (by omega),ao]
     rfl
    ·rw[aq (hother hk hki)]
     have:=sb _ _ (hra k r' hk)
     by_cases hlt':k<i
     ·rw[if_pos hlt']at this
      rw[if_pos (by omega)];exact this
     ·rw[if_neg hlt']at this
      rw[if_neg (by omega)];exact this
   ·walk_at "z"
    refine⟨ba.trans (bx.of sb),fun k r' hk=>?_,_,rfl⟩
    have:=sb _ _ (hra k r' hk)
    by_cases hki:k=i
    ·subst hki
     rw[hri]at hk
     cases hk
     rw[if_neg (by omega)]at this
     rw[if_pos (by omega)]
     have e:(HK z r).zs=r.zs:=Nu.mpr fun v hv=>by
      have:v≠z:=fun e=>hz (by rw[<-e];exact hv)
      simpa using this
     rw[e];exact this
    ·by_cases hlt':k<i
     ·rw[if_pos hlt']at this
      rw[if_pos (by omega)];exact this
     ·rw[if_neg hlt']at this
      rw[if_neg (by omega)];exact this
  ·rintro σ Ha ⟨ba,hra,v8,rfl⟩
   rw[hrm]at hra
   have bf:bx (cN lp lw ld rows) H Ha:=(b03.mono (by intro c hc;simp at hc;rcases hc with rfl|rfl;exact f1;exact f3)).trans (ba.mono (by intro c hc;obtain⟨r,hr,rfl⟩:=LY.mp hc;exact Cz hr))
   have hfp:cN lp lw ld (rows.map (HK z))=cN lp lw ld rows:=by unfold cN;rw[Mn];rfl
   refine q _ (rows.map (HK z)) ?_ ⟨bf,by rw[hfp];exact kS.refl⟩
   show eV Ha lp lw ld (yu s z (vP s.ps z)) _
   rw[hvp]
   refine Bf X bf (hp3.but ba (fun m=>(hws lp m).1 rfl)) (ba.1 _ _ (fun m=>(hws lw m).2.1 rfl) hw3) (ba.1 _ _ (fun m=>(hws ld m).2.2.1 rfl) hd3) fun r hr=>?_
   obtain⟨k,hk,e⟩:=NF hr
   have:=hra k r (by rw[Mg hk,e])
   rw[if_pos (by omega)]at this
   exact this
 |withdraw z=>
  simp only[aW.word,aW.things]at hlt ⊢
  rw[aW.due]at hdue
  by_cases hin:z∈s.cs.map (·.1)
  rotate_left
  ·rw[if_neg hin]at hdue;cases hdue
  obtain⟨w2,w3⟩:=X.firsts
  have w1:=X.hw'
  obtain⟨j,hj,hjl,hjn⟩:=eT X.nc hin
  walk_at "z"
  refine bN (by decide +kernel) ?_
  walk_at "z"
  refine bN (by decide +kernel) ?_
  walk_at "z"
  refine bN (by decide +kernel) ?_
  walk_at "z"
  refine bN (by decide +kernel) ?_
  walk_at "z"
  refine gP rfl ?_
  walk_at "z"
  exists y8 X.hw
  walk_at "z"
  try refine bA (aK.of w1) ?_
  refine cy (aK.of w1) w2 (by rw[w2,hcl];omega) w3 fun l1 H1 g1 s1 h1=>?_
  exists y8 h1
  walk_at "z"
  refine bB (aK.of (s1 _ _ hlt)) (az (j:=0) rfl) ?_
  walk_at "z"
  exists l1,_,z,j,rfl,rfl,h1,hj,hjn,by rw[hcl];omega
  walk_at "z"
  have X1:=X.same s1
  have hjr:j<rows.length:=by rw[hcl]at hjl;omega
  exists lw,_,(j:Int),j,.ref (rows[j]).t,rfl,rfl,X1.hw,by omega,by omega,EX (by rw[Md];exact hjr),by simp[hjr]
  rw[<-eQ]
  refine q _ _ (vX X1 hj) ⟨((bx.of s1).trans (bx.upd X1.hw (by intro xs z;cases z) f2)),fun a ha=>.inl ?_⟩
  unfold cN at ha ⊢
  simp only[L9]at ha ⊢
  rcases ha with h|h|h|h
  ·exact .inl h
  ·exact .inr (.inl h)
  ·exact .inr (.inr (.inl h))
  ·obtain⟨r,hr,e⟩:=LY.mp h
   exact .inr (.inr (.inr (LY.mpr ⟨r,SE hr,e⟩)))
 |want v n=>
  simp only[aW.word,aW.things]at hlt ⊢
  rw[aW.due]at hdue
  by_cases hin:v∈s.ps.map (·.1)
  rotate_left
  ·rw[if_neg hin]at hdue;cases hdue
  rw[if_pos hin]at hdue
  by_cases hin2:n∈s.cs.map (·.1)
  rotate_left
  ·rw[if_neg hin2]at hdue;cases hdue
  have hnr:n∈rows.map (·.n):=by rw[X.ec,Mn]at hin2;exact hin2
  obtain⟨j,hj,hjl,hjn⟩:=eT X.nr hnr
  rw[Md]at hjl
  have hjn':(rows[j]).n=n:=by
   rw[MO,Mg hjl]at hj
   exact MB hj
  have hmem:=Na hjl
  walk_at "z"
  refine bN (by decide +kernel) ?_
  walk_at "z"
  refine bN (by decide +kernel) ?_
  walk_at "z"
  refine bN (by decide +kernel) ?_
  walk_at "z"
  refine bN (by decide +kernel) ?_
  walk_at "z"
  refine bN (by decide +kernel) ?_
  have q0:aK K H lw (rows.map fun r=>V.ref r.t):=aK.of X.hw
  have hrm:(rows.map fun r=>V.ref r.t).length=rows.length:=by simp
  have R0:j3:=⟨0,0,"",0,[]⟩
  walk_at "q"
  walk_at "z"
  try refine bA q0 ?_
  have ge:∀k,k<rows.length->(rows.map fun r=>V.ref r.t).getD k .non=.ref (rows.getD k ⟨0,0,"",0,[]⟩).t/\rows.getD k ⟨0,0,"",0,[]⟩∈rows:=fun k hk=>⟨by simp[Mf,hk],getD_mem _ hk⟩
  refine eE (cR (K:=K) (xs:=rows.map fun r=>V.ref r.t) 0) (fun k=>[some ((rows.map fun r=>V.ref r.t).getD k .non),some (.ref lt)]) (by rintro k σ' (rfl|⟨k,rfl⟩)<;>rfl) (fun H' s'=>s'.seq q0) (by rw[hrm];exact Ma (show _<=1000 by omega) bg) (fun k=>decide ((rows.getD k ⟨0,0,"",0,[]⟩).n=n)) (fun k=>.ref (rows.getD k ⟨0,0,"",0,[]⟩).w) ?_ ?_ ?_
  ·intro k hk H' G' s' kk
   rw[hrm]at hk
   obtain⟨e1,e2⟩:=ge k hk
   rw[e1]
   walk_at "z"
   refine iO (gf.of (s' _ _ (X.hr _ e2).1)) (az (j:=0) rfl) ?_
   walk_at "z"
   refine bB (aK.of (s' _ _ hlt)) (az (j:=1) rfl) ?_
   walk_at "z"
   exact kk H' (av.refl _)
  ·intro k hk hb' H' G' s' kk
   rw[hrm]at hk
   obtain⟨e1,e2⟩:=ge k hk
   rw[e1]
   walk_at "z"
   refine iO (gf.of (s' _ _ (X.hr _ e2).1)) (az (j:=2) rfl) ?_
   exact kk H' (av.refl _)
  intro l1 H1 g1 s1 h1
  have hfil:(Me rows.length).filter (fun k=>decide ((rows.getD k ⟨0,0,"",0,[]⟩).n=n))=[j]:=by
   refine R5 (le:=(·<=·)) (fun a b _ _ h1 h2=>Qj h1 h2) (P9 NU (ON _ Td)) (by simp) ?_
   refine(SA (ON _ S6) (by simp)).mpr fun k=>?_
   rw[Mw,NC,decide_eq_true_eq,Mz]
   constructor
   ·rintro⟨hk,e⟩
    have eg:rows.getD k ⟨0,0,"",0,[]⟩=rows[k]:=by simp[Mf,hk]
    rw[eg]at e
    have:=gZ X.nr (Na hk) hmem (e.trans hjn'.symm)
    rcases O9 k j with c|c|c
    ·exact absurd (by rw[MO,Mg hk];exact congrArg some e) (hjn k c)
    ·exact c
    ·have:=Ni.mp X.nr j k (by simpa using hjl) (by simpa using hk) c
     simp[hjn',e]at this
   ·rintro rfl
    exact⟨hjl,by simp[Mf,hjl,hjn']⟩
  rw[hrm,hfil,Ub,show rows.getD j ⟨0,0,"",0,[]⟩=rows[j] by simp[Mf,hjl]]at h1
  generalize rows[j]=r at *
  subst hjn'
  walk_at "z"
  refine bB (aK.of h1) (az (j:=0) rfl) ?_
  have X1:=X.same s1
  have hw1:=(X1.hr r hmem).2
  have hlt1:=s1 _ _ hlt
  obtain⟨hzn,hzs⟩:=X.zs r hmem
  have hza:∀y∈r.zs,aY y:=fun y hy=>by
   obtain⟨p,hp,e⟩:=LY.mp (hzs y hy)
   rw[<-e];exact X.ap p hp
  have fin:∀{H':Hp}{zs:List LK}{ws:List (LK×LK)},av H1 H'->(zs.Nodup/\∀z∈zs,z∈s.ps.map (·.1))->(∀v' n',(v',n')∈ws↔((n'=r.n/\v'∈zs)\/(n'≠r.n/\(v',n')∈s.ws)))->eV (upd H' r.w (.lst (zs.map V.str))) lp lw ld {s with ws:=ws} (rW rows r.n zs)/\Mv (cN lp lw ld rows) (cN lp lw ld (rW rows r.n zs)) H (upd H' r.w (.lst (zs.map V.str))):=fun {H' zs ws} s' h1 h2=>by
   have X':=X1.same s'
   exists X'.wish hmem h1 h2,(bx.of (s1.trans s')).trans (bx.upd (X'.hr r hmem).2 (by intro xs z;cases z) (Cz hmem))
   have:cN lp lw ld (rW rows r.n zs)=cN lp lw ld rows:=by unfold cN;rw[B7]
   rw[this]
   exact kS.refl
  have hmemW:(v,r.n)∈s.ws↔v∈r.zs:=⟨fun h=>by
   obtain⟨r',h1,h2,h3⟩:=(X.ew v r.n).mp h
   rw[<-gZ X.nr h1 hmem h2];exact h3,fun h=>(X.ew v r.n).mpr ⟨r,hmem,rfl,h⟩⟩
  walk_at "z"
  walk_at "q"
  walk_at "z"
  refine gP rfl ?_
  walk_at "z"
  refine bB (aK.of hlt1) (az (j:=0) rfl) ?_
  walk_at "z"
  refine kH (aK.of hw1) ?_
  walk_at "z"
  refine qX (fun hz=>?_) (fun hz=>?_)
  ·walk_at "z"
   exists y8 hw1
   walk_at "z"
   refine bB (aK.of hlt1) (az (j:=0) rfl) ?_
   walk_at "z"
   have hzl:r.zs.length<=20:=by
    have:=ow hzn (fun y hy=>hzs y hy)
    rw[hpl]at this
    omega
   refine dB hw1 (by rw[Md];exact MD (show _<1000 by omega) bg) ?_
   rw[show r.zs.map V.str++[V.str v]=(r.zs++[v]).map V.str by simp]
   have hS:kW s v r.n={s with ws:=s.ws++[(v,r.n)]}:=if_neg (fun h=>hz (hmemW.mp h))
   obtain⟨a1,a2⟩:=fin (zs:=r.zs++[v]) (ws:=s.ws++[(v,r.n)]) (av.refl _) ⟨jc hzn hz,fun y hy=>by
    rcases Mp.mp hy with h|h
    ·exact hzs y h
    ·rw[Mz.mp h];exact hin⟩ (fun v' n'=>by
    rw[Mp,Mz,Mp,Mz]
    constructor
    ·rintro(h|h)
     ·by_cases e:n'=r.n
      ·subst e
       obtain⟨r',g1,g2,g3⟩:=(X.ew v' r.n).mp h
       exact .inl ⟨rfl,.inl (by rw[<-gZ X.nr g1 hmem g2];exact g3)⟩
      ·exact .inr ⟨e,h⟩
     ·injection h with h1 h2
      exact .inl ⟨h2,.inr h1⟩
    ·rintro(⟨rfl,h|rfl⟩|⟨_,h⟩)
     ·exact .inl ((X.ew v' r.n).mpr ⟨r,hmem,rfl,h⟩)
     ·exact .inr rfl
     ·exact .inl h)
   walk_at "z"
   refine bN (by decide +kernel) ?_
   walk_at "z"
   refine q _ _ ?_ a2
   show eV _ lp lw ld (kW s v r.n) _
   rw[hS]
   exact a1
  ·walk_at "z"
   refine bN (by decide +kernel) ?_
   walk_at "z"
   have hS:kW s v r.n=s:=if_pos (hmemW.mpr hz)
   refine q _ rows ?_ (Mv.same s1)
   show eV _ lp lw ld (kW s v r.n) _
   rw[hS]
   exact X1
 |unwant v n=>
  simp only[aW.word,aW.things]at hlt ⊢
  rw[aW.due]at hdue
  by_cases hin:v∈s.ps.map (·.1)
  rotate_left
  ·rw[if_neg hin]at hdue;cases hdue
  rw[if_pos hin]at hdue
  by_cases hin2:n∈s.cs.map (·.1)
  rotate_left
  ·rw[if_neg hin2]at hdue;cases hdue
  have hnr:n∈rows.map (·.n):=by rw[X.ec,Mn]at hin2;exact hin2
  obtain⟨j,hj,hjl,hjn⟩:=eT X.nr hnr
  rw[Md]at hjl
  have hjn':(rows[j]).n=n:=by
   rw[MO,Mg hjl]at hj
   exact MB hj
  have hmem:=Na hjl
  walk_at "z"
  refine bN (by decide +kernel) ?_
  walk_at "z"
  refine bN (by decide +kernel) ?_
  walk_at "z"
  refine bN (by decide +kernel) ?_
  walk_at "z"
  refine bN (by decide +kernel) ?_
  walk_at "z"
  refine bN (by decide +kernel) ?_
  have q0:aK K H lw (rows.map fun r=>V.ref r.t):=aK.of X.hw
  have hrm:(rows.map fun r=>V.ref r.t).length=rows.length:=by simp
  have R0:j3:=⟨0,0,"",0,[]⟩
  walk_at "q"
  walk_at "z"
  try refine bA q0 ?_
  have ge:∀k,k<rows.length->(rows.map fun r=>V.ref r.t).getD k .non=.ref (rows.getD k ⟨0,0,"",0,[]⟩).t/\rows.getD k ⟨0,0,"",0,[]⟩∈rows:=fun k hk=>⟨by simp[Mf,hk],getD_mem _ hk⟩
  refine eE (cR (K:=K) (xs:=rows.map fun r=>V.ref r.t) 0) (fun k=>[some ((rows.map fun r=>V.ref r.t).getD k .non),some (.ref lt)]) (by rintro k σ' (rfl|⟨k,rfl⟩)<;>rfl) (fun H' s'=>s'.seq q0) (by rw[hrm];exact Ma (show _<=1000 by omega) bg) (fun k=>decide ((rows.getD k ⟨0,0,"",0,[]⟩).n=n)) (fun k=>.ref (rows.getD k ⟨0,0,"",0,[]⟩).w) ?_ ?_ ?_
  ·intro k hk H' G' s' kk
   rw[hrm]at hk
   obtain⟨e1,e2⟩:=ge k hk
   rw[e1]
   walk_at "z"
   refine iO (gf.of (s' _ _ (X.hr _ e2).1)) (az (j:=0) rfl) ?_
   walk_at "z"
   refine bB (aK.of (s' _ _ hlt)) (az (j:=1) rfl) ?_
   walk_at "z"
   exact kk H' (av.refl _)
  ·intro k hk hb' H' G' s' kk
   rw[hrm]at hk
   obtain⟨e1,e2⟩:=ge k hk
   rw[e1]
   walk_at "z"
   refine iO (gf.of (s' _ _ (X.hr _ e2).1)) (az (j:=2) rfl) ?_
   exact kk H' (av.refl _)
  intro l1 H1 g1 s1 h1
  have hfil:(Me rows.length).filter (fun k=>decide ((rows.getD k ⟨0,0,"",0,[]⟩).n=n))=[j]:=by
   refine R5 (le:=(·<=·)) (fun a b _ _ h1 h2=>Qj h1 h2) (P9 NU (ON _ Td)) (by simp) ?_
   refine(SA (ON _ S6) (by simp)).mpr fun k=>?_
   rw[Mw,NC,decide_eq_true_eq,Mz]
   constructor
   ·rintro⟨hk,e⟩
    have eg:rows.getD k ⟨0,0,"",0,[]⟩=rows[k]:=by simp[Mf,hk]
    rw[eg]at e
    have:=gZ X.nr (Na hk) hmem (e.trans hjn'.symm)
    rcases O9 k j with c|c|c
    ·exact absurd (by rw[MO,Mg hk];exact congrArg some e) (hjn k c)
    ·exact c
    ·have:=Ni.mp X.nr j k (by simpa using hjl) (by simpa using hk) c
     simp[hjn',e]at this
   ·rintro rfl
    exact⟨hjl,by simp[Mf,hjl,hjn']⟩
  rw[hrm,hfil,Ub,show rows.getD j ⟨0,0,"",0,[]⟩=rows[j] by simp[Mf,hjl]]at h1
  generalize rows[j]=r at *
  subst hjn'
  walk_at "z"
  refine bB (aK.of h1) (az (j:=0) rfl) ?_
  have X1:=X.same s1
  have hw1:=(X1.hr r hmem).2
  have hlt1:=s1 _ _ hlt
  obtain⟨hzn,hzs⟩:=X.zs r hmem
  have hza:∀y∈r.zs,aY y:=fun y hy=>by
   obtain⟨p,hp,e⟩:=LY.mp (hzs y hy)
   rw[<-e];exact X.ap p hp
  have fin:∀{H':Hp}{zs:List LK}{ws:List (LK×LK)},av H1 H'->(zs.Nodup/\∀z∈zs,z∈s.ps.map (·.1))->(∀v' n',(v',n')∈ws↔((n'=r.n/\v'∈zs)\/(n'≠r.n/\(v',n')∈s.ws)))->eV (upd H' r.w (.lst (zs.map V.str))) lp lw ld {s with ws:=ws} (rW rows r.n zs)/\Mv (cN lp lw ld rows) (cN lp lw ld (rW rows r.n zs)) H (upd H' r.w (.lst (zs.map V.str))):=fun {H' zs ws} s' h1 h2=>by
   have X':=X1.same s'
   exists X'.wish hmem h1 h2,(bx.of (s1.trans s')).trans (bx.upd (X'.hr r hmem).2 (by intro xs z;cases z) (Cz hmem))
   have:cN lp lw ld (rW rows r.n zs)=cN lp lw ld rows:=by unfold cN;rw[B7]
   rw[this]
   exact kS.refl
  have hmemW:(v,r.n)∈s.ws↔v∈r.zs:=⟨fun h=>by
   obtain⟨r',h1,h2,h3⟩:=(X.ew v r.n).mp h
   rw[<-gZ X.nr h1 hmem h2];exact h3,fun h=>(X.ew v r.n).mpr ⟨r,hmem,rfl,h⟩⟩
  walk_at "z"
  walk_at "q"
  walk_at "z"
  refine bN (by decide +kernel) ?_
  walk_at "z"
  refine gP rfl ?_
  walk_at "z"
  refine bB (aK.of hlt1) (az (j:=0) rfl) ?_
  walk_at "z"
  refine uv (aK.of hw1) ?_
  walk_at "z"
  refine gu (fun hz=>?_) (fun hz=>?_)
  ·walk_at "z"
   exists y8 hw1
   walk_at "z"
   refine bB (aK.of hlt1) (az (j:=0) rfl) ?_
   walk_at "z"
   obtain⟨j2,hj2,hj2l,hj2n⟩:=eT hzn hz
   exists r.w,_,.str v,r.zs.map OD,.str v,j2,rfl,rfl,hw1,jA _,.str _,(pK _ hza).mono (by decide),vj tx.1.1,by rw[MO,hj2];rfl,fun m hm e=>?_
   ·rw[MO]at e
    cases hh:r.zs[m]? with
    |none=>rw[hh]at e;cases e
    |some y=>
     rw[hh]at e
     have e:OD y=.str v:=MB e
     injection e with e
     exact hj2n m hm (by rw[hh,e])
   rw[<-eQ,erase_filter hzn hj2]
   obtain⟨a1,a2⟩:=fin (zs:=r.zs.filter fun y=>!decide (y=v)) (ws:=s.ws.filter fun p=>!decide (p=(v,r.n))) (av.refl _) ⟨ON _ hzn,fun y hy=>hzs y (Mw.mp hy).1⟩ (fun v' n'=>by
    rw[Mw,Mw]
    constructor
    ·rintro⟨h,hne⟩
     by_cases e:n'=r.n
     ·subst e
      obtain⟨r',g1,g2,g3⟩:=(X.ew v' r.n).mp h
      refine .inl ⟨rfl,by rw[<-gZ X.nr g1 hmem g2];exact g3,?_⟩
      simpa using hne
     ·exact .inr ⟨e,h⟩
    ·rintro(⟨rfl,h,hne⟩|⟨hn,h⟩)
     ·exact⟨(X.ew v' r.n).mpr ⟨r,hmem,rfl,h⟩,by simpa using hne⟩
     ·exact⟨h,by simp[hn]⟩)
   walk_at "z"
   exact q _ _ a1 a2
  ·walk_at "z"
   have hS:EC s v r.n=s:=by
    unfold EC
    have:s.ws.filter (fun p=>!decide (p=(v,r.n)))=s.ws:=Nu.mpr fun p hp=>by
     have:p≠(v,r.n):=fun e=>hz (hmemW.mp (by rw[<-e];exact hp))
     simpa using this
    rw[this]
   refine q _ rows ?_ (Mv.same s1)
   show eV _ lp lw ld (EC s v r.n) _
   rw[hS]
   exact X1
theorem rR(C:jb K):∀vs H Q E,dz K vs H Q E->gB K {nx:=fun _ H'=>Q .non H',rt:=Q} (start ["self"] vs) H:=by
 rintro vs H Q E ⟨_,c,fp,s,rfl,⟨dx,d1,d2,w,wt,x,rfl⟩,q⟩
 unfold gB
 walk_at "z"
 refine b7 x.at_ C.aL C.aR bY ?_
 refine Gu x.p1 fun v H1 f1 s1 h1=>?_
 walk_at "z"
 refine⟨v,d1,ed s.ps,rfl,h1,s1 _ _ x.p1,fun l ts H2 f2 s2 h2 pr=>q l H2 (s1.free f2) (s1.trans s2) ⟨ts,h2,?_⟩⟩
 exact Paired.mapP (oR pr) fun p t z=>z.2.2
theorem oN:∀vs H Q E,fm K vs H Q E->eY K {nx:=fun _ H'=>Q .non H',rt:=Q} (start ["step","number","multiple"] vs) H:=by
 rintro vs H Q E ⟨_,s,n,rfl,hs,hn,q⟩
 unfold eY
 walk_at "w"
 exists fun μ σ H'=>∃m:Nat,σ=[some (.int s),some (.int n),some (.int m)]/\H'=H/\0<m/\s∣m/\m<=NY s n/\μ=NY s n-m,⟨_,s,rfl,rfl,hs,Tj s,T7 (S0 hs hn) (TV s n),rfl⟩
 rintro μ σ H' ⟨m,rfl,rfl,h1,h2,h3,rfl⟩
 walk_at "w"
 refine GR (fun h=>?_) (fun h=>?_)
 ·have hne:m%n≠0:=fun e=>by
   have e':((m:Int)%(n:Int))=0:=by exact_mod_cast e
   rw[e']at h
   simp at h
  have hst:=FG hs hn h2 h3 hne
  exists fun σ' H''=>∃m':Nat,σ'=[some (.int s),some (.int n),some (.int m')]/\H''=H'/\m'=m+s,?_
  ·rintro σ' H'' ⟨m',rfl,rfl,rfl⟩
   exact⟨_,(by omega),m+s,rfl,rfl,(by omega),Nat.dvd_add h2 (Tj s),hst,rfl⟩
  ·walk_at "w"
   exact⟨m+s,rfl,rfl,rfl⟩
 ·have h0:m%n=0:=by
   rcases Q6 (m%n)with z|z
   ·exact z
   ·exfalso
    apply h
    have:¬((m:Int)%(n:Int))=0:=by
     intro e
     have e':m%n=0:=by exact_mod_cast e
     omega
    simp[this]
  walk_at "w"
  rw[GP h1 h2 h3 h0]
  exact q
theorem zj:∀vs H Q E,lA K vs H Q E->lX K {nx:=fun _ H'=>Q .non H',rt:=Q} (start ["n","least","number"] vs) H:=by
 rintro vs H Q E ⟨_,n,rfl,hn,q⟩
 unfold lX
 walk_at "w"
 refine mJ (lo:=1) (n:=((n:Int)+1-1).toNat) (fun i σ H'=>H'=H/\∃v,σ=[some (.int n),some (.int (ni i:Nat)),v]) ⟨rfl,none,rfl⟩ ?_ ?_
 ·rintro i σ H' hi ⟨rfl,v,rfl⟩
  show bC _ _ _ _ _
  walk_at "w"
  exists rfl,ni i,i+1,?_,yi i,R4 i
  ·have e:(1:Int)+(i:Int)=((i+1:Nat):Int):=by omega
   rw[e]
  ·exact⟨rfl,_,rfl⟩
 ·rintro σ H' ⟨rfl,v,rfl⟩
  walk_at "w"
  have e:((n:Int)+1-1).toNat=n:=by omega
  rw[e]
  exact q
theorem y4(a i:Nat):((a ^ (i+1):Nat):Int)*((a:Nat):Int)=((a ^ (i+1+1):Nat):Int):=by
 rw[Tz a (i+1)]
 push_cast
 rfl
theorem xF:∀vs H Q E,gU K vs H Q E->j1 K {nx:=fun _ H'=>Q .non H',rt:=Q} (start ["voters","works","factor","grains","work"] vs) H:=by
 rintro vs H Q E ⟨_,v,w,rfl,h1,h2,h3,q⟩
 have ts:=xm v (by omega)
 unfold j1
 walk_at "w"
 exists rfl,v,rfl,h2
 walk_at "w"
 refine mJ (lo:=0) (n:=((w:Int)).toNat) (fun i σ H'=>H=H'/\∃u,σ=[some (.int v),some (.int w),some (.int (ni v:Nat)),some (.int (ni v ^ (i+1):Nat)),u]) ⟨rfl,none,by rw[Nat.pow_one];rfl⟩ ?_ ?_
 ·rintro i σ H' hi ⟨rfl,u,rfl⟩
  show BA _ _ _ _ _ _
  walk_at "w"
  rw[y4]
  exact⟨rfl,_,rfl⟩
 ·rintro σ H' ⟨rfl,u,rfl⟩
  walk_at "w"
  exact q
theorem Bz:∀vs H Q E,oC K vs H Q E->oK K {nx:=fun _ H'=>Q .non H',rt:=Q} (start ["steps","voter"] vs) H:=by
 rintro vs H Q E ⟨_,a,sts,i,rfl,hA,hl,hi,q⟩
 obtain⟨ts,bs,B⟩:=hA.b
 have qA:aK K H a (ts.map V.ref):=(B.ys (av.refl _)).1
 unfold oK
 walk_at "z"
 refine cG (jC (ts:=ts) (u:=fun i=>.int ((sts.getD i stN).1:Nat)) (v:=fun i=>.int (sts.getD i stN).2.1) (w:=fun i=>.ref (bs.getD i 0)) 0 1 2) (fun j=>[some (.int ((sts.getD j stN).1:Nat)),some (.int (sts.getD j stN).2.1),some (.ref (bs.getD j 0)),some (.int (i:Int))]) (by rintro j σ' (rfl|⟨k,rfl⟩)<;>rfl) (fun H' s=>B.ys s) (by rw[B.tl];exact Ma (show sts.length<=1000 by omega) bg) (fun j=>.int ((sts.getD j stN).2.2.getD i 0)) ?_ ?_
 ·intro j hj H' G s kk
  rw[B.tl]at hj
  have hp:aK K H' (bs.getD j 0) ((sts.getD j stN).2.2.map V.int):=B.paid s hj
  have hil:=hi (sts.getD j stN) (by simp[Mf,hj])
  walk_at "z"
  refine bB hp (az (v:=.int ((sts.getD j stN).2.2.getD i 0)) (by generalize (sts.getD j stN).2.2=xs at *;simp[Mf,hil])) ?_
  exact kk H' (av.refl _)
 intro l H1 f1 s1 h1
 have e1:(Me ts.length).map (fun j=>V.int ((sts.getD j stN).2.2.getD i 0))=(sts.map fun x=>x.2.2.getD i 0).map V.int:=by
  rw[B.tl,bT (fun x:Nat×Int×List Int=>V.int (x.2.2.getD i 0)) stN sts,Mn]
  rfl
 rw[e1]at h1
 walk_at "z"
 exact q H1 s1
theorem Bc:∀vs H Q E,jS K vs H Q E->om K {nx:=fun _ H'=>Q .non H',rt:=Q} (start ["purses","steps"] vs) H:=by
 rintro vs H Q E ⟨_,a,b,ps,sts,rfl,hA,hB,hl,hsl,hsp,q⟩
 have hlp:(ps.map V.int).length=ps.length:=Md _
 unfold om
 walk_at "z"
 try refine⟨a,rfl,⟨_,hA⟩,?_⟩
 refine cG (pF (xs:=ps.map V.int) 0 1) (fun j=>[some (.int j),some ((ps.map V.int).getD j .non),some (.ref b)]) (by rintro j σ' (rfl|⟨k,rfl⟩)<;>rfl) (fun H' s=>s.seq hA) (by rw[hlp];exact Ma (show _<=1000 by omega) bg) (fun j=>.int (ps.getD j 0-(sts.map fun x=>x.2.2.getD j 0).sum)) ?_ ?_
 ·intro j hj H' G s kk
  rw[hlp]at hj
  have e:(ps.map V.int).getD j .non=.int (ps.getD j 0):=by simp[Mf,hj]
  rw[e]
  walk_at "z"
  refine⟨rfl,b,sts,j,rfl,ko s hB,by omega,fun x hx=>by rw[hsp x hx];exact hj,fun H2 s2=>?_⟩
  walk_at "z"
  exact kk H2 s2
 ·intro l H' f s h
  rw[hlp]at h
  refine q l H' f s ?_
  rw[h]
  unfold cI
  rw[Mn]
  rfl
theorem xI:∀vs H Q E,jY K vs H Q E->kD K {nx:=fun _ H'=>Q .non H',rt:=Q} (start ["costs","wishes","grains"] vs) H:=by
 rintro vs H Q E ⟨_,a,b,cs,rows,rfl,hA,⟨bs,hB,hP⟩,hl,hb,hv1,hv,q⟩
 have hlc:(cs.map V.int).length=cs.length:=Md _
 have hlb:(bs.map V.ref).length=rows.length:=by rw[Md];exact(Mr hP).symm
 have pi:=u3 (v:=rows.length) (w:=cs.length+1) hv (by omega)
 unfold kD
 walk_at "v"
 exists rfl,rows.length,cs.length,by rw[hlc,hlb],hv1,hv,hl
 walk_at "v"
 generalize ((ni rows.length ^ (cs.length+1):Nat):Int)=g at *
 refine cG (cR (xs:=cs.map V.int) 0) (fun j=>[some ((cs.map V.int).getD j .non),some (.int g)]) (by rintro j σ' (rfl|⟨k,rfl⟩)<;>rfl) (fun H' s=>s.seq hA) (by rw[hlc];exact Ma (show cs.length<=1000 by omega) bg) (fun j=>.int (cs.getD j 0*g)) ?_ ?_
 ·intro j hj H' G s k
  rw[hlc]at hj
  have e:(cs.map V.int).getD j .non=.int (cs.getD j 0):=by simp[Mf,hj]
  have hbj:=hb (cs.getD j 0) (by simp[Mf,hj])
  rw[e]
  walk_at "v"
  exact k H' (av.refl _)
 ·intro l H' f s h
  refine q l H' f s ?_
  rw[h,hlc,bT (fun x=>V.int (x*g)) 0 cs,Mn]
  rfl
theorem vI:∀vs H Q E,jq K vs H Q E->jl K {nx:=fun _ H'=>Q .non H',rt:=Q} (start ["amount","shares"] vs) H:=by
 rintro vs H Q E ⟨_,m,p,rfl,h0,h1,q⟩
 unfold jl
 walk_at "w"
 exact q
theorem pairwise_split{ms:List Int}(h:ms.Pairwise (·<=·)){i:Nat}(hi:i<ms.length):(∀y∈ms.take i,y<=ms[i])/\(∀y∈ms.drop (i+1),ms[i]<=y):=by
 have e:ms=ms.take i++ms[i]::ms.drop (i+1):=by
  rw[Q3,Ul]
 have h':=h
 rw[e]at h'
 obtain⟨_,h2,h3⟩:=List.pairwise_append.mp h'
 exact⟨fun y hy=>h3 y hy _ Nd,fun y hy=>(List.pairwise_cons.mp h2).1 y hy⟩
theorem yc:∀vs H Q E,ky K vs H Q E->kE K {nx:=fun _ H'=>Q .non H',rt:=Q} (start ["purses","price","missing","payers","purse"] vs) H:=by
 rintro vs H Q E ⟨_,a,ps,price,rfl,hS,hl,hp,hpr,qn,qs⟩
 have hL:(ps.map V.int).length=ps.length:=Md _
 unfold kE
 walk_at "w"
 refine GR (fun h=>?_) (fun h=>?_)
 ·walk_at "w"
  exact qn (of_decide_eq_true h) H (av.refl _)
 have hsum:price<=ps.sum:=by
  rcases N5 ps.sum price with z|z
  ·exact absurd (decide_eq_true z) h
  ·exact z
 walk_at "w"
 refine⟨a,ps,rfl,hS,by omega,fun l ms h0 perm pw=>?_⟩
 have s1:=av.updN (o:=.lst (ms.map V.int)) h0
 have hq:aK K (upd H l (.lst (ms.map V.int))) l (ms.map V.int):=aK.of ao
 generalize upd H l (.lst (ms.map V.int))=H1 at *
 have hlen:ms.length=ps.length:=perm.length_eq
 have hms:∀y∈ms,0<=y:=fun y hy=>hp y (perm.mem_iff.mp hy)
 have hsm:ms.sum=ps.sum:=za perm
 walk_at "w"
 refine FO (K:=K) (a:=l) (xs:=ms.map V.int) (fun i σ H'=>H1=H'/\i<=ms.length/\∃(m:Int)(v:Option V),m=price-(ms.take i).sum/\0<m/\(∀y∈ms.take i,y*((ms.length:Int)-(i:Int))<m)/\
  σ=[some (.ref a),some (.int price),some (.int m),some (.int ((ms.length:Int)-(i:Int))),v]) ⟨rfl,MK _,price,none,by simp,by omega,by simp,?_⟩ ?_ ?_ ?_
 ·rw[hL,hlen]
  show _=[_,_,_,some (V.int ((ps.length:Int)-((0:Nat):Int))),_]
  rw[show((ps.length:Int)-((0:Nat):Int))=(ps.length:Int) by omega]
  rfl
 ·rintro i σ H' _ ⟨rfl,_⟩
  exact hq
 ·rintro i x σ H' hx ⟨rfl,hil,m,v,hm,hm0,hA,rfl⟩
  have hi:i<ms.length:=by
   have:=(Mx.mp hx).1
   rwa [Md]at this
  have hx':x=V.int ms[i]:=by
   rw[MO,Mg hi]at hx
   exact(MB hx).symm
  subst hx'
  have hmi:0<=ms[i]:=hms _ (Na hi)
  obtain⟨b1,b2⟩:=pairwise_split pw hi
  have htk:ms.take (i+1)=ms.take i++[ms[i]]:=by
   rw[Oq,Mg hi]
   rfl
  show aF _ _ _ _ _
  walk_at "w"
  refine GR (fun h=>?_) (fun h=>?_)
  ·have h:=of_decide_eq_true h
   walk_at "w"
   exists rfl,m,(ms.length:Int)-(i:Int),rfl,by omega,by omega
   have e:ms=ms.take i++ms[i]::ms.drop (i+1):=by
    rw[Q3,Ul]
   have key:=Dv (pre:=ms.take i) (post:=ms.drop (i+1)) (x:=ms[i]) (m:=m) (p:=(ms.length:Int)-(i:Int)) (price:=price)
    (by rw[Oh];omega) hm hm0 hA h b2
   rw[<-e]at key
   refine qs hsum _ _ ?_ s1
   unfold FZ at key ⊢
   rw[Aq perm,Aq perm]at key
   exact key
  ·have h:¬m<=ms[i]*((ms.length:Int)-(i:Int)):=fun z=>h (decide_eq_true z)
   obtain⟨c1,c2⟩:=Fs (p:=(ms.length:Int)-(i:Int)) (by omega) hmi b1 h
   walk_at "w"
   exists rfl,hi,m-ms[i],some (.int ms[i]),?_,c1,?_
   ·rw[htk,E7]
    omega
   ·rw[htk]
    have e:(ms.length:Int)-((i+1:Nat):Int)=(ms.length:Int)-(i:Int)-1:=by omega
    rw[e]
    exact c2
   ·have e:(ms.length:Int)-((i+1:Nat):Int)=(ms.length:Int)-(i:Int)-1:=by omega
    rw[e]
    rfl
 ·rintro σ H' ⟨rfl,_,m,v,hm,hm0,hA,rfl⟩
  exfalso
  rw[Md,Q7]at hm
  omega
theorem range_getD{α β:Type}(f:α->β)(d:α)(xs:List α):(Me xs.length).map (fun i=>f (xs.getD i d))=xs.map f:=by
 apply O1
 ·simp
 ·intro k h1 h2
  have hk:k<xs.length:=by simpa using h1
  simp[Mf,hk]
theorem yj:∀vs H Q E,kq K vs H Q E->kB K {nx:=fun _ H'=>Q .non H',rt:=Q} (start ["wanted","works"] vs) H:=by
 rintro vs H Q E ⟨_,a,b,ws,ks,rfl,hA,hB,hl,q⟩
 have hlm:(ks.map V.int).length=ks.length:=Md _
 unfold kB
 walk_at "v"
 refine cG (cR (xs:=ks.map V.int) 0) (fun j=>[some ((ks.map V.int).getD j .non),some (.ref a)]) (by rintro j σ' (rfl|⟨k,rfl⟩)<;>rfl) (fun H' s=>s.seq hB) (by rw[hlm];exact Ma (show ks.length<=1000 by omega) bg) (fun j=>.bl (decide (ks.getD j 0∈ws))) ?_ ?_
 ·intro j hj H' G s k
  rw[hlm]at hj
  have e:(ks.map V.int).getD j .non=.int (ks.getD j 0):=by simp[Mf,hj]
  rw[e]
  walk_at "v"
  exact k H' (av.refl _)
 ·intro l H' f s h
  have e:(Me (ks.map V.int).length).map (fun j=>V.bl (decide (ks.getD j 0∈ws)))=(ks.map fun k=>decide (k∈ws)).map V.bl:=by
   rw[hlm,range_getD (fun k=>V.bl (decide (k∈ws))) 0 ks,Mn]
   rfl
  rw[e]at h
  walk_at "v"
  have e2:(ks.map fun k=>decide (k∈ws)).all id=ks.all fun k=>decide (k∈ws):=by
   rw[PL]
   rfl
  rw[e2]
  exact q H' s
theorem yE:∀vs H Q E,kx K vs H Q E->kf K {nx:=fun _ H'=>Q .non H',rt:=Q} (start ["wishes","works"] vs) H:=by
 rintro vs H Q E ⟨_,a,b,rows,ks,rfl,⟨bs,hA,hP⟩,hB,hl1,hl2,q⟩
 have hbl:bs.length=rows.length:=(Mr hP).symm
 have hlm:(bs.map V.ref).length=bs.length:=Md _
 unfold kf
 walk_at "v"
 refine eE (pF (xs:=bs.map V.ref) 0 1) (fun i=>[some (.int i),some ((bs.map V.ref).getD i .non),some (.ref b)]) (by rintro i σ' (rfl|⟨k,rfl⟩)<;>rfl) (fun H' s=>s.seq hA) (by rw[hlm];exact Ma (show bs.length<=1000 by omega) bg) (fun i=>ks.all fun k=>decide (k∈rows.getD i [])) (fun i=>.int i) ?_ ?_ ?_
 ·intro i hi H' G s k
  rw[hlm]at hi
  obtain⟨row,hr,hq⟩:=iL hP (show bs[i]?=some bs[i] by simp[hi])
  have e:(bs.map V.ref).getD i .non=.ref bs[i]:=by simp[Mf,hi]
  have e2:rows.getD i []=row:=by simp[Mf,hr]
  rw[e2]at k
  rw[e]
  walk_at "v"
  refine⟨rfl,bs[i],b,row,ks,rfl,s.seq hq,s.seq hB,hl2,fun H'' s'=>?_⟩
  walk_at "v"
  exact k H'' s'
 ·intro i hi _ H' G s k
  walk_at "v"
  exact k H' (av.refl _)
 ·intro l H' f s h
  rw[hlm,hbl]at h
  refine q l H' f s ?_
  rw[h]
  unfold kg
  rw[Mn]
  rfl
theorem wB:∀vs H Q E,gq K vs H Q E->jg K {nx:=fun _ H'=>Q .non H',rt:=Q} (start ["wishes","work"] vs) H:=by
 rintro vs H Q E ⟨_,a,rows,k,rfl,hR,hl,q⟩
 unfold jg
 walk_at "v"
 rename_i l1 H1 f1 s1 h1
 refine⟨rfl,a,l1,rows,[k],rfl,by walk_at "rows",aK.of h1,hl,Uh rfl,fun l H' f s h=>?_⟩
 exact q l H' (s1.free f) (s1.trans s) h
theorem AM:∀vs H Q E,mz K vs H Q E->mr K {nx:=fun _ H'=>Q .non H',rt:=Q} (start ["purses","wishes","work","price"] vs) H:=by
 rintro vs H Q E ⟨_,a,b,ps,rows,k,price,rfl,hA,hB,hv,hl,hp,hpr,qn,qs⟩
 unfold mr
 walk_at "v"
 refine⟨rfl,b,rows,(k:Int),rfl,hB,by omega,fun lw H1 f1 s1 h1=>?_⟩
 rw[tF]at h1
 have hwl:=Di rows k
 have hA1:=s1.seq hA
 have q1:aK K H1 lw (((da rows k).map fun i:Nat=>(i:Int)).map V.int):=aK.of h1
 have hlw:(((da rows k).map fun i:Nat=>(i:Int)).map V.int).length=(da rows k).length:=by simp
 walk_at "v"
 refine cG (cR (xs:=((da rows k).map fun i:Nat=>(i:Int)).map V.int) 0) (fun j=>[some ((((da rows k).map fun i:Nat=>(i:Int)).map V.int).getD j .non),some (.ref a)]) (by rintro j σ' (rfl|⟨k,rfl⟩)<;>rfl) (fun H' s=>s.seq q1) (by rw[hlw];exact Ma (show _<=1000 by omega) bg) (fun j=>.int (PF ps ((da rows k).getD j 0))) ?_ ?_
 ·intro j hj H' G s kk
  rw[hlw]at hj
  have e:(((da rows k).map fun i:Nat=>(i:Int)).map V.int).getD j .non=.int (((da rows k).getD j 0:Nat):Int):=by simp[Mf,hj]
  have hm:(da rows k).getD j 0∈da rows k:=by simp[Mf,hj]
  have hi:=Fw hm
  rw[e]
  generalize (da rows k).getD j 0=i at *
  walk_at "v"
  refine bB (s.seq hA1) (az (Bp (by omega))) ?_
  exact kk H' (av.refl _)
 intro l H2 f2 s2 h2
 have e2:(Me (((da rows k).map fun i:Nat=>(i:Int)).map V.int).length).map (fun j=>V.int (PF ps ((da rows k).getD j 0)))=((da rows k).map (PF ps)).map V.int:=by
  rw[hlw,bT (fun i=>V.int (PF ps i)) 0 (da rows k),Mn]
  rfl
 rw[e2]at h2
 walk_at "v"
 refine⟨rfl,l,(da rows k).map (PF ps),price,rfl,aK.of h2,by rw[Md];omega,fun p h=>?_,hpr,fun h H3 s3=>?_,fun h L H3 hL s3=>?_⟩
 ·obtain⟨i,_,e⟩:=LY.mp h
  rw[<-e]
  exact F4 hp i
 ·rw[zZ]at h
  exact qn h H3 (s1.trans (s2.trans s3))
 ·rw[zZ]at h
  obtain⟨z1,z2,z3⟩:=hL
  rw[E8]at z2 z3
  exact qs h L H3 z1 z2 z3 (s1.trans (s2.trans s3))
theorem yN:∀vs H Q E,ka K vs H Q E->kJ K {nx:=fun _ H'=>Q .non H',rt:=Q} (start ["purses","costs","wishes","done","offers","work","price"] vs) H:=by
 rintro vs H Q E ⟨_,a,b,c,d,ps,cs,rows,done,rfl,hA,hB,hC,hD,hl,hb,hv1,hv,hpl,hp,hdl,q⟩
 unfold kJ
 walk_at "q"
 walk_at "z"
 rename_i lo H1 f1 s1 h1
 walk_at "q"
 walk_at "z"
 refine⟨rfl,b,c,cs,rows,rfl,s1.seq hB,s1.rows hC,hl,hb,hv1,hv,fun lp H2 f2 s2 h2=>?_⟩
 have hpr:∀j,j<cs.length->(((cs.map (· * ((ni rows.length ^ (cs.length+1):Nat):Int))).map V.int)).getD j .non=.int ((dc cs rows).c j):=fun j hj=>by
  simp[Mf,hj,dc]
 have hlx:((cs.map (· * ((ni rows.length ^ (cs.length+1):Nat):Int))).map V.int).length=cs.length:=by simp
 generalize (cs.map (· * ((ni rows.length ^ (cs.length+1):Nat):Int))).map V.int=xs at *
 have q2:aK K H2 lp xs:=aK.of h2
 have hne:lp≠lo:=fun z=>by
  rw[z,h1]at f2
  cases f2
 have h1':=s2 _ _ h1
 have s12:=s1.trans s2
 walk_at "z"
 refine jv (pF (xs:=xs) 5 6) (fun i σ H'=>av H H'/\H' lp=some (.lst xs)/\∃(os:List (Option Int))(v5 v6:Option V),H' lo=some (.lst (os.map oV))/\os.length=i/\i<=cs.length/\(∀j o,os[j]?=some o->AO (dc cs rows) (PF ps) done j o)/\σ=[some (.ref a),some (.ref b),some (.ref c),some (.ref d),some (.ref lo),v5,v6]) ⟨s12,h2,[],_,_,h1',rfl,MK _,(fun j o h=>by simp at h),rfl⟩ (fun i σ H' h=>aK.of h.2.1) ?_ ?_
 ·rintro i σ Ha Hb hi ⟨sa,hpa,os,v5,v6,ho,hol,hil,hok,rfl⟩ sb
  rw[hlx]at hi
  rw[hpr i hi]
  have sab:=sa.trans sb
  have fit:(os.map oV).length<LW:=by rw[Md,hol];exact MD (show i<1000 by omega) bg
  have add:∀(o:Option Int)(Hc:Hp),av Hb Hc->AO (dc cs rows) (PF ps) done i o->av H (upd Hc lo (.lst (os.map oV++[oV o])))/\(upd Hc lo (.lst (os.map oV++[oV o]))) lp=some (.lst xs)/\∃(os':List (Option Int))(v5 v6:Option V),(upd Hc lo (.lst (os.map oV++[oV o]))) lo=some (.lst (os'.map oV))/\os'.length=i+1/\i+1<=cs.length/\(∀j o,os'[j]?=some o->AO (dc cs rows) (PF ps) done j o)/\[some (V.ref a),some (.ref b),some (.ref c),some (.ref d),some (.ref lo),some (.int (i:Int)),some (.int ((dc cs rows).c i))]=[some (.ref a),some (.ref b),some (.ref c),some (.ref d),some (.ref lo),v5,v6]:=by
   intro o Hc sc hoff
   refine⟨(sab.trans sc).upd f1,by rw[aq hne];exact sc _ _ (sb _ _ hpa),os++[o],_,_,by rw[ao];simp,by simp[hol],hi,fun j o' hj=>?_,rfl⟩
   by_cases hjl:j<os.length
   ·rw[N4 hjl]at hj
    exact hok j o' hj
   ·rw[Oa (by omega)]at hj
    cases e:j-os.length with
    |zero=>
     rw[e]at hj
     have e1:o=o':=by simpa using hj
     have e2:j=i:=by omega
     rw[<-e1,e2]
     exact hoff
    |succ n=>rw[e]at hj;simp at hj
  have hD':=sab.seq hD
  have hA':=sab.seq hA
  have hC':=sab.rows hC
  have ho':=sb _ _ ho
  show bV _ _ _ _
  walk_at "z"
  exists y8 ho'
  walk_at "z"
  refine gu (fun h=>?_) (fun h=>?_)
  ·walk_at "z"
   refine dB ho' fit ?_
   exact add none Hb (av.refl _) (.inl (mn.mp h))
  ·have hn:i∉done:=fun z=>h (mn.mpr z)
   walk_at "z"
   refine⟨rfl,a,c,ps,rows,i,_,rfl,hA',hC',hv,hpl,hp,Hv hb i hi,fun hlt Hc sc=>?_,fun hle L Hc z1 z2 z3 sc=>?_⟩
   ·walk_at "z"
    refine dB (sc _ _ ho') fit ?_
    exact add none Hc sc (.inr hlt)
   ·walk_at "z"
    refine dB (sc _ _ ho') fit ?_
    exact add (some L) Hc sc ⟨hn,z1,z2,z3⟩
 rintro σ Ha ⟨sa,_,os,v5,v6,ho,hol,_,hok,rfl⟩
 rw[hlx]at hol
 walk_at "z"
 exact q lo Ha os f1 sa ho hol hok
theorem Bl:∀vs H Q E,og K vs H Q E->oA K {nx:=fun _ H'=>Q .non H',rt:=Q} (start ["offers","best","work","offer"] vs) H:=by
 rintro vs H Q E ⟨_,a,os,rfl,hA,hl,q⟩
 have hlo:(os.map oV).length=os.length:=Md _
 unfold oA
 walk_at "q"
 walk_at "z"
 walk_at "q"
 walk_at "z"
 try refine⟨a,rfl,⟨_,hA⟩,?_⟩
 refine jv (pF (xs:=os.map oV) 2 3) (fun i σ H'=>av H H'/\∃(k:Option Nat)(v2 v3:Option V),gK (os.take i) k/\σ=[some (.ref a),some (oV (k.map fun j:Nat=>(j:Int))),v2,v3]) ⟨av.refl _,none,_,_,EZ,rfl⟩ (fun i σ H' h=>h.1.seq hA) ?_ ?_
 ·rintro i σ Ha Hb hi ⟨sa,k,v2,v3,hk,rfl⟩ sb
  rw[hlo]at hi
  have hi':os[i]?=some os[i]:=by simp[hi]
  have e:(os.map oV).getD i .non=oV os[i]:=by simp[Mf,hi]
  have htk:=take_snoc hi'
  have htl:(os.take i).length=i:=by rw[MS];omega
  rw[e]
  have sab:=sa.trans sb
  show bU _ _ _ _ _ _
  cases ho:os[i]with
  |none=>
   rw[ho]at htk
   show bU _ _ _ _ [some (V.ref a),some (oV (k.map fun j:Nat=>(j:Int))),some (.int (i:Int)),some .non] _
   walk_at "z"
   refine uU rfl ?_
   walk_at "z"
   exact⟨sab,k,_,_,by rw[htk];exact De hk,rfl⟩
  |some M=>
   rw[ho]at htk
   cases k with
   |none=>
    show bU _ _ _ _ [some (V.ref a),some .non,some (.int (i:Int)),some (.int M)] _
    walk_at "z"
    refine k9 (by simp) ?_
    walk_at "z"
    refine gP rfl ?_
    walk_at "z"
    refine⟨sab,some i,_,_,?_,rfl⟩
    have:=AZ (M:=M) hk
    rw[htl]at this
    rw[htk]
    exact this
   |some j=>
    show bU _ _ _ _ [some (V.ref a),some (.int (j:Int)),some (.int (i:Int)),some (.int M)] _
    have hk':=hk
    obtain⟨L,hL,_⟩:=hk'
    have hLo:os[j]?=some (some L):=by
     have h:=hL
     rw[List.getElem?_take]at h
     split at h
     ·exact h
     ·cases h
    have hix:(os.map oV)[j]?=some (.int L):=by
     rw[MO,hLo]
     rfl
    walk_at "z"
    refine k9 (by simp) ?_
    walk_at "z"
    refine bN (by simp) ?_
    walk_at "z"
    refine bB (sab.seq hA) (az hix) ?_
    walk_at "z"
    refine gu (fun h=>?_) (fun h=>?_)
    ·walk_at "z"
     refine⟨sab,some i,_,_,?_,rfl⟩
     have:=DV hk hL h
     rw[htl]at this
     rw[htk]
     exact this
    ·walk_at "z"
     refine⟨sab,some j,_,_,?_,rfl⟩
     rw[htk]
     exact DX hk hL h
 rintro σ Ha ⟨sa,k,v2,v3,hk,rfl⟩
 rw[hlo,Q7]at hk
 walk_at "z"
 exact q k Ha hk sa
theorem DZ{ms:List Int}{ks:List Nat}(h:ms.Perm (ks.map fun k:Nat=>(k:Int))):∃ws:List Nat,ms=ws.map fun k:Nat=>(k:Int):=by
 exists ms.map OP
 rw[Mn]
 conv=>lhs;rw[<-List.map_id ms]
 refine OA fun x hx=>?_
 obtain⟨k,_,e⟩:=LY.mp (h.mem_iff.mp hx)
 rw[<-e]
 rfl
theorem zS:∀vs H Q E,lR K vs H Q E->ly K {nx:=fun _ H'=>Q .non H',rt:=Q} (start ["steps"] vs) H:=by
 rintro vs H Q E ⟨_,a,sts,rfl,hA,hl,hw,hn,q⟩
 obtain⟨ts,bs,B⟩:=hA.b
 have qA:aK K H a (ts.map V.ref):=(B.ys (av.refl _)).1
 unfold ly
 walk_at "z"
 refine cG (jC (ts:=ts) (u:=fun i=>.int ((sts.getD i stN).1:Nat)) (v:=fun i=>.int (sts.getD i stN).2.1) (w:=fun i=>.ref (bs.getD i 0)) 0 1 2) (fun j=>[some (.int ((sts.getD j stN).1:Nat)),some (.int (sts.getD j stN).2.1),some (.ref (bs.getD j 0))]) (by rintro j σ' (rfl|⟨k,rfl⟩)<;>rfl) (fun H' s=>B.ys s) (by rw[B.tl];exact Ma (show sts.length<=1000 by omega) bg) (fun j=>.int ((sts.getD j stN).1:Nat)) ?_ ?_
 ·intro j hj H' G s kk
  walk_at "z"
  exact kk H' (av.refl _)
 intro l H1 f1 s1 h1
 have e1:(Me ts.length).map (fun j=>V.int ((sts.getD j stN).1:Nat))=((sts.map (·.1)).map fun k:Nat=>(k:Int)).map V.int:=by
  rw[B.tl,bT (fun x:Nat×Int×List Int=>V.int ((x.1:Nat):Int)) stN sts,Mn,Mn]
  rfl
 rw[e1]at h1
 walk_at "z"
 refine⟨l,(sts.map (·.1)).map fun k:Nat=>(k:Int),rfl,aK.of h1,by simp;omega,fun p ms hp perm pw=>?_⟩
 have s2:=av.updN (o:=.lst (ms.map V.int)) hp
 have h2:(upd H1 p (.lst (ms.map V.int))) p=some (.lst (ms.map V.int)):=ao
 generalize upd H1 p (.lst (ms.map V.int))=H2 at *
 obtain⟨ws,rfl⟩:=DZ perm
 have hmem:∀k,k∈ws↔k∈sts.map (·.1):=fun k=>by
  rw[<-mn,perm.mem_iff,mn]
 have hnd:ws.Nodup:=by
  have h3:((sts.map (·.1)).map fun k:Nat=>(k:Int)).Nodup:=SU _ (fun x y hxy z=>hxy (by omega)) hn
  have h4:=(perm.nodup_iff).mpr h3
  exact Ug _ (fun x y hxy z=>hxy (by rw[z])) h4
 have hpw:ws.Pairwise (· < ·):=by
  have h5:ws.Pairwise (·<=·):=Ug _ (fun x y h=>by omega) pw
  exact U9 (fun x y h6 h7=>Nat.lt_of_le_of_ne h6 h7) h5 hnd
 exact q p H2 ws (s1.free hp) (s1.trans s2) h2 hpw hmem
theorem A7:∀vs H Q E,n9 K vs H Q E->oz K {nx:=fun _ H'=>Q .non H',rt:=Q} (start ["purses","level"] vs) H:=by
 rintro vs H Q E ⟨_,a,ps,lev,rfl,hS,hl,q⟩
 unfold oz
 walk_at "w"
 refine D8 (K:=K) (xs:=ps.map V.int) (fun x v=>∃p,x=.int p/\v=.int (min p lev)) [some (.int lev)] rfl hS (by rw[Md];exact Ma hl (by decide)) ?_ ?_
 ·intro x hx H' G s k
  obtain⟨p,_,rfl⟩:=F1 hx
  walk_at "w"
  exact k _ _ ⟨p,rfl,rfl⟩ (av.refl _)
 ·intro l ys H' h0 s h1 pr
  have e:=uD pr GV
  subst e
  refine q l H' h0 s ?_
  rw[h1,Mn]
  rfl
theorem uV:∀vs H Q E,il K vs H Q E->iN K {nx:=fun _ H'=>Q .non H',rt:=Q} (start ["purses","wishes","work","level","wanters"] vs) H:=by
 rintro vs H Q E ⟨_,a,b,ps,rows,k,L,rfl,hA,hB,hl,hl64,q⟩
 have hlp:((ps.map (min · L)).map V.int).length=ps.length:=by simp
 unfold iN
 walk_at "q"
 walk_at "z"
 refine⟨rfl,b,rows,(k:Int),rfl,hB,by omega,fun lw H1 f1 s1 h1=>?_⟩
 have hA1:=s1.seq hA
 walk_at "z"
 refine⟨rfl,a,ps,L,rfl,hA1,hl64,fun lq H2 f2 s2 h2=>?_⟩
 have q1:aK K H2 lw ((kg rows [(k:Int)]).map V.int):=aK.of (s2 _ _ h1)
 have q2:aK K H2 lq ((ps.map (min · L)).map V.int):=aK.of h2
 walk_at "z"
 try refine⟨lq,rfl,⟨_,q2⟩,?_⟩
 refine cG (pF (xs:=(ps.map (min · L)).map V.int) 0 1) (fun j=>[some (.int j),some (((ps.map (min · L)).map V.int).getD j .non),some (.ref lw)]) (by rintro j σ' (rfl|⟨k,rfl⟩)<;>rfl) (fun H' s=>s.seq q2) (by rw[hlp];exact Ma (show _<=1000 by omega) bg) (fun j=>.int (A0 (WR rows) (PF ps) k L j)) ?_ ?_
 ·intro j hj H' G s kk
  rw[hlp]at hj
  have e:((ps.map (min · L)).map V.int).getD j .non=.int (min (PF ps j) L):=by unfold PF;simp[Mf,hj]
  have q1':=s.seq q1
  rw[e]
  walk_at "z"
  unfold A0 at kk
  refine gu (fun h=>?_) (fun h=>?_)
  ·rw[if_pos (uM.mp h)]at kk
   walk_at "z"
   exact kk H' (av.refl _)
  ·rw[if_neg fun z=>h (uM.mpr z)]at kk
   walk_at "z"
   exact kk H' (av.refl _)
 ·intro l H' f s h
  rw[hlp]at h
  refine q l H' (s1.free (s2.free f)) (s1.trans (s2.trans s)) ?_
  rw[h]
  unfold nJ
  rw[Mn]
  rfl
theorem tE:∀vs H Q E,dG K vs H Q E->iK K {nx:=fun _ H'=>Q .non H',rt:=Q} (start ["purses","costs","wishes","steps","left","offers","work","level"] vs) H:=by
 rintro vs H Q E ⟨_,a,b,c,d,ps,cs,rows,sts,rfl,hA,hB,hC,hD,hl,hb,hv1,hv,hpl,hsl,hsw,hsn,hsp,hnn,qn,qs⟩
 have hll:(cI ps sts).length=ps.length:=by unfold cI;rw[Md,OT]
 unfold iK
 walk_at "q"
 walk_at "z"
 refine⟨rfl,a,d,ps,sts,rfl,hA,hD,by omega,hsl,hsp,fun l1 H1 f1 s1 h1=>?_⟩
 walk_at "z"
 walk_at "q"
 walk_at "z"
 refine⟨rfl,d,sts,rfl,ko s1 hD,hsl,hsw,hsn,fun l2 H2 ws f2 s2 h2 hpw hmem=>?_⟩
 walk_at "z"
 have s02:=s1.trans s2
 have hwl:ws.length<=12:=by
  have:=wJ (l:=ws) (m:=sts.map (·.1)) (P9 (fun h=>Ms h) hpw) fun x hx=>(hmem x).mp hx
  rw[Md]at this
  omega
 refine⟨rfl,l1,b,c,l2,cI ps sts,cs,rows,ws,rfl,aK.of (s2 _ _ h1),s02.seq hB,s02.rows hC,aK.of h2,hl,hb,hv1,hv,by rw[hll];exact hpl,hnn,hwl,fun l3 H3 os f3 s3 h3 hol hok=>?_⟩
 have s03:=s02.trans s3
 have h13:H3 l1=some (.lst ((cI ps sts).map V.int)):=s3 _ _ (s2 _ _ h1)
 walk_at "z"
 walk_at "q"
 walk_at "z"
 refine⟨rfl,l3,os,rfl,aK.of h3,by omega,fun k H4 hnx s4=>?_⟩
 have s04:=s03.trans s4
 walk_at "z"
 walk_at "q"
 cases k with
 |none=>
  show bU _ _ _ _ [some (V.ref a),some (.ref b),some (.ref c),some (.ref d),some (.ref l1),some (.ref l3),some .non,none] _
  walk_at "z"
  refine gP rfl ?_
  walk_at "z"
  refine qn (fun k hk hkn=>?_) H4 s04
  have hko:os[k]?=some os[k]:=by simp[hol,hk]
  have h5:=hok k os[k] hko
  rw[hnx os[k] (Nr hko)]at h5
  rcases h5 with z|z
  ·exact absurd ((hmem k).mp z) hkn
  ·exact z
 |some k=>
  have hnx':=hnx
  obtain⟨L,hkL,_⟩:=hnx'
  show bU _ _ _ _ [some (V.ref a),some (.ref b),some (.ref c),some (.ref d),some (.ref l1),some (.ref l3),some (.int (k:Int)),none] _
  walk_at "z"
  refine bN (by simp) ?_
  walk_at "z"
  walk_at "q"
  walk_at "z"
  have hix:(os.map oV)[k]?=some (.int L):=by
   rw[MO,hkL]
   rfl
  refine bB (aK.of (s4 _ _ h3)) (az hix) ?_
  walk_at "z"
  refine⟨rfl,l1,c,cI ps sts,rows,k,L,rfl,aK.of (s4 _ _ h13),s04.rows hC,by omega,by omega,fun lp H5 f5 s5 h5=>?_⟩
  walk_at "z"
  rename_i t H6 f6 s6 h6
  have N:=xP (T:=dc cs rows) hol hok (fun i _=>F4 hnn i) (Hv hb) hkL hnx
  exact qs k L (Ab (fun j=>(hmem j).symm) N) t lp H6 (s04.free (s5.free f6)) (s04.free f5) (s04.trans (s5.trans s6)) h6 (s6 _ _ h5)
theorem Dw:∀vs H Q E,qP K vs H Q E->qH K {nx:=fun _ H'=>Q .non H',rt:=Q} (start ["purses","costs","wishes","steps","step"] vs) H:=by
 rintro vs H Q E ⟨_,a,b,c,ps,cs,rows,rfl,hA,hB,hC,G,q⟩
 have h12:=G.c12
 unfold qH
 walk_at "q"
 walk_at "z"
 rename_i ls H1 f1 s1 h1
 have ask:∀(r:List (Nat×Int))(Ha:Hp)(R:VK),Pre cs rows ps r->av H Ha->iI H Ha ls (bQ rows ps r)->
   (∀(Hb:Hp)(v:V),av Ha Hb->((v=.non/\∀k,k<cs.length->k∉r.map (·.1)->F5 rows.length (WR rows) (PF (c8 rows ps r)) k<(dc cs rows).c k)\/∃(k:Nat)(L:Int)(t:LL),v=.ref t/\Nx (dc cs rows) (PF (c8 rows ps r)) (r.map (·.1)) k L/\t≠ls/\pC H Hb ls (k,L,nJ rows (c8 rows ps r) k L) t)->R v Hb)->
   dG K [.ref a,.ref b,.ref c,.ref ls] Ha R E0:=by
  intro r Ha R hr sa hst hR
  have hrl:=hr.len
  have hls:∃o,Ha ls=some o:=by
   obtain⟨ts,z,_⟩:=hst
   exact⟨_,z⟩
  obtain⟨o,ho⟩:=hls
  have e1:=yF rows ps r
  have e2:=zg rows ps r
  refine⟨rfl,a,b,c,ls,ps,cs,rows,bQ rows ps r,rfl,sa.seq hA,sa.seq hB,sa.rows hC,hst.at,h12,G.cb,G.v1,G.v20,G.pl,by rw[kI];omega,fun x hx=>?_,by rw[e2];exact hr.nd,lY rows ps r,by rw[e1];exact AD G.p0,fun h H' s'=>?_,fun k L n t b' H' ft fb s' ht hb'=>?_⟩
  ·have:x.1∈r.map (·.1):=by rw[<-e2];exact LY.mpr ⟨x,hx,rfl⟩
   obtain⟨y,hy,e⟩:=LY.mp this
   have:=hr.lt y hy
   omega
  ·rw[e1,e2]at h
   exact hR H' .non s' (.inl ⟨rfl,h⟩)
  ·rw[e1,e2]at n
   rw[e1]at hb'
   refine hR H' (.ref t) s' (.inr ⟨k,L,t,rfl,n,fun z=>?_,b',sa.free ft,sa.free fb,fun z=>?_,ht,hb'⟩)
   ·rw[z,ho]at ft
    cases ft
   ·rw[z,ho]at fb
    cases fb
 let St:List (Nat×Int)->V->Hp->Prop:=fun r v Hb=>(v=.non/\∀k,k<cs.length->k∉r.map (·.1)->F5 rows.length (WR rows) (PF (c8 rows ps r)) k<(dc cs rows).c k)\/∃(k:Nat)(L:Int)(t:LL),v=.ref t/\Nx (dc cs rows) (PF (c8 rows ps r)) (r.map (·.1)) k L/\t≠ls/\pC H Hb ls (k,L,nJ rows (c8 rows ps r) k L) t
 walk_at "q"
 walk_at "z"
 refine ask [] H1 _ (Ct cs rows ps) s1 ⟨[],h1,.nil⟩ fun H2 v s2 hv=>?_
 walk_at "z"
 walk_at "q"
 exists fun μ σ H'=>∃(r:List (Nat×Int))(v:V),σ=[some (.ref a),some (.ref b),some (.ref c),some (.ref ls),some v]/\Pre cs rows ps r/\av H H'/\iI H H' ls (bQ rows ps r)/\St r v H'/\μ=cs.length-r.length,⟨_,[],v,rfl,Ct cs rows ps,s1.trans s2,⟨[],s2 _ _ h1,.nil⟩,hv,rfl⟩
 rintro μ σ Ha ⟨r,v,rfl,hr,sa,hst,hv,rfl⟩
 rcases hv with⟨rfl,hstop⟩|⟨k,L,t,rfl,n,htl,b',z1,z2,z3,z4,z5⟩
 ·walk_at "z"
  refine uU rfl ?_
  walk_at "z"
  exact q ls Ha r f1 sa hst (Dh G (hr.stop hstop))
 ·walk_at "z"
  refine k9 (by simp) ?_
  have hr':=hr.snoc G.pl n
  have hlen:=hr'.len
  rw[MR]at hlen
  have hlen:r.length+1<=cs.length:=hlen
  exists fun σ' H'=>∃(v:V),σ'=[some (.ref a),some (.ref b),some (.ref c),some (.ref ls),some v]/\av H H'/\iI H H' ls (bQ rows ps (r++[(k,L)]))/\St (r++[(k,L)]) v H',?_
  ·rintro σ' H' ⟨v,rfl,s',hst',hv'⟩
   exact⟨_,(by rw[MR];show cs.length-(r.length+1)<cs.length-r.length;omega),r++[(k,L)],v,rfl,hr',s',hst',hv',rfl⟩
  obtain⟨ts,ht,hpt⟩:=hst
  have hpl:=Mr hpt
  rw[kI]at hpl
  walk_at "q"
  walk_at "z"
  exists y8 ht
  walk_at "z"
  refine dB ht (by rw[Md];exact MD (show ts.length<1000 by omega) bg) ?_
  have sb:av H (upd Ha ls (.lst (ts.map V.ref++[.ref t]))):=sa.upd f1
  have hst2:iI H (upd Ha ls (.lst (ts.map V.ref++[.ref t]))) ls (bQ rows ps (r++[(k,L)])):=by
   exists ts++[t],by rw[ao,MX];rfl
   rw[tH]
   refine tU (yq hpt ht) (.cons ⟨b',z1,z2,z3,by rw[aq htl];exact z4,by rw[aq z3];exact z5⟩ .nil)
  generalize upd Ha ls (.lst (ts.map V.ref++[.ref t]))=Hb at *
  walk_at "z"
  refine ask (r++[(k,L)]) Hb _ hr' sb hst2 fun H3 v s3 hv3=>?_
  walk_at "z"
  obtain⟨ts3,y1,y2⟩:=hst2
  exact⟨v,rfl,sb.trans s3,⟨ts3,s3 _ _ y1,Paired.mapP y2 fun _ _ ⟨b3,w1,w2,w3,w4,w5⟩=>⟨b3,w1,w2,w3,s3 _ _ w4,s3 _ _ w5⟩⟩,hv3⟩
theorem nt(C:jb K):∀vs H Q E,ee K vs H Q E->d9 K {nx:=fun _ H'=>Q .non H',rt:=Q} (start ["self","left","grains"] vs) H:=by
 rintro vs H Q E ⟨_,c,b,g,left,fp,s,rfl,⟨dx,d1,d2,w,wt,X,rfl⟩,hb,hg,hH,hll,hv,q⟩
 have hlm:(left.map V.int).length=left.length:=Md _
 unfold d9
 walk_at "q"
 walk_at "z"
 refine wX X.at_ C.aL C.cn eN ?_
 walk_at "z"
 try refine bA (aK.of hb) ?_
 refine cG (cR (K:=K) (xs:=left.map V.int) 0) (fun j=>[some ((left.map V.int).getD j .non),some (.int g)]) (by rintro j σ' (rfl|⟨k,rfl⟩)<;>rfl) (fun H' s=>s.seq (aK.of hb)) (by rw[hlm];exact Ma (show _<=1000 by omega) bg) (fun j=>.int (left.getD j 0%g)) ?_ ?_
 ·intro j hj H' G s' kk
  rw[hlm]at hj
  have e:(left.map V.int).getD j .non=.int (left.getD j 0):=by simp[Mf,hj]
  rw[e]
  walk_at "z"
  exact kk H' (av.refl _)
 intro l1 H1 f1 s1 h1
 rw[hlm]at h1
 have e1:(Me left.length).map (fun j=>V.int (left.getD j 0%g))=(left.map (· % g)).map V.int:=by
  rw[Mn];exact bT (fun x:Int=>V.int (x%g)) 0 left
 rw[e1]at h1
 have X1:=X.same s1
 have q1:aK K H1 l1 ((left.map (· % g)).map V.int):=aK.of h1
 walk_at "z"
 refine Ff hg hH ?_
 exists _,_,rfl,rfl,dx,_,X1.at_,(show 6<1000 by decide)
 rw[jd]
 have X2:=X1.setF (a:=s.pot+(left.map (· % g)).sum/g) (b:=s.giv) (e:=s.spt)
 have b2:bx [c,d1,d2,w] H1 (upd H1 c (.ins (ar K "Chest") dx (gG d1 d2 w (s.pot+(left.map (· % g)).sum/g) s.giv s.spt))):=bx.upd X1.at_ (by intro xs z;cases z) (by simp)
 have hb1:=s1 _ _ hb
 have hb2:upd H1 c (.ins (ar K "Chest") dx (gG d1 d2 w (s.pot+(left.map (· % g)).sum/g) s.giv s.spt)) b=some (.lst (left.map V.int)):=by rw[aq (aI hb1 X1.at_ (by simp))];exact hb1
 generalize upd H1 c (.ins (ar K "Chest") dx (gG d1 d2 w (s.pot+(left.map (· % g)).sum/g) s.giv s.spt))=H2 at *
 walk_at "z"
 unfold BK
 walk_at "z"
 refine b7 X2.at_ C.aL C.aR bY ?_
 walk_at "z"
 try refine bA (aK.of hb2) ?_
 refine cG (cR (K:=K) (xs:=left.map V.int) 0) (fun j=>[some ((left.map V.int).getD j .non),some (.int g)]) (by rintro j σ' (rfl|⟨k,rfl⟩)<;>rfl) (fun H' s=>s.seq (aK.of hb2)) (by rw[hlm];exact Ma (show _<=1000 by omega) bg) (fun j=>.int (left.getD j 0/g)) ?_ ?_
 ·intro j hj H' G s' kk
  rw[hlm]at hj
  have e:(left.map V.int).getD j .non=.int (left.getD j 0):=by simp[Mf,hj]
  rw[e]
  walk_at "z"
  refine Ff hg hH ?_
  exact kk H' (av.refl _)
 intro l3 H3 f3 s3 h3
 rw[hlm]at h3
 have e3:(Me left.length).map (fun j=>V.int (left.getD j 0/g))=(left.map (· / g)).map V.int:=by
  rw[Mn];exact bT (fun x:Int=>V.int (x/g)) 0 left
 rw[e3]at h3
 have X3:=X2.same s3
 walk_at "z"
 have eK:(ed s.ps).map (·.1)=(s.ps.map (·.1)).map NI:=by unfold ed;rw[Mn,Mn];rfl
 refine⟨d1,l3,_,_,rfl,X3.p1,aK.of h3,by rw[cL];simp;exact O4 hll.symm,by rw[cL];show s.ps.length<=1000;omega,?_,fun e f4=>?_⟩
 ·show((ed s.ps).map (·.1)).Nodup
  rw[eK]
  exact List.pairwise_map.mpr (P9 (fun h e=>h (by injection e)) X.nd)
 have eZ:zN (ed s.ps) ((left.map (· / g)).map V.int)=ed ((s.ps.map (·.1)).zip (left.map (· / g))):=by
  unfold zN ed
  apply O1 (by simp)
  intro i g1 g2
  simp
 rw[show zN (ed (bo.mk s.ps s.cs s.ws (s.pot+(left.map (· % g)).sum/g) s.giv s.spt).ps) ((left.map (· / g)).map V.int)=_ from eZ]
 have s4:av H3 (upd H3 e (.dK (ed ((s.ps.map (·.1)).zip (left.map (· / g)))))):=av.updN f4
 have h4:upd H3 e (.dK (ed ((s.ps.map (·.1)).zip (left.map (· / g))))) e=some (.dK (ed ((s.ps.map (·.1)).zip (left.map (· / g))))):=ao
 generalize upd H3 e (.dK (ed ((s.ps.map (·.1)).zip (left.map (· / g)))))=H4 at *
 have X4:=X3.same s4
 walk_at "z"
 refine lg X4.at_ C.aL C.aR (show 6<1000 by decide) ?_
 rw[xv]
 have nd:(((s.ps.map (·.1)).zip (left.map (· / g))).map (·.1)).Nodup:=by
  rw[Sl (by simp[hll])]
  exact X.nd
 have X5:=X4.setD h4 (du X3.p2 f4).symm nd
 refine q _ [c,e,d2,w] ⟨dx,e,d2,w,wt,X5,rfl⟩ (((((bx.of s1).trans b2).trans (bx.of s3)).trans (bx.of s4)).trans (bx.upd X4.at_ (by intro xs z;cases z) (by simp))) ?_
 intro a ha
 simp only[L9,NG,or_false]at ha
 rcases ha with rfl|rfl|rfl|rfl
 ·exact .inl (by simp)
 ·exact .inr (s1.free (b2.2.2 _ (s3.free f4)))
 ·exact .inl (by simp)
 ·exact .inl (by simp)
theorem kh(C:jb K):∀vs H Q E,di K vs H Q E->dj K {nx:=fun _ H'=>Q .non H',rt:=Q} (start ["self","voter"] vs) H:=by
 rintro vs H Q E ⟨_,c,dx,d1,d2,w,n,wt,s,rfl,hc,hd,hw,hp,an,ac,aw,hl,q⟩
 have n1:c≠d2:=aI hc hd (by simp)
 have n2:w≠d2:=aI hw hd (by simp)
 have hk:=cL s.cs
 unfold dj
 with_reducible refine Cf ?_
 refine Bw (d:=d2) (kvs:=ed s.cs) (fun k hk=>⟨_,rfl,b7 hc C.aL C.bK dy hk⟩) hd fun o Hf F=>?_
 refine xt F hd (FW 0 1 (fun i=>.str (s.cs.getD i ("",0)).1) ?_) (fun i=>[some (.int i),some (.str (s.cs.getD i ("",0)).1),some (.str n),some (.ref c)]) (by rintro j σ' (rfl|⟨k,rfl⟩)<;>rfl) (fun H' h _=>h) (by rw[hk];exact Ma (show _<=1000 by omega) bg)
  (fun i=>decide ((n,(s.cs.getD i ("",0)).1)∈s.ws)) (fun i=>.int i) ?_ ?_ ?_
 ·intro i p hp'
  have hi:i<s.cs.length:=by rw[<-hk];exact(Mx.mp hp').1
  rw[i5 (Mg hi)]at hp'
  cases hp'
  rw[MH,Mg hi]
  rfl
 ·intro i hi H' G sx kk
  rw[hk]at hi
  have ai:aY (s.cs.getD i ("",0)).1:=ac _ (getD_mem _ hi)
  walk_at "z"
  rename_i t H2 f2 s2 h2
  refine b7 (s2 _ _ (sx c _ n1 hc)) C.aL C.bP fR ?_
  refine A2 (p:=(n,(s.cs.getD i ("",0)).1)) h2 (s2 _ _ (sx w _ n2 hw)) (Paired.mapP hp fun _ a z=>s2 _ _ (sx a _ (aI z hd (by simp)) z)) an ai aw ?_
  rw[OW]
  walk_at "z"
  exact kk H2 s2
 ·intro i hi hb H' G sx kk
  walk_at "z"
  exact kk H' (av.refl _)
 intro l H2 f2 s2 h2
 rw[hk]at h2
 refine q l H2 f2 s2 ?_
 rw[h2]
 unfold intsOf zW
 rw[Mn]
 rfl
theorem ox(C:jb K):∀vs H Q E,eJ K vs H Q E->eM K {nx:=fun _ H'=>Q .non H',rt:=Q} (start ["self","place","paid","name","rows"] vs) H:=by
 rintro vs H Q E ⟨_,c,b,k,L,paid,fp,s,rfl,⟨dx,d1,d2,w,wt,X,rfl⟩,hk,hb,hpl,hv,hn,q⟩
 have hkp:=cL s.ps
 have hgd:s.cs.getD k ("",0)=s.cs[k]:=by rw[MH,Mg hk];rfl
 unfold eM
 walk_at "q"
 walk_at "z"
 refine b7 X.at_ C.aL C.bK dy ?_
 walk_at "z"
 refine⟨d2,_,rfl,X.p2,fun l0 f0=>?_⟩
 have s1:av H (upd H l0 (.lst ((ed s.cs).map fun p=>kV p.1))):=av.updN f0
 have h1:upd H l0 (.lst ((ed s.cs).map fun p=>kV p.1)) l0=some (.lst ((ed s.cs).map fun p=>kV p.1)):=ao
 generalize upd H l0 (.lst ((ed s.cs).map fun p=>kV p.1))=H1 at *
 walk_at "z"
 refine bB (aK.of h1) (v:=.str (s.cs.getD k ("",0)).1) (az (by rw[MO,i5 (Mg hk),hgd];rfl)) ?_
 walk_at "z"
 have X1:=X.same s1
 have hb1:=s1 _ _ hb
 walk_at "q"
 with_reducible refine CK ?_
 refine DO (K:=K) (d:=d1) (l:=b) (kvs:=ed s.ps) (ys:=paid.map V.int) ?_ X1.p1 (aK.of hb1) (aI X1.p1 hb1 (by simp)) fun o Hf F=>?_
 ·intro kk hkk
  walk_at "z"
  refine b7 X1.at_ C.aL C.aR bY ?_
  walk_at "z"
  exact hkk
 refine xg F X1.p1 (G0 (K:=K) (ys:=paid.map V.int) 0 1 (fun i=>.str (s.ps.getD i ("",0)).1) ?_ (by rw[hkp,Md,hpl];exact L0 _)) (fun i=>[some (.str (s.ps.getD i ("",0)).1),some ((paid.map V.int).getD i .non)]) (by rintro j σ' (rfl|⟨k,rfl⟩)<;>rfl)
  (fun H' h sx=>⟨h,aK.of (sx b _ (aI X1.p1 hb1 (by simp)).symm hb1)⟩) (by rw[hkp];exact Ma (show _<=1000 by omega) bg) (fun i=>decide (0<paid.getD i 0)) (fun i=>.tup [.str (s.ps.getD i ("",0)).1,.int (paid.getD i 0)]) ?_ ?_ ?_
 ·intro i p hp'
  have hi:i<s.ps.length:=by rw[<-hkp];exact(Mx.mp hp').1
  rw[i5 (Mg hi)]at hp'
  cases hp'
  rw[MH,Mg hi]
  rfl
 ·intro i hi H' G sx kk
  rw[hkp]at hi
  have e:(paid.map V.int).getD i .non=.int (paid.getD i 0):=by simp[Mf,show i<paid.length by omega]
  rw[e]
  walk_at "z"
  exact kk H' (av.refl _)
 ·intro i hi hb' H' G sx kk
  rw[hkp]at hi
  have e:(paid.map V.int).getD i .non=.int (paid.getD i 0):=by simp[Mf,show i<paid.length by omega]
  rw[e]
  walk_at "z"
  rename_i a H'' f s'' h
  exact kk a H'' f s'' h
 intro r bs H2 f2 s2 h2 pr
 rw[hkp]at pr
 have X2:=X1.same s2
 walk_at "z"
 refine b7 X2.at_ C.aL C.bK dy ?_
 walk_at "z"
 refine kA X2.p2 (v:=.int (s.cs.getD k ("",0)).2) (oF X.nd2 (getD_mem _ hk)) ?_
 walk_at "z"
 rename_i t H3 f3 s3 h3
 refine q t r H3 (s1.free (s2.free f3)) (s1.free f2) (fun e=>by rw[e,h2]at f3;cases f3) ((s1.trans s2).trans s3) h3 ⟨bs,s3 _ _ h2,?_⟩
 have e:(bX s (k,L,paid)).2.2=((Me s.ps.length).filter fun i=>decide (0<paid.getD i 0)).map fun i=>((s.ps.getD i ("",0)).1,paid.getD i 0):=by
  show((s.ps.map (·.1)).zip paid).filter (fun p=>decide (0<p.2))=_
  have hz:((s.ps.map (·.1)).zip paid)=(Me s.ps.length).map fun i=>((s.ps.getD i ("",0)).1,paid.getD i 0):=by
   apply O1 (by simp;omega)
   intro i g1 g2
   have gi:i<s.ps.length:=by simpa using g2
   simp[MH,gi,show i<paid.length by omega]
  rw[hz,Qx]
  rfl
 rw[e]
 exact eU (Paired.mapP pr fun i a z=>⟨s1.free z.1,s3 _ _ z.2.2⟩)
theorem uQ(C:jb K):∀vs H Q E,iF K vs H Q E->iA K {nx:=fun _ H'=>Q .non H',rt:=Q} (start ["self","grains","purses","wishes","steps","told","name","cost","rows"] vs) H:=by
 rintro vs H Q E ⟨_,c,fp,s,rfl,CH,G,qa,qb⟩
 obtain⟨dx,d1,d2,w,wt,X,rfl⟩:=id CH
 have hkp:=cL s.ps
 have hkc:=cL s.cs
 have hv:=G.v20
 have hn:=G.n12
 obtain⟨g0,gH⟩:=Hu ⟨hv,hn⟩
 unfold iA
 walk_at "q"
 walk_at "z"
 refine b7 X.at_ C.aL C.aR bY ?_
 exists d1,_,rfl,X.p1
 by_cases hp:s.ps=[]
 ·rw[show(!(ed s.ps).isEmpty)=false by rw[hp];rfl]
  walk_at "z"
  rename_i l H1 f1 s1 h1 t H2 f2 s2 h2
  exact qa (.inl hp) t l H2 (s1.free f2) f1 (fun e=>by rw[e,h1]at f2;cases f2) (s1.trans s2) h2 (s2 _ _ h1)
 have hpos:0<s.ps.length:=Pj.mpr hp
 have e:(!(ed s.ps).isEmpty)=true:=by
  cases hh:s.ps with
  |nil=>exact absurd hh hp
  |cons=>rfl
 rw[e]
 walk_at "z"
 refine b7 X.at_ C.aL C.bK dy ?_
 exists d2,_,rfl,X.p2
 by_cases hc:s.cs=[]
 ·rw[show(!(ed s.cs).isEmpty)=false by rw[hc];rfl]
  walk_at "z"
  rename_i l H1 f1 s1 h1 t H2 f2 s2 h2
  exact qa (.inr hc) t l H2 (s1.free f2) f1 (fun e=>by rw[e,h1]at f2;cases f2) (s1.trans s2) h2 (s2 _ _ h1)
 have e:(!(ed s.cs).isEmpty)=true:=by
  cases hh:s.cs with
  |nil=>exact absurd hh hc
  |cons=>rfl
 rw[e]
 have qb:=qb hp hc
 have GT:=G.town hp
 walk_at "z"
 walk_at "q"
 walk_at "z"
 refine b7 X.at_ C.aL C.aR bY ?_
 walk_at "z"
 refine u9 X.p1 ?_
 rw[hkp]
 walk_at "z"
 refine b7 X.at_ C.aL C.bK dy ?_
 walk_at "z"
 refine u9 X.p2 ?_
 rw[hkc]
 walk_at "z"
 exists rfl,s.ps.length,s.cs.length,rfl,hpos,hv,hn
 rw[show((ni s.ps.length ^ (s.cs.length+1):Nat):Int)=(qB s:Int)from rfl]
 walk_at "z"
 walk_at "q"
 with_reducible refine CK ?_
 refine C9 (d:=d1) (kvs:=ed s.ps) (fun k hk=>⟨_,rfl,b7 X.at_ C.aL C.aR bY hk⟩) X.p1 fun o Hf F=>?_
 refine xt F X.p1 (Gw 0 (fun i=>.int (s.ps.getD i ("",0)).2) ?_) (fun i=>[some (.int (s.ps.getD i ("",0)).2),some (.int (qB s:Int))]) (by rintro j σ' (rfl|⟨k,rfl⟩)<;>rfl) (fun H' h _=>h) (by rw[hkp];exact Ma (show _<=1000 by omega) bg)
  (fun _=>true) (fun i=>.int ((s.ps.getD i ("",0)).2*(qB s:Int))) (fun i hi H' G s k=>k H' (av.refl _)) ?_ ?_
 ·intro i p hp'
  have hi:i<s.ps.length:=by rw[<-hkp];exact(Mx.mp hp').1
  rw[i5 (Mg hi)]at hp'
  cases hp'
  rw[MH,Mg hi]
  rfl
 ·intro i hi hb H' F' sx kk
  rw[hkp]at hi
  have hpi:=G.p0 _ (getD_mem (xs:=s.ps) ("",0) hi)
  walk_at "z"
  try refine ym (by omega) (by omega) ?_
  exact kk H' (av.refl _)
 intro la H1 f1 s1 h1
 rw[Nu.mpr (fun _ _=>rfl),hkp]at h1
 have e1:(Me s.ps.length).map (fun i=>V.int ((s.ps.getD i ("",0)).2*(qB s:Int)))=(c5 s).map V.int:=by
  unfold c5
  rw[Mn]
  exact bT (fun p:LK×Int=>V.int (p.2*(qB s:Int))) ("",0) s.ps
 rw[e1]at h1
 have X1:=X.same s1
 walk_at "q"
 with_reducible refine CK ?_
 refine CW (d:=d1) (kvs:=ed s.ps) (fun k hk=>⟨_,rfl,b7 X1.at_ C.aL C.aR bY hk⟩) X1.p1 fun o Hf F=>?_
 refine xg F X1.p1 (Cc 0 (fun i=>.str (s.ps.getD i ("",0)).1) ?_) (fun i=>[some (.str (s.ps.getD i ("",0)).1),some (.ref c)]) (by rintro j σ' (rfl|⟨k,rfl⟩)<;>rfl) (fun H' h _=>h) (by rw[hkp];exact Ma (show _<=1000 by omega) bg)
  (fun _=>true) (fun i=>.lst ((intsOf (zW s (s.ps.getD i ("",0)).1)).map V.int)) (fun i hi H' G s k=>k H' (av.refl _)) ?_ ?_
 ·intro i p hp'
  have hi:i<s.ps.length:=by rw[<-hkp];exact(Mx.mp hp').1
  rw[i5 (Mg hi)]at hp'
  cases hp'
  rw[MH,Mg hi]
  rfl
 ·intro i hi hb H' F' sx kk
  rw[hkp]at hi
  have hpi:=G.ap _ (getD_mem (xs:=s.ps) ("",0) hi)
  have n1:c≠d1:=aI X1.at_ X1.p1 (by simp)
  have n2:w≠d1:=aI X1.w_ X1.p1 (by simp)
  walk_at "z"
  refine bW (sx c _ n1 X1.at_) (cD (by decide +kernel)) ?_
  walk_at "z"
  refine⟨rfl,c,dx,d1,d2,w,_,wt,s,rfl,sx c _ n1 X1.at_,sx d2 _ (Mm X.ne) X1.p2,sx w _ n2 X1.w_,Paired.mapP X1.wt fun _ a z=>sx a _ (aI z X1.p1 (by simp)) z,hpi,G.ac,G.aw,by omega,fun l' H2 f2 s2 h2=>?_⟩
  exact kk l' H2 f2 s2 h2
 intro lb bs H2 f2 s2 h2 pr
 rw[Nu.mpr (fun _ _=>rfl),hkp]at pr
 have X2:=X1.same s2
 have hR:gE K H2 lb (er s):=by
  exists bs,aK.of h2
  unfold er
  rw[<-bT (fun p:LK×Int=>intsOf (zW s p.1)) ("",0) s.ps]
  exact eU (Paired.mapP pr fun i a z=>aK.of z.2.2)
 walk_at "q"
 walk_at "z"
 refine b7 X2.at_ C.aL C.bK dy ?_
 refine Jr X2.p2 fun v H3 f3 s3 h3=>?_
 walk_at "z"
 refine⟨v,d2,_,rfl,h3,s3 _ _ X2.p2,fun lc f4=>?_⟩
 have e4:(ed s.cs).map (·.2)=(iZ s).map V.int:=by unfold ed iZ;rw[Mn,Mn];rfl
 rw[e4]
 have s4:av H3 (upd H3 lc (.lst ((iZ s).map V.int))):=av.updN f4
 have h4:upd H3 lc (.lst ((iZ s).map V.int)) lc=some (.lst ((iZ s).map V.int)):=ao
 generalize upd H3 lc (.lst ((iZ s).map V.int))=H4 at *
 have s24:=s3.trans s4
 walk_at "z"
 refine⟨rfl,la,lc,lb,c5 s,iZ s,er s,rfl,aK.of ((s2.trans s24) _ _ h1),aK.of h4,s24.rows hR,GT,fun ls H5 run f5 s5 n5 rx=>?_⟩
 have qb:=qb run
 have hst:=n5.at
 have hrw:=DE rx.run
 have hsl:(bQ (er s) (c5 s) run).length=run.length:=kI _ _ _
 have hs1:(bQ (er s) (c5 s) run).map (·.1)=run.map (·.1):=zg _ _ _
 have hcl:(iZ s).length=s.cs.length:=by simp[iZ]
 have hpl:(c5 s).length=s.ps.length:=by simp[c5]
 have hrn:run.length<=s.cs.length:=by
  have:=jH s.cs.length (run.map (·.1)) hrw.2 (fun x hx=>by
   obtain⟨y,hy,rfl⟩:=LY.mp hx
   have:=(hrw.1 y hy).1
   rw[<-hcl];exact this)
  simpa using this
 have hst1:∀x∈bQ (er s) (c5 s) run,x.1<s.cs.length/\x.2.2.length=s.ps.length:=fun x hx=>by
  refine⟨?_,by rw[lY _ _ _ x hx,hpl]⟩
  have hm:x.1∈run.map (·.1):=by rw[<-hs1];exact LY.mpr ⟨x,hx,rfl⟩
  obtain⟨y,hy,e⟩:=LY.mp hm
  have:=(hrw.1 y hy).1
  rw[<-e,<-hcl];exact this
 have hnd:((bQ (er s) (c5 s) run).map (·.1)).Nodup:=by rw[hs1];exact hrw.2
 generalize bQ (er s) (c5 s) run=sts at *
 have s25:=s24.trans s5
 have s15:=s2.trans s25
 have s05:=s1.trans s15
 have X5:=X2.same s25
 obtain⟨ts,bs',B⟩:=hst.b
 walk_at "z"
 walk_at "q"
 walk_at "z"
 try refine bA (B.ys (av.refl _)).1 ?_
 refine d6 (jC (K:=K) (a:=ls) (ts:=ts) (u:=fun i=>.int ((sts.getD i stN).1:Nat)) (v:=fun i=>.int (sts.getD i stN).2.1) (w:=fun i=>.ref (bs'.getD i 0)) 0 1 2) (fun j=>[some (.int ((sts.getD j stN).1:Nat)),some (.int (sts.getD j stN).2.1),some (.ref (bs'.getD j 0)),some (.ref c)]) (by rintro j σ' (rfl|⟨k,rfl⟩)<;>rfl) (fun H' s=>B.ys s) (by rw[B.tl];exact Ma (show sts.length<=1000 by omega) bg)
  (fun _=>true) (fun l i v H'=>∃t r us,v=V.ref t/\(t≠l/\r≠l/\H5 r=none)/\H' t=some (.tup [.str (bX s (sts.getD i stN)).1,.int (bX s (sts.getD i stN)).2.1,.ref r])/\H' r=some (.lst (NO V.ref us))/\L7 (fun p b=>b≠l/\Gd H' p b) (bX s (sts.getD i stN)).2.2 us)
  (fun l i v Ha Hb sx ⟨t,r,us,e,n,h1,h2,h3⟩=>⟨t,r,us,e,n,sx _ _ n.1 h1,sx _ _ n.2.1 h2,Paired.mapP h3 fun _ b z=>⟨z.1,sx _ _ z.1 z.2⟩⟩) (fun i hi H' G s k=>k H' (av.refl _)) ?_ ?_
 ·intro l i hi _ H' F' h0 ⟨o,ho⟩ sx kk
  rw[B.tl]at hi
  have X6:=X5.same sx
  have hm:=hst1 _ (getD_mem stN hi)
  obtain⟨t',b',a1,a2,_,a4⟩:=B.ats i sts[i] (by simp[hi])
  have g1:sts.getD i stN=sts[i]:=by simp[Mf,hi]
  have g2:bs'.getD i 0=b':=by rw[Mf,a2];rfl
  simp only[g1]at hm kk ⊢
  rw[g2]
  walk_at "z"
  refine bW X6.at_ (cD (by decide +kernel)) ?_
  walk_at "z"
  refine⟨rfl,c,b',_,(sts[i]).2.1,(sts[i]).2.2,_,s,rfl,⟨dx,d1,d2,w,wt,X6,rfl⟩,hm.1,sx _ _ a4,hm.2,hv,hn,fun t r H7 ft fr ntr s7 h7 hr=>?_⟩
  obtain⟨us,hr1,hr2⟩:=hr
  have nl:∀{a:LL},H' a=none->a≠l:=fun {a} ha e=>by rw[e,ho]at ha;cases ha
  exact kk _ H7 ⟨t,r,us,rfl,⟨nl ft,nl fr,sx.free fr⟩,h7,hr1,Paired.mapP hr2 fun _ b z=>⟨nl z.1,z.2⟩⟩ s7
 intro l ys H6 f6 s6 h6 pr6
 rw[Nu.mpr (fun _ _=>rfl),B.tl]at pr6
 obtain⟨tt,e6,p6,q6⟩:=pQ (P:=fun r=>r≠l/\H5 r=none) (f:=fun i=>bX s (sts.getD i stN)) (Paired.mapP pr6 fun i v ⟨t,r,us,e,n,h1,h2,h3⟩=>⟨t,r,e,n.2,h1,us,h2,Paired.mapP h3 fun _ _ z=>z.2⟩)
 rw[bT (bX s) stN sts]at p6
 subst e6
 have T6:pS H6 l tt (sts.map (bX s)):=⟨h6,p6⟩
 have s06:=s05.trans s6
 have X6:=X5.same s6
 have hl0:H l=none:=s05.free f6
 have hlfp:l∉[c,d1,d2,w]:=fun m=>(aN.there ⟨dx,d1,d2,w,wt,X,rfl⟩:∀a∈[c,d1,d2,w],H a≠none) l m hl0
 have hrfp:∀t∈tt,∀y z r,H6 t=some (.tup [y,z,.ref r])->r∉[c,d1,d2,w]:=fun t ht y z r e m=>(aN.there ⟨dx,d1,d2,w,wt,X,rfl⟩:∀a∈[c,d1,d2,w],H a≠none) r m (s05.free (q6 t ht y z r e).2)
 walk_at "z"
 walk_at "q"
 walk_at "z"
 refine bW X6.at_ (cD (by decide +kernel)) ?_
 walk_at "z"
 refine⟨rfl,la,ls,c5 s,sts,rfl,aK.of ((s15.trans s6) _ _ h1),ko s6 hst,by omega,by omega,fun x hx=>by rw[(hst1 x hx).2,hpl],fun ll H7 f7 s7 h7=>?_⟩
 have X7:=X6.same s7
 have s67:=s7
 walk_at "z"
 have hlo:(cI (c5 s) sts).length=s.ps.length:=by simp[cI,hpl]
 refine⟨rfl,c,ll,(qB s:Int),cI (c5 s) sts,_,s,rfl,⟨dx,d1,d2,w,wt,X7,rfl⟩,h7,g0,gH,hlo,hv,fun H8 fp8 x8 b8 n8=>?_⟩
 rw[<-BO]at x8
 walk_at "z"
 have b68:bx [c,d1,d2,w] H6 H8:=(bx.of s7).trans b8
 have n68:kS [c,d1,d2,w] fp8 H6:=fun a ha=>by
  rcases n8 a ha with z|z
  ·exact .inl z
  ·exact .inr (s7.free z)
 obtain⟨rs,hys⟩:=T6.ys (K:=K)
 generalize hLf:cI (c5 s) sts=left at *
 have htl:tt.length=sts.length:=by rw[<-Mr p6,Md]
 walk_at "q"
 walk_at "z"
 try refine bA (hys _ _ b68 hlfp).1 ?_
 refine jv (jC (K:=K) (a:=l) (ts:=tt) (u:=fun i=>.str ((sts.map (bX s)).getD i Jj).1) (v:=fun i=>.int ((sts.map (bX s)).getD i Jj).2.1) (w:=fun i=>.ref (rs.getD i 0)) 6 7 8)
  (fun i σ H'=>(∃fpi,aN K H' c fpi (cJ s left (qB s) ((sts.map (bX s)).take i))/\kS [c,d1,d2,w] fpi H6)/\bx [c,d1,d2,w] H6 H'/\∃v6 v7 v8,σ=[some (.ref c),some (.int (qB s:Int)),some (.ref la),some (.ref lb),some (.ref ls),some (.ref l),v6,v7,v8])
  ⟨⟨fp8,x8,n68⟩,b68,_,_,_,rfl⟩ (fun i σ H' p=>hys _ _ p.2.1 hlfp) ?_ ?_
 ·rintro i σ Ha Hb hi ⟨⟨fpi,xa,na⟩,ba,v6,v7,v8,rfl⟩ sb
  rw[htl]at hi
  have bb:bx [c,d1,d2,w] H6 Hb:=ba.trans (bx.of sb)
  have xb:=xa.same sb
  have hil:i<(sts.map (bX s)).length:=by rw[Md];exact hi
  have gi:(sts.map (bX s)).getD i Jj=bX s (sts.getD i stN):=by simp[Mf,hi]
  rw[gi]
  obtain⟨dx',a1,a2,a3,at',XX,efp⟩:=id xb
  show aF _ _ _ _ _
  walk_at "q"
  walk_at "z"
  refine wX XX.at_ C.aL C.iy wF ?_
  walk_at "z"
  exists _,_,rfl,rfl,dx',_,XX.at_,(show 6<1000 by decide)
  rw[C8]
  have XY:=XX.setF (a:=(cJ s left (qB s) ((sts.map (bX s)).take i)).pot) (b:=(cJ s left (qB s) ((sts.map (bX s)).take i)).giv) (e:=(cJ s left (qB s) ((sts.map (bX s)).take i)).spt+(bX s (sts.getD i stN)).2.1)
  have by':bx fpi Hb (upd Hb c (.ins (ar K "Chest") dx' (gG a1 a2 a3 (cJ s left (qB s) ((sts.map (bX s)).take i)).pot (cJ s left (qB s) ((sts.map (bX s)).take i)).giv ((cJ s left (qB s) ((sts.map (bX s)).take i)).spt+(bX s (sts.getD i stN)).2.1)))):=bx.upd XX.at_ (by intro xs z;cases z) (by rw[efp];simp)
  generalize upd Hb c (.ins (ar K "Chest") dx' (gG a1 a2 a3 (cJ s left (qB s) ((sts.map (bX s)).take i)).pot (cJ s left (qB s) ((sts.map (bX s)).take i)).giv ((cJ s left (qB s) ((sts.map (bX s)).take i)).spt+(bX s (sts.getD i stN)).2.1)))=Hc at *
  have hm:=hst1 _ (getD_mem stN hi)
  have hgd:s.cs.getD (sts.getD i stN).1 ("",0)∈s.cs:=getD_mem _ hm.1
  walk_at "z"
  refine bW XY.at_ (cD (by decide +kernel)) ?_
  walk_at "z"
  have hmemw:((bX s (sts.getD i stN)).1,(bX s (sts.getD i stN)).2.1)∈(cJ s left (qB s) ((sts.map (bX s)).take i)).cs:=by
   show _∈s.cs.filter _
   refine Mw.mpr ⟨hgd,?_⟩
   rw[decide_eq_true_eq]
   intro m
   rw[<-P8,Mn]at m
   obtain⟨x,hx,ex⟩:=LY.mp m
   obtain⟨j,hj,ej⟩:=NF hx
   have hj':j<i/\j<sts.length:=by rw[MS]at hj;omega
   rw[Ry]at ej
   have hmj:=hst1 x (PM hx)
   have ex:(s.cs.getD x.1 ("",0)).1=(s.cs.getD (sts.getD i stN).1 ("",0)).1:=ex
   have e1:=ES X.nd2 hmj.1 hm.1 ex
   have g1:sts.getD i stN=sts[i]:=by simp[Mf,hi]
   have:=Ni.mp hnd j i (by simp;omega) (by simp;omega) hj'.1
   simp only[QM]at this
   rw[ej,<-g1]at this
   exact this e1
  have hdw:(aW.withdraw (bX s (sts.getD i stN)).1).due {cJ s left (qB s) ((sts.map (bX s)).take i)with spt:=(cJ s left (qB s) ((sts.map (bX s)).take i)).spt+(bX s (sts.getD i stN)).2.1}=none:=by
   rw[aW.due,if_pos]
   exact LY.mpr ⟨_,hmemw,rfl⟩
  refine⟨rfl,c,(bX s (sts.getD i stN)).1,fpi,_,rfl,⟨dx',a1,a2,a3,at',XY,efp⟩,Ma (Oc _ _) (by have:=G.wl;omega),fun _ Hd fpd xd bd nd'=>?_,fun cl e=>by rw[hdw]at e;cases e⟩
  have et:(sts.map (bX s)).take (i+1)=(sts.map (bX s)).take i++[bX s (sts.getD i stN)]:=by
   rw[Oq,<-gi,MH,Mg hil]
   rfl
  walk_at "z"
  have bad:bx [c,d1,d2,w] H6 Hd:=by
   refine⟨fun a o n h=>?_,fun a xs h=>bd.2.1 _ _ (by'.2.1 _ _ (bb.2.1 _ _ h)),fun a h=>bb.2.2 _ (by'.2.2 _ (bd.2.2 _ h))⟩
   have n2:a∉fpi:=fun m=>by
    rcases na a m with z|z
    ·exact n z
    ·rw[h]at z;cases z
   exact bd.1 _ _ n2 (by'.1 _ _ n2 (bb.1 _ _ n h))
  refine⟨⟨fpd,?_,fun a ha=>?_⟩,bad,_,_,_,rfl⟩
  ·rw[et,zw]
   exact xd
  ·rcases nd' a ha with z|z
   ·exact na a z
   ·exact .inr (bb.2.2 _ (by'.2.2 _ z))
 ·rintro σ Ha ⟨⟨fpi,xa,na⟩,ba,v6,v7,v8,rfl⟩
  rw[htl,Nt (by simp)]at xa
  have tot:∀a∈fpi,a∈[c,d1,d2,w]\/H6 a=none:=na
  have n1:∀{a:LL}{o:HO},H a=none->H6 a=some o->a∉fpi:=fun {a o} h0 h1 m=>by
   rcases na a m with z|z
   ·exact(aN.there ⟨dx,d1,d2,w,wt,X,rfl⟩:∀a∈[c,d1,d2,w],H a≠none) a z h0
   ·rw[h1]at z;cases z
  walk_at "z"
  rename_i t H9 f9 s9 h9
  have T9:=T6.but (ba.trans (bx.of s9)) hlfp hrfp
  refine qb t l tt H9 fpi rx (((bx.of s06).trans ba).trans (bx.of s9)) (fun a ha=>?_) (xa.same s9) (s06.free (ba.2.2 _ f9)) hl0 (n1 hl0 h6) h9 T9 fun t' ht y z r e=>?_
  ·rcases na a ha with z|z
   ·exact .inl z
   ·exact .inr (s06.free z)
  ·have e6:=T6.tup (ba.trans (bx.of s9)) t' ht y z r e
   obtain⟨q1,q2⟩:=q6 t' ht y z r e6
   exists q1,s05.free q2
   obtain⟨o,ho⟩:∃o,H6 r=some o:=by
    have:∀{rows:List oX}{ts:List LL},L7 (Ij H6) rows ts->t'∈ts->∃o,H6 r=some o:=by
     intro rows ts hh hm
     induction hh with
     |nil=>cases hm
     |cons q _ ih=>
      rcases L9.mp hm with rfl|hm
      ·obtain⟨r',g1,us,g2,_⟩:=q
       rw[g1]at e6
       injection e6 with e6
       injection e6 with e6
       simp at e6
       rw[<-e6.2.2]
       exact⟨_,g2⟩
      ·exact ih hm
    exact this p6 ht
   exact n1 (s05.free q2) ho
theorem yh(C:jb K):∀vs H Q E,gT K vs H Q E->kF K {nx:=fun _ H'=>Q .non H',rt:=Q} (start ["self"] vs) H:=by
 rintro vs H Q E ⟨_,c,fp,s,rfl,⟨dx,d1,d2,w,wt,x,rfl⟩,q⟩
 unfold kF
 walk_at "z"
 exact b7 x.at_ C.aL C.cn eN q
theorem tM(C:jb K):∀vs H Q E,fJ K vs H Q E->iq K {nx:=fun _ H'=>Q .non H',rt:=Q} (start ["self"] vs) H:=by
 rintro vs H Q E ⟨_,c,fp,s,rfl,⟨dx,d1,d2,w,wt,x,rfl⟩,q⟩
 unfold iq
 walk_at "z"
 exact b7 x.at_ C.aL C.iy wF q
theorem p9(C:jb K):∀vs H Q E,fY K vs H Q E->fX K {nx:=fun _ H'=>Q .non H',rt:=Q} (start ["self","work"] vs) H:=by
 rintro vs H Q E ⟨_,c,dx,d1,d2,w,n,wt,s,rfl,hc,hd,hw,hp,an,ap,aw,hl,q⟩
 have n1:c≠d1:=aI hc hd (by simp)
 have n2:w≠d1:=aI hw hd (by simp)
 have hk:=cL s.ps
 unfold fX
 with_reducible refine Cf ?_
 refine Dg (d:=d1) (kvs:=ed s.ps) (fun k hk=>⟨_,rfl,b7 hc C.aL C.aR bY hk⟩) hd (by rw[hk];exact Ma (show _<=1000 by omega) bg) (fun i=>.str (s.ps.getD i ("",0)).1) ?_
  (fun i=>[some (.str (s.ps.getD i ("",0)).1),some (.str n),some (.ref c)]) (by rintro j σ' (rfl|⟨k,rfl⟩)<;>rfl) (fun i=>decide (((s.ps.getD i ("",0)).1,n)∈s.ws)) (fun i=>.str (s.ps.getD i ("",0)).1) ?_ ?_ ?_
 ·intro i p hp'
  have hi:i<s.ps.length:=by rw[<-hk];exact(Mx.mp hp').1
  rw[i5 (Mg hi)]at hp'
  cases hp'
  rw[MH,Mg hi]
  rfl
 ·intro i hi H' G sx kk
  rw[hk]at hi
  have ai:aY (s.ps.getD i ("",0)).1:=by
   rw[MH,Mg hi]
   exact ap _ (Na hi)
  walk_at "z"
  rename_i t H2 f2 s2 h2
  refine b7 (s2 _ _ (sx c _ n1 hc)) C.aL C.bP fR ?_
  refine A2 (p:=((s.ps.getD i ("",0)).1,n)) h2 (s2 _ _ (sx w _ n2 hw)) (Paired.mapP hp fun _ a z=>s2 _ _ (sx a _ (aI z hd (by simp)) z)) ai an aw ?_
  rw[OW]
  walk_at "z"
  exact kk H2 s2
 ·intro i hi hb H' G sx kk
  walk_at "z"
  exact kk H' (av.refl _)
 intro l H2 f2 s2 h2
 rw[hk,u5 s.ps (fun v=>decide ((v,n)∈s.ws))]at h2
 exact q l H2 f2 s2 h2
theorem tT(C:jb K):∀vs H Q E,dO K vs H Q E->iD K {nx:=fun _ H'=>Q .non H',rt:=Q} (start ["self"] vs) H:=by
 rintro vs H Q E ⟨_,c,fp,s,rfl,⟨dx,d1,d2,w,wt,X,rfl⟩,ap,ac,aw,hl,hlc,q⟩
 have n1:c≠d2:=aI X.at_ X.p2 (by simp)
 have n2:w≠d2:=aI X.w_ X.p2 (by simp)
 have hk:=cL s.cs
 unfold iD
 with_reducible refine Cf ?_
 refine z0 (d:=d2) (kvs:=ed s.cs) (fun k hk=>⟨_,rfl,b7 X.at_ C.aL C.bK dy hk⟩) X.p2 (by rw[hk];exact Ma (show _<=1000 by omega) bg) (fun i=>.str (s.cs.getD i ("",0)).1) (fun i=>.int (s.cs.getD i ("",0)).2) ?_
  (fun i=>[some (.str (s.cs.getD i ("",0)).1),some (.int (s.cs.getD i ("",0)).2),some (.ref c)]) (by rintro j σ' (rfl|⟨k,rfl⟩)<;>rfl)
  (fun l i v H'=>∃t w',v=V.ref t/\((w'≠l/\H w'=none)/\t≠l)/\H' t=some (.tup [.str (gO s (s.cs.getD i ("",0))).1,.int (gO s (s.cs.getD i ("",0))).2.1,.ref w'])/\H' w'=some (.lst ((gO s (s.cs.getD i ("",0))).2.2.map V.str)))
  (fun l i v H1 H2 sx ⟨t,w',e,⟨hw,ht⟩,h1,h2⟩=>⟨t,w',e,⟨hw,ht⟩,sx t _ ht h1,sx w' _ hw.1 h2⟩)
  (fun l i v H1 o hd ⟨t,w',e,hw,h1,h2⟩=>⟨t,w',e,hw,by rw[aq (aI h1 hd (by simp))];exact h1,by rw[aq (aI h2 hd (by simp))];exact h2⟩) ?_ ?_
 ·intro i p hp'
  have hi:i<s.cs.length:=by rw[<-hk];exact(Mx.mp hp').1
  rw[i5 (Mg hi)]at hp'
  cases hp'
  rw[MH,Mg hi]
  exact⟨rfl,rfl⟩
 ·intro l i hi H' G h0 ⟨o,ho⟩ ⟨od,hod⟩ sx kk
  rw[hk]at hi
  have ai:aY (s.cs.getD i ("",0)).1:=by
   rw[MH,Mg hi]
   exact ac _ (Na hi)
  walk_at "z"
  refine bW (sx c _ n1 X.at_) (cD (by decide +kernel)) ?_
  walk_at "z"
  refine⟨rfl,c,dx,d1,d2,w,_,wt,s,rfl,sx c _ n1 X.at_,sx d1 _ X.ne X.p1,sx w _ n2 X.w_,Paired.mapP X.wt fun _ a z=>sx a _ (aI z X.p2 (by simp)) z,ai,ap,aw,hl,fun l' H1 f1 s1 h1=>?_⟩
  walk_at "z"
  rename_i t H2 f2 s2 h2
  refine kk _ H2 ⟨t,l',rfl,⟨⟨fun e=>?_,?_⟩,fun e=>?_⟩,h2,s2 _ _ h1⟩ (s1.trans s2)
  ·rw[e,ho]at f1;cases f1
  ·cases z:H l' with
   |none=>rfl
   |some x=>
    by_cases e:l'=d2
    ·rw[e,hod]at f1;cases f1
    ·rw[sx l' _ e z]at f1;cases f1
  ·rw[e,s1 _ _ ho]at f2;cases f2
 intro l ys H2 f2 s2 h2 pr
 rw[hk]at pr
 obtain⟨ts,e,p2,q2⟩:=rB (P:=fun w'=>w'≠l/\H w'=none) (f:=fun i=>gO s (s.cs.getD i ("",0))) (Paired.mapP pr fun i v ⟨t,w',e,hw,h1,h2⟩=>⟨t,w',e,hw.1,h1,h2⟩)
 rw[bT (gO s) ("",0) s.cs]at p2
 exact q l ts H2 f2 s2 ⟨by rw[h2,e],p2⟩ q2
theorem xS:∀vs H Q E,j4 K vs H Q E->ki K {nx:=fun _ H'=>Q .non H',rt:=Q} (start ["chest","people","works","coins","name","coffer","work","cost","names"] vs) H:=by
 rintro vs H Q E ⟨_,c,lp,lw,ld,fp,s,rows,rfl,X0,X,dis,hws,hp0,q⟩
 have hsz:=size_eq
 have hle:=X.le
 have hlr:=X.lr
 have hrl:=X.rl
 obtain⟨m1,m2,m3⟩:=X.l_ne
 have f1:lp∈cN lp lw ld rows:=by simp[cN]
 have f2:lw∈cN lp lw ld rows:=by simp[cN]
 have f3:ld∈cN lp lw ld rows:=by simp[cN]
 obtain⟨dx,d1,d2,w,wt,XX,efp⟩:=id X0
 unfold ki
 with_reducible refine wK (fun σ H'=>∃fp1 ws,aN K H' c fp1 {s with ws:=ws}/\(∀p∈ws,p.1∈s.ps.map (·.1)/\p.2∈s.cs.map (·.1))/\ws.length<=60/\Mv fp fp1 H H'/\∃v4 v5 v6 v7 v8,σ=[some (.ref c),some (.ref lp),some (.ref lw),some (.ref ld),v4,v5,v6,v7,v8]) (fun F hF=>?_) ?_
 ·walk_at "z"
  refine bW XX.at_ (cD (by decide +kernel)) ?_
  walk_at "z"
  refine⟨rfl,c,fp,s,rfl,X0,fun l1 H1 g1 s1 r1=>?_⟩
  obtain⟨tp,p1,p2,p3⟩:=r1.at
  have l1n:l1∉fp:=fun m=>X0.there l1 m g1
  walk_at "z"
  try refine bA (aK.of p1) ?_
  refine jv (pB (K:=K) (a:=l1) (ts:=tp) (u:=fun i=>.str (s.ps.getD i ("",0)).1) (v:=fun i=>.int (s.ps.getD i ("",0)).2) 4 5) (fun i σ H'=>∃fp1 ws,aN K H' c fp1 {s with ws:=ws}/\(∀p∈ws,p.1∈s.ps.map (·.1)/\p.2∈s.cs.map (·.1))/\ws.length<=3*i/\Mv fp fp1 H1 H'/\l1∉fp1/\∃v4 v5 v6 v7 v8,σ=[some (.ref c),some (.ref lp),some (.ref lw),some (.ref ld),v4,v5,v6,v7,v8])
   ⟨fp,[],by rw[<-hws];exact X0.same s1,(by intro p h;cases h),MK _,Mv.same (av.refl _),l1n,_,_,_,_,_,rfl⟩ (fun i σ H' ⟨fp1,ws,_,_,_,mv,_,_⟩=>⟨aK.of (mv.1.1 _ _ l1n p1),fun i t ht=>by
    have hi:i<s.ps.length:=by rw[<-p2];exact(Mx.mp ht).1
    obtain⟨t',e1,e2⟩:=p3 i hi
    rw[ht]at e1
    cases e1
    exact gf.of (mv.1.2.1 _ _ e2)⟩) ?_ ?_
  ·rintro i σ Ha Hb hi ⟨fp1,ws,xa,aw,wl,mv,ln,v4,v5,v6,v7,v8,rfl⟩ sb
   rw[p2]at hi
   have xb:=xa.same sb
   obtain⟨dx',d1',d2',w',wt',XB,efp'⟩:=id xb
   have hpi:=getD_mem (xs:=s.ps) ("",0) hi
   have aw':∀{us:List (LK×LK)},(∀p∈us,p.1∈s.ps.map (·.1)/\p.2∈s.cs.map (·.1))->∀p∈us,aY p.1/\aY p.2:=fun {us} h p hp=>by
    obtain⟨h1,h2⟩:=h p hp
    obtain⟨a,ha,e⟩:=LY.mp h1
    obtain⟨b,hb,e'⟩:=LY.mp h2
    exact⟨by rw[<-e];exact X.ap a ha,by rw[<-e'];exact X.ac b hb⟩
   show k7 _ _ _ _ _ _
   walk_at "z"
   refine bW XB.at_ (cD (by decide +kernel)) ?_
   walk_at "z"
   refine⟨rfl,c,fp1,_,rfl,xb,X.ap,X.ac,aw' aw,by show s.ps.length<=1000;omega,by show s.cs.length<=1000;omega,fun l2 t2 H2 g2 s2 w2 _=>?_⟩
   obtain⟨b1,b2⟩:=w2.at
   have bl:t2.length=s.cs.length:=by rw[b1,Md]
   have q2:aK K H2 l2 (t2.map V.ref):=aK.of w2.1
   walk_at "z"
   rename_i l3 H3 g3 s3 h3
   have e3:ng (t2.map V.ref) none (some 3)=(t2.take 3).map V.ref:=by
    have:ng (t2.map V.ref) none (some ((3:Nat):Int))=(t2.map V.ref).take 3:=by
     unfold ng
     rw[HT.sP]
     have h0:HT.vC (t2.map V.ref).length 0 none=0:=rfl
     rw[h0,QK,T8]
     rcases SW 3 (t2.map V.ref).length with h|h
     ·rw[TZ h]
     ·rw[Sm h,Nt (L0 _),Nt h]
    exact this.trans (by rw[P8])
   rw[e3]at h3
   have hl3:(t2.take 3).length<=3:=by rw[MS];omega
   have l3n:l3∉fp1:=fun m=>(xb.same s2).there l3 m g3
   have pick:∀k:Nat,∃w0:LL,k<s.cs.length->∃t,t2[k]?=some t/\H3 t=some (.tup [.str (s.cs.getD k ("",0)).1,.int (s.cs.getD k ("",0)).2,.ref w0]):=fun k=>by
    by_cases hk:k<s.cs.length
    ·obtain⟨t,w0,e1,e2,e3⟩:=b2 k (by rw[Md];exact hk)
     rw[map_getD (gO _) ("",0) wN hk]at e2
     exact⟨w0,fun _=>⟨t,e1,s3 _ _ e2⟩⟩
    ·exact⟨0,fun h=>absurd h hk⟩
   obtain⟨wf,hwf⟩:=Rc pick
   have s23:=s2.trans s3
   try refine bA (aK.of h3) ?_
   refine jv (jC (K:=K) (a:=l3) (ts:=t2.take 3) (u:=fun k=>.str (s.cs.getD k ("",0)).1) (v:=fun k=>.int (s.cs.getD k ("",0)).2) (w:=fun k=>.ref (wf k)) 6 7 8) (fun k σ H'=>∃fp2 ws2,aN K H' c fp2 {s with ws:=ws2}/\(∀p∈ws2,p.1∈s.ps.map (·.1)/\p.2∈s.cs.map (·.1))/\ws2.length<=3*i+k/\Mv fp1 fp2 H3 H'/\∃v6 v7 v8,σ=[some (.ref c),some (.ref lp),some (.ref lw),some (.ref ld),some (.str (s.ps.getD i ("",0)).1),some (.int (s.ps.getD i ("",0)).2),v6,v7,v8])
    ⟨fp1,ws,(xb.same s23),aw,by omega,Mv.same (av.refl _),_,_,_,rfl⟩ (fun k σ H' ⟨fp2,ws2,_,_,_,mv2,_⟩=>⟨aK.of (mv2.1.1 _ _ l3n h3),fun k t ht=>by
     have hk:k<s.cs.length:=by
      have:=(Mx.mp ht).1
      rw[MS,bl]at this
      omega
     obtain⟨t',e1,e2⟩:=hwf k hk
     have ht':t2[k]?=some t:=by
      have hk3:k<3:=by have:=(Mx.mp ht).1;rw[MS]at this;omega
      rw[R3 hk3]at ht
      exact ht
     rw[ht']at e1
     cases e1
     exact gf.of (mv2.1.2.1 _ _ e2)⟩) ?_ ?_
   ·rintro k σ Hc Hd hk ⟨fp2,ws2,xc,aw2,wl2,mv2,v6,v7,v8,rfl⟩ sd
    have hk':k<s.cs.length/\k<3:=by rw[MS,bl]at hk;omega
    have hck:=getD_mem (xs:=s.cs) ("",0) hk'.1
    have xd:=xc.same sd
    obtain⟨dx4,d14,d24,w4,wt4,XD,efp4⟩:=id xd
    show bV _ _ _ _
    walk_at "z"
    refine bW XD.at_ (cD (by decide +kernel)) ?_
    walk_at "z"
    have hv:(s.ps.getD i ("",0)).1∈s.ps.map (·.1):=LY.mpr ⟨_,hpi,rfl⟩
    have hn:(s.cs.getD k ("",0)).1∈s.cs.map (·.1):=LY.mpr ⟨_,hck,rfl⟩
    have hdue:(aW.want (s.ps.getD i ("",0)).1 (s.cs.getD k ("",0)).1).due {s with ws:=ws2}=none:=by
     rw[aW.due,if_pos hv,if_pos hn]
    refine⟨rfl,c,_,_,fp2,_,rfl,xd,tR (X.nm _ hpi),tR (X.nn _ hck),aw' aw2,by show ws2.length<=900;omega,fun _ He fp3 xe be ne=>?_,fun cl e=>by rw[hdue]at e;cases e⟩
    rw[Ed]at xe
    walk_at "z"
    refine⟨fp3,uE ws2 _ _,xe,fun p hp=>?_,?_,(mv2.trans (Mv.same sd)).trans ⟨be,ne⟩,_,_,_,rfl⟩
    ·rcases DD.mp hp with h|h
     ·exact aw2 p h
     ·rw[h];exact⟨hv,hn⟩
    ·have:=DF ws2 (s.ps.getD i ("",0)).1 (s.cs.getD k ("",0)).1
     omega
   ·rintro σ Hc ⟨fp2,ws2,xc,aw2,wl2,mv2,v6,v7,v8,rfl⟩
    have mvf:=(mv.trans (Mv.same (sb.trans s23))).trans mv2
    exact⟨fp2,ws2,xc,aw2,by omega,mvf,mvf.out p1 l1n,_,_,_,_,_,rfl⟩
  ·rintro σ Ha ⟨fp1,ws,xa,aw,wl,mv,ln,v4,v5,v6,v7,v8,rfl⟩
   rw[p2]at wl
   exact hF _ _ ⟨fp1,ws,xa,aw,by omega,(Mv.same s1).trans mv,_,_,_,_,_,rfl⟩
 rintro σ H1 ⟨fp1,ws,x1,aw,wl,mv1,v4,v5,v6,v7,v8,rfl⟩
 have G1:CC {s with ws:=ws}:=by
  refine⟨X.le,X.lr,X.ap,X.ac,fun p hp=>?_,fun p hp=>?_,hp0,by show ws.length<=900;omega⟩
  ·obtain⟨h1,h2⟩:=aw p hp
   obtain⟨a,ha,e⟩:=LY.mp h1
   obtain⟨b,hb,e'⟩:=LY.mp h2
   exact⟨by rw[<-e];exact X.ap a ha,by rw[<-e'];exact X.ac b hb⟩
  ·have:=X.cb p hp
   omega
 with_reducible refine wK (fun σ H'=>∃fp2 s2,aN K H' c fp2 s2/\Mv fp1 fp2 H1 H'/\s2.ps.map (·.1)=s.ps.map (·.1)/\(∀p∈s2.cs,p∈s.cs)/\(∀p∈s2.ws,p.1∈s2.ps.map (·.1)/\p.2∈s2.cs.map (·.1))/\s2.ws.length<=60/\s2.giv=s.giv/\σ=[some (.ref c),some (.ref lp),some (.ref lw),some (.ref ld),v4,v5,v6,v7,v8]) (fun F hF=>?_) ?_
 ·obtain⟨dx4,d14,d24,w4,wt4,XD,efp4⟩:=id x1
  walk_at "z"
  refine bW XD.at_ (cD (by decide +kernel)) ?_
  walk_at "z"
  refine⟨rfl,c,fp1,_,rfl,x1,G1,fun he t l H' ft fl ntl s' h1 h2=>?_,fun hp hc run t l ts H' fp' rx b' n' x' ft fl nl h1 T own=>?_⟩
  ·walk_at "z"
   exact hF _ _ ⟨fp1,_,x1.same s',Mv.same s',rfl,fun p hp=>hp,aw,wl,rfl,rfl⟩
  ·walk_at "z"
   refine hF _ _ ⟨fp',Cb {s with ws:=ws} run,x',⟨b',n'⟩,pG,fun p hp=>(Mw.mp hp).1,fun p hp=>?_,Ma (Oc _ _) wl,rfl,rfl⟩
   obtain⟨h1,h2⟩:=Mw.mp hp
   obtain⟨g1,g2⟩:=aw p h1
   exists by rw[pG];exact g1
   obtain⟨pc,hpc,e⟩:=LY.mp g2
   refine LY.mpr ⟨pc,Mw.mpr ⟨hpc,?_⟩,e⟩
   rw[e];exact h2
 rintro σ H2 ⟨fp2,s2,x2,mv2,en,hcs,hws2,wl2,hgiv,rfl⟩
 have mv02:=mv1.trans mv2
 have keep:∀{a:LL}{o:HO},a∈cN lp lw ld rows->H a=some o->H2 a=some o/\a∉fp2:=fun {a o} ha h=>⟨mv02.1.1 _ _ (dis a ha) h,mv02.out h (dis a ha)⟩
 obtain⟨tp0,hlp0⟩:=X.hp.lst
 obtain⟨hlp2,lpn⟩:=keep f1 hlp0
 obtain⟨hlw2,lwn⟩:=keep f2 X.hw
 obtain⟨hld2,ldn⟩:=keep f3 X.hd
 obtain⟨dx2,d12,d22,w2,wt2,XX2,efp2⟩:=id x2
 have hle2:s2.ps.length<=20:=by have:=congrArg OQ en;simp at this;omega
 have hnd2:(s2.cs.map (·.1)).Nodup:=XX2.nd2
 have hlr2:s2.cs.length<=12:=by
  have h1:=ow hnd2 (ys:=s.cs.map (·.1)) fun z hz=>by
   obtain⟨p,hp,e⟩:=LY.mp hz
   exact LY.mpr ⟨p,hcs p hp,e⟩
  simp at h1
  omega
 have aP2:∀p∈s2.ps,eG p.1=true:=fun p hp=>by
  have:p.1∈s.ps.map (·.1):=by rw[<-en];exact LY.mpr ⟨p,hp,rfl⟩
  obtain⟨a,ha,e⟩:=LY.mp this
  rw[<-e];exact X.nm a ha
 have aC2:∀p∈s2.cs,eG p.1=true:=fun p hp=>X.nn p (hcs p hp)
 have aW2:∀p∈s2.ws,aY p.1/\aY p.2:=fun p hp=>by
  obtain⟨h1,h2⟩:=hws2 p hp
  obtain⟨a,ha,e⟩:=LY.mp h1
  obtain⟨b,hb,e'⟩:=LY.mp h2
  exact⟨by rw[<-e];exact gv (aP2 a ha),by rw[<-e'];exact gv (aC2 b hb)⟩
 walk_at "q"
 walk_at "z"
 exists y8 hlp2,lp,_,rfl,rfl,hlp2
 have b3:bx (cN lp lw ld rows) H2 (upd H2 lp (.lst [])):=bx.upd hlp2 (by intro xs z;cases z) f1
 have hlp3:upd H2 lp (.lst []) lp=some (.lst []):=ao
 have hlw3:upd H2 lp (.lst []) lw=some (.lst (rows.map fun r=>V.ref r.t)):=by rw[aq (Mm m1)];exact hlw2
 have hld3:upd H2 lp (.lst []) ld=some (.dK (hU s.pot s.giv s.spt)):=by rw[aq (Mm m2)];exact hld2
 have x3:=x2.but (bx.upd (l:=[lp]) (o':=.lst []) hlp2 (by intro xs z;cases z) (by simp)) (fun a ha m=>lpn (by rw[<-Mz.mp m];exact ha))
 generalize upd H2 lp (.lst [])=H3 at *
 obtain⟨dx3,d13,d23,w3,wt3,XX3,efp3⟩:=id x3
 walk_at "q"
 walk_at "z"
 exists y8 hlp3
 walk_at "z"
 refine bW XX3.at_ (cD (by decide +kernel)) ?_
 walk_at "z"
 refine⟨rfl,c,fp2,s2,rfl,x3,fun l4 H4 g4 s4 r4=>?_⟩
 obtain⟨tp4,a1,a2⟩:=id r4
 walk_at "z"
 exists lp,l4,[],tp4.map V.ref,rfl,rfl,s4 _ _ hlp3,a1,by rw[Md,<-Mr a2];simp;omega
 rw[SV]
 have b5:bx (cN lp lw ld rows) H4 (upd H4 lp (.lst (tp4.map V.ref))):=bx.upd (s4 _ _ hlp3) (by intro xs z;cases z) f1
 have r5:cq (upd H4 lp (.lst (tp4.map V.ref))) lp s2.ps:=⟨tp4,ao,Paired.mapP a2 fun p a z=>by
  unfold Gd at *
  rw[aq (aI z (s4 _ _ hlp3) (by simp))];exact z⟩
 have hlw5:upd H4 lp (.lst (tp4.map V.ref)) lw=some (.lst (rows.map fun r=>V.ref r.t)):=by rw[aq (Mm m1)];exact s4 _ _ hlw3
 have hld5:upd H4 lp (.lst (tp4.map V.ref)) ld=some (.dK (hU s.pot s.giv s.spt)):=by rw[aq (Mm m2)];exact s4 _ _ hld3
 have x5:=(x3.same s4).but (bx.upd (l:=[lp]) (o':=.lst (tp4.map V.ref)) (s4 _ _ hlp3) (by intro xs z;cases z) (by simp)) (fun a ha m=>lpn (by rw[<-Mz.mp m];exact ha))
 have b25:bx (cN lp lw ld rows) H2 (upd H4 lp (.lst (tp4.map V.ref))):=(b3.trans (bx.of s4)).trans b5
 generalize upd H4 lp (.lst (tp4.map V.ref))=H5 at *
 walk_at "q"
 walk_at "z"
 exists y8 hlw5,lw,_,rfl,rfl,hlw5
 have b6:bx (cN lp lw ld rows) H5 (upd H5 lw (.lst [])):=bx.upd hlw5 (by intro xs z;cases z) f2
 have hlw6:upd H5 lw (.lst []) lw=some (.lst []):=ao
 have bw6:bx [lw] H5 (upd H5 lw (.lst [])):=bx.upd hlw5 (by intro xs z;cases z) (by simp)
 have r6:=r5.but bw6 (by simpa using m1)
 have hld6:=bw6.1 _ _ (by simpa using Mm m3) hld5
 have x6:=x5.but bw6 (fun a ha m=>lwn (by rw[<-Mz.mp m];exact ha))
 generalize upd H5 lw (.lst [])=H6 at *
 obtain⟨dx6,d16,d26,w6,wt6,XX6,efp6⟩:=id x6
 walk_at "q"
 walk_at "z"
 exists y8 hlw6
 walk_at "z"
 refine bW XX6.at_ (cD (by decide +kernel)) ?_
 walk_at "z"
 refine⟨rfl,c,fp2,s2,rfl,x6,fun p hp=>gv (aP2 p hp),fun p hp=>gv (aC2 p hp),aW2,by omega,by omega,fun l7 t7 H7 g7 s7 w7 _=>?_⟩
 obtain⟨c1,c2⟩:=w7.at
 have cl7:t7.length=s2.cs.length:=by rw[c1,Md]
 have q7:aK K H7 l7 (t7.map V.ref):=aK.of w7.1
 have pick:∀k:Nat,∃w0:LL,k<s2.cs.length->∃t,t7[k]?=some t/\H7 t=some (.tup [.str (s2.cs.getD k ("",0)).1,.int (s2.cs.getD k ("",0)).2,.ref w0])/\H7 w0=some (.lst ((gO s2 (s2.cs.getD k ("",0))).2.2.map V.str)):=fun k=>by
  by_cases hk:k<s2.cs.length
  ·obtain⟨t,w0,e1,e2,e3⟩:=c2 k (by rw[Md];exact hk)
   rw[map_getD (gO _) ("",0) wN hk]at e2 e3
   exact⟨w0,fun _=>⟨t,e1,e2,e3⟩⟩
  ·exact⟨0,fun h=>absurd h hk⟩
 obtain⟨wf,hwf⟩:=Rc pick
 walk_at "z"
 try refine bA q7 ?_
 refine Eh (jC (K:=K) (a:=l7) (ts:=t7) (u:=fun k=>.str (s2.cs.getD k ("",0)).1) (v:=fun k=>.int (s2.cs.getD k ("",0)).2) (w:=fun k=>.ref (wf k)) 0 1 2) (fun k=>[some (.str (s2.cs.getD k ("",0)).1),some (.int (s2.cs.getD k ("",0)).2),some (.ref (wf k))]) (by rintro k σ' (rfl|⟨k,rfl⟩)<;>rfl) (fun H' s'=>⟨s'.seq q7,fun k t ht=>by
   have hk:k<s2.cs.length:=by rw[<-cl7];exact(Mx.mp ht).1
   obtain⟨t',e1,e2,_⟩:=hwf k hk
   rw[ht]at e1
   cases e1
   exact gf.of (s' _ _ e2)⟩) (by rw[cl7];exact Ma (show _<=1000 by omega) bg)
  (fun l k ys H'=>∃rs:List j3,ys=rs.map (fun r=>V.ref r.t)/\(rs.map fun r=>(r.n,r.x,r.zs))=((s2.cs.take k).map (gO s2))/\(∀r∈rs,r.at H'/\r.w≠l/\r.t≠l/\H7 r.w=none)/\(rs.map fun r:j3=>r.w).Nodup)
  (fun l H' _ _=>⟨[],rfl,rfl,(by intro r hr;cases hr),N6⟩)
  (fun l k ys Ha Hb sx ⟨rs,e1,e2,e3,e4⟩=>⟨rs,e1,e2,fun r hr=>⟨⟨sx _ _ (e3 r hr).2.2.1 (e3 r hr).1.1,sx _ _ (e3 r hr).2.1 (e3 r hr).1.2⟩,(e3 r hr).2⟩,e4⟩) ?_ ?_
 ·intro l k ys hk H' G h0 ⟨o,ho⟩ s' ⟨rs,e1',e2',e3',e4'⟩ kk
  rw[cl7]at hk
  obtain⟨t',e1,e2,e3⟩:=hwf k hk
  have q8:aK K H' (wf k) ((gO s2 (s2.cs.getD k ("",0))).2.2.map V.str):=aK.of (s' _ _ e3)
  walk_at "z"
  rename_i w9 Ha ga sa ha t9 Hb gb sb hb
  have nl:∀{y:LL},H' y=none->y≠l:=fun {y} hy e=>by rw[e,ho]at hy;cases hy
  refine kk _ Hb ⟨rs++[(⟨t9,w9,(s2.cs.getD k ("",0)).1,(s2.cs.getD k ("",0)).2,(gO s2 (s2.cs.getD k ("",0))).2.2⟩:j3)],by rw[e1'];simp,?_,fun r hr=>?_,?_⟩ (sa.trans sb)
  ·rw[MX,e2',Oq,Mg hk,MX]
   have eg:s2.cs.getD k ("",0)=s2.cs[k]:=by simp[Mf,hk]
   rw[eg]
   rfl
  ·rcases Mp.mp hr with h|h
   ·obtain⟨z1,z2⟩:=e3' r h
    exact⟨⟨(sa.trans sb) _ _ z1.1,(sa.trans sb) _ _ z1.2⟩,z2⟩
   ·rw[Mz.mp h]
    exact⟨⟨hb,sb _ _ ha⟩,nl ga,nl (sa.free gb),s'.free ga⟩
  ·rw[MX]
   refine jc e4' fun m=>?_
   obtain⟨r,hr,e⟩:=LY.mp m
   have:=(e3' r hr).1.2
   rw[e,ga]at this
   cases this
 intro l8 ys H8 g8 s8 h8 ⟨rs,er1,er2,er3,er4⟩
 rw[cl7,Nt (L0 _)]at er2
 rw[er1]at h8
 have s68:=s7.trans s8
 have hlw8:=s68 _ _ hlw6
 have hrsl:rs.length=s2.cs.length:=by have:=congrArg OQ er2;simpa using this
 walk_at "z"
 exists lw,l8,[],rs.map (fun r=>V.ref r.t),rfl,rfl,hlw8,h8,by rw[Md];simp;omega
 rw[SV]
 have bw9:bx [lw] H8 (upd H8 lw (.lst (rs.map fun r=>V.ref r.t))):=bx.upd hlw8 (by intro xs z;cases z) (by simp)
 have hlw9:upd H8 lw (.lst (rs.map fun r=>V.ref r.t)) lw=some (.lst (rs.map fun r=>V.ref r.t)):=ao
 generalize upd H8 lw (.lst (rs.map fun r=>V.ref r.t))=H9 at *
 have wfree:∀r∈rs,H2 r.w=none:=fun r hr=>by
  have h1:=s7.free (er3 r hr).2.2.2
  exact b25.2.2 _ (b6.2.2 _ h1)
 have wne:∀r∈rs,∀{a:LL}{o:HO},H2 a=some o->r.w≠a:=fun r hr {a o} h e=>by
  have:=wfree r hr
  rw[e,h]at this
  cases this
 have r9:=(r6.same s68).but bw9 (by simpa using m1)
 have hld9:=bw9.1 _ _ (by simpa using Mm m3) (s68 _ _ hld6)
 have x9:=(x6.same s68).but bw9 (fun a ha m=>lwn (by rw[<-Mz.mp m];exact ha))
 have hr9:∀r∈rs,r.at H9:=fun r hr=>⟨bw9.2.1 _ _ (er3 r hr).1.1,bw9.1 _ _ (by simpa using wne r hr hlw2) (er3 r hr).1.2⟩
 obtain⟨dx9,d19,d29,w9,wt9,XX9,efp9⟩:=id x9
 walk_at "q"
 walk_at "z"
 refine bW XX9.at_ (cD (by decide +kernel)) ?_
 walk_at "z"
 exists rfl,c,fp2,s2,rfl,x9
 walk_at "z"
 refine lD hld9 qz ?_
 rw[yo]
 have b10:bx [ld] H9 (upd H9 ld (.dK (hU s2.pot s.giv s.spt))):=bx.upd hld9 (by intro xs z;cases z) (by simp)
 have hld10:upd H9 ld (.dK (hU s2.pot s.giv s.spt)) ld=some (.dK (hU s2.pot s.giv s.spt)):=ao
 generalize upd H9 ld (.dK (hU s2.pot s.giv s.spt))=H10 at *
 have x10:=x9.but b10 (fun a ha m=>ldn (by rw[<-Mz.mp m];exact ha))
 obtain⟨dx10,d110,d210,w10,wt10,XX10,efp10⟩:=id x10
 walk_at "z"
 refine bW XX10.at_ (cD (by decide +kernel)) ?_
 walk_at "z"
 exists rfl,c,fp2,s2,rfl,x10
 walk_at "z"
 refine lD hld10 qz ?_
 rw[FT]
 have b11:bx [ld] H10 (upd H10 ld (.dK (hU s2.pot s.giv s2.spt))):=bx.upd hld10 (by intro xs z;cases z) (by simp)
 have hld11:upd H10 ld (.dK (hU s2.pot s.giv s2.spt)) ld=some (.dK (hU s2.pot s.giv s2.spt)):=ao
 generalize upd H10 ld (.dK (hU s2.pot s.giv s2.spt))=H11 at *
 have x11:=x10.but b11 (fun a ha m=>ldn (by rw[<-Mz.mp m];exact ha))
 have b911:=b10.trans b11
 have wld:∀r∈rs,r.w∉[ld]:=fun r hr=>by simpa using wne r hr hld2
 have hec:s2.cs=rs.map fun r=>(r.n,r.x):=by
  have:=congrArg (NO fun q:LK×Int×List LK=>(q.1,q.2.1)) er2
  rw[Mn,Mn]at this
  have e:(NO ((fun q:LK×Int×List LK=>(q.1,q.2.1)) ∘ gO s2) s2.cs)=s2.cs:=(OA fun p _=>rfl).trans (SR _)
  rw[e]at this
  exact this.symm
 have hzs:∀r∈rs,r.zs=(s2.ps.map (·.1)).filter fun v=>decide ((v,r.n)∈s2.ws):=fun r hr=>by
  have h1:(r.n,r.x,r.zs)∈s2.cs.map (gO s2):=by rw[<-er2];exact LY.mpr ⟨r,hr,rfl⟩
  obtain⟨p,hp,e⟩:=LY.mp h1
  have e1:p.1=r.n:=congrArg S7 e
  have e2:(s2.ps.map (·.1)).filter (fun v=>decide ((v,p.1)∈s2.ws))=r.zs:=congrArg (fun q:LK×Int×List LK=>q.2.2) e
  rw[e1]at e2
  exact e2.symm
 have R9:eV H11 lp lw ld s2 rs:=by
  refine⟨r9.but b911 (by simpa using m2),b911.1 _ _ (by simpa using m3) hlw9,fun r hr=>⟨b911.2.1 _ _ (hr9 r hr).1,b911.1 _ _ (wld r hr) (hr9 r hr).2⟩,by rw[hgiv];exact hld11,?_,hec,fun v n=>?_,fun r hr=>?_,XX2.nd,hnd2,aP2,aC2,hle2,hlr2,fun p hp=>X.cb p (hcs p hp)⟩
  ·have hw':∀{a:LL}{o:HO},H2 a=some o->a∉rs.map (·.w):=fun {a o} h m=>by
    obtain⟨r,hr,e⟩:=LY.mp m
    exact wne r hr h e
   unfold cN
   refine MJ.mpr ⟨?_,MJ.mpr ⟨?_,MJ.mpr ⟨hw' hld2,er4⟩⟩⟩
   ·simp only[L9,not_or]
    exact⟨m1,m2,hw' hlp2⟩
   ·simp only[L9,not_or]
    exact⟨m3,hw' hlw2⟩
  ·constructor
   ·intro h
    obtain⟨h1,h2⟩:=hws2 _ h
    rw[hec,Mn]at h2
    obtain⟨r,hr,e⟩:=LY.mp h2
    have e:r.n=n:=e
    exists r,hr,e
    rw[hzs r hr,e]
    exact Mw.mpr ⟨h1,decide_eq_true h⟩
   ·rintro⟨r,hr,rfl,hv⟩
    rw[hzs r hr]at hv
    exact of_decide_eq_true (Mw.mp hv).2
  ·rw[hzs r hr]
   exact⟨ON _ XX2.nd,fun z hz=>(Mw.mp hz).1⟩
 have b2f:bx (cN lp lw ld rows) H2 H11:=(((b25.trans b6).trans (bx.of s68)).trans (bw9.mono (by intro a ha;rw[Mz.mp ha];exact f2))).trans (b911.mono (by intro a ha;rw[Mz.mp ha];exact f3))
 refine q H11 fp2 s2 rs x11 R9 (by omega) ⟨⟨fun a o n h=>?_,fun a xs h=>b2f.2.1 _ _ (mv02.1.2.1 _ _ h),fun a h=>mv02.1.2.2 _ (b2f.2.2 _ h)⟩,fun a ha=>?_⟩ fun a ha m=>?_
 ·exact b2f.1 _ _ (fun m=>n (Mp.mpr (.inl m))) (mv02.1.1 _ _ (fun m=>n (Mp.mpr (.inr m))) h)
 ·rcases Mp.mp ha with h|h
  ·unfold cN at h
   simp only[L9]at h
   rcases h with rfl|rfl|rfl|h
   ·exact .inl (Mp.mpr (.inl f1))
   ·exact .inl (Mp.mpr (.inl f2))
   ·exact .inl (Mp.mpr (.inl f3))
   ·obtain⟨r,hr,rfl⟩:=LY.mp h
    exact .inr (mv02.1.2.2 _ (wfree r hr))
  ·rcases mv02.2 a h with z|z
   ·exact .inl (Mp.mpr (.inr z))
   ·exact .inr z
 ·unfold cN at ha
  simp only[L9]at ha
  rcases ha with rfl|rfl|rfl|h
  ·exact lpn m
  ·exact lwn m
  ·exact ldn m
  ·obtain⟨r,hr,rfl⟩:=LY.mp h
   exact x2.there _ m (wfree r hr)
theorem we:∀vs H Q E,gk K vs H Q E->ju K {nx:=fun _ H'=>Q .non H',rt:=Q} (start ["cell","many","spins","k","turn"] vs) H:=by
 rintro vs H Q E ⟨_,c,m,rfl,hm,q⟩
 unfold ju
 walk_at "q"
 walk_at "z"
 rename_i l H1 f1 s1 h1
 walk_at "q"
 walk_at "z"
 have en:((m:Int)).toNat=m:=by omega
 rw[en]
 refine mJ (lo:=0) (n:=m) (fun i σ H'=>av H H'/\∃(v3 v4:Option V),H' l=some (.lst ((ie c i).map V.int))/\σ=[some (.int c),some (.int m),some (.ref l),v3,v4]) ⟨s1,_,_,h1,rfl⟩ ?_ ?_
 ·rintro i σ H2 hi ⟨s2,v3,v4,h2,rfl⟩
  have fit:((ie c i).map V.int).length<LW:=by rw[Md,xq];exact MD (show i<1000 by omega) bg
  show aF _ _ _ _ _
  walk_at "q"
  walk_at "z"
  have t0:0<=c%900900929+2503*(0+(i:Int))+77:=by omega
  have t1:c%900900929+2503*(0+(i:Int))+77<=1000000000:=by omega
  have et:c%900900929+2503*(0+(i:Int))+77=c%900900929+2503*(i:Int)+77:=by omega
  have e:(c%900900929+2503*(0+(i:Int))+77)*(c%900900929+2503*(0+(i:Int))+77)*(c%900900929+2503*(0+(i:Int))+77+31*(0+(i:Int)))/13%700700003=dY c i:=by
   unfold dY
   rw[et,show(0+(i:Int))=(i:Int) by omega]
  generalize c%900900929+2503*(0+(i:Int))+77=t at *
  walk_at "z"
  exists y8 h2
  walk_at "z"
  refine dB h2 fit ?_
  rw[e]
  refine⟨s2.upd f1,_,_,?_,rfl⟩
  rw[ao]
  unfold ie
  rw[Oo]
  simp
 ·rintro σ Ha ⟨sa,v3,v4,h2,rfl⟩
  walk_at "z"
  exact q l Ha f1 sa h2
theorem join_ones:∀(cs:List Nat),(OV ("":LK) (cs.map fun c=>⟨#[c]⟩)).cps.toList=cs:=by
 rw[Hl]
 intro cs
 induction cs with
 |nil=>rfl
 |cons a r ih=>
  cases r with
  |nil=>rfl
  |cons b t=>
   show(((⟨#[a]⟩:LK)++(⟨#[]⟩:LK)++OV ⟨#[]⟩ ((b::t).map fun c=>(⟨#[c]⟩:LK))).cps).toList=_
   rw[QR,QR,Sk,Sk,ih]
   simp
theorem xM:∀vs H Q E,cU K vs H Q E->jV K {nx:=fun _ H'=>Q .non H',rt:=Q} (start ["cell","k","letters","xs","word","at"] vs) H:=by
 rintro vs H Q E ⟨_,c,k,rfl,hk,q⟩
 have hL:("abcdefghijklmnopqrstuvwxyz":LK).length=26:=by decide +kernel
 have hla:=Iz
 unfold jV
 walk_at "q"
 walk_at "z"
 generalize ("abcdefghijklmnopqrstuvwxyz":LK)=letters at *
 have hix:∀(x:Int)(H':Hp)(Q':VK),Q' (.str ⟨#[kZ x]⟩) H'->Al (.str letters) (.int (x%26)) H' Q':=fun x H' Q' z=>⟨letters,_,kZ x,rfl,rfl,by rw[size_eq];omega,hla x,z⟩
 walk_at "q"
 walk_at "z"
 refine⟨rfl,c,9,rfl,by decide,fun l H1 f1 s1 h1=>?_⟩
 have q1:aK K H1 l ((ie c 9).map V.int):=aK.of h1
 walk_at "z"
 walk_at "q"
 walk_at "z"
 rename_i p2 H2 f2 s2 h2
 have e2:ng ((ie c 9).map V.int) none (some 7)=((Me 7).map (dY c)).map V.int:=by
  have:ng ((ie c 9).map V.int) none (some ((7:Nat):Int))=((ie c 9).take 7).map V.int:=FA _ _
  refine QQ this ?_
  congr 1
 rw[e2]at h2
 have q2:aK K H2 p2 (((Me 7).map (dY c)).map V.int):=aK.of h2
 refine cG (cR (K:=K) (xs:=((Me 7).map (dY c)).map V.int) 0) (fun j=>[some ((((Me 7).map (dY c)).map V.int).getD j .non),some (.str letters)]) (by rintro j σ' (rfl|⟨k,rfl⟩)<;>rfl) (fun H' s=>s.seq q2) (by exact Ma (show 7<=1000 by decide) bg) (fun j=>.str ⟨#[kZ (dY c j)]⟩) ?_ ?_
 ·intro j hj H' F s kk
  have hj:j<7:=by simpa using hj
  have et:(((Me 7).map (dY c)).map V.int).getD j .non=.int (dY c j):=by simp[Mf,hj]
  rw[et]
  walk_at "z"
  exact hix _ _ _ (kk H' (av.refl _))
 intro l3 H3 f3 s3 h3
 have e3:(Me (((Me 7).map (dY c)).map V.int).length).map (fun j=>V.str ⟨#[kZ (dY c j)]⟩)=((wl c).map fun c=>(⟨#[c]⟩:LK)).map V.str:=by
  rw[Md,Md,OT]
  unfold wl
  rw[Mn,Mn]
  rfl
 rw[e3]at h3
 have s23:=s2.trans s3
 have q3:aK K H3 l ((ie c 9).map V.int):=s23.seq q1
 walk_at "z"
 have hone:∀x∈(wl c).map fun c=>(⟨#[c]⟩:LK),x.length<=1:=fun x hx=>by
  obtain⟨j,_,rfl⟩:=LY.mp hx
  exact L0 1
 have hz:("":LK).length=0:=by decide +kernel
 refine Jm 1 (aK.of h3) hone (by rw[Md,j8,hz];decide) ?_
 have hw:=join_ones (wl c)
 have hwl:=cm (OV ("":LK) ((wl c).map fun c=>(⟨#[c]⟩:LK)))
 rw[hw,j8]at hwl
 generalize OV ("":LK) ((wl c).map fun c=>(⟨#[c]⟩:LK))=word at *
 have g7:Cm ((ie c 9).map V.int) 7=some (.int (dY c 7)):=az (j:=7) (uf (by decide))
 have g8:Cm ((ie c 9).map V.int) 8=some (.int (dY c 8)):=az (j:=8) (uf (by decide))
 have s03:=s1.trans s23
 have fin:∀z:LK,z.cps.toList=jL c k->Q (.str z) H3:=fun z hz=>by
  have:z=eo c k:=tQ.mpr (by rw[hz,iH])
  rw[this]
  exact q H3 s03
 have hk8:(k:Int)%8=((k%8:Nat):Int):=by omega
 have hd8:(k:Int)/8=((k/8:Nat):Int):=by omega
 walk_at "z"
 walk_at "q"
 walk_at "z"
 refine bB q3 g8 ?_
 walk_at "z"
 refine gu (fun h0=>?_) (fun h0=>?_)
 ·walk_at "z"
  refine bB q3 g7 ?_
  walk_at "z"
  refine hix _ _ _ ?_
  walk_at "z"
  rw[hk8,hd8]
  have hs:=uq (z:=word) (b:=k%8) (by omega)
  have hsl:=cm (MI word none (some ((k%8:Nat):Int)))
  rw[hs,MS,hw,j8]at hsl
  refine qr (by rw[j0];omega) ?_
  refine fin _ ?_
  rw[fU,hs,hw]
  unfold jL
  rw[if_pos h0]
  rfl
 walk_at "z"
 walk_at "q"
 walk_at "z"
 refine bB q3 g8 ?_
 walk_at "z"
 refine gu (fun h1'=>?_) (fun h1'=>?_)
 ·walk_at "z"
  refine bB q3 g7 ?_
  walk_at "z"
  refine hix _ _ _ ?_
  have e7:(7:Int)-(k:Int)%8=((7-k%8:Nat):Int):=by omega
  rw[e7,hd8]
  have hs:=u2 (z:=word) (a:=7-k%8) (by omega)
  have hsl:=cm (MI word (some ((7-k%8:Nat):Int)) none)
  rw[hs,Oh,hw,j8]at hsl
  refine qr (by rw[j0];omega) ?_
  refine fin _ ?_
  rw[fU,hs,hw]
  unfold jL
  rw[if_neg h0,if_pos h1']
 walk_at "z"
 walk_at "q"
 walk_at "z"
 refine bB q3 g8 ?_
 walk_at "z"
 obtain⟨n,hn,hn8⟩:∃n:Nat,dY c 8/4%8=(n:Int)/\n<8:=⟨(dY c 8/4%8).toNat,by omega,by omega⟩
 have e3:HE c=(wl c).take n:=by unfold HE;rw[hn];rfl
 rw[hn]
 have hs:=uq (z:=word) (b:=n) (by omega)
 have hsl:=cm (MI word none (some (n:Int)))
 rw[hs,hw,<-e3]at hsl
 rw[hw,<-e3]at hs
 generalize MI word none (some (n:Int))=w3 at *
 have h3l:=CM c
 walk_at "q"
 walk_at "z"
 refine bB q3 g8 ?_
 walk_at "z"
 have hat:dY c 8/32%((w3.length:Int)+1)=(Ga c:Int):=by
  unfold Ga
  rw[hsl]
  have:=Pm (dY c 8/32) (show((w3.length:Int)+1)≠0 by omega)
  omega
 have hat2:Ga c<=w3.length:=by
  have:=QE (dY c 8/32) (show 0<(w3.length:Int)+1 by omega)
  omega
 rw[hat]
 walk_at "z"
 refine bB q3 g7 ?_
 walk_at "z"
 refine hix _ _ _ ?_
 have ha:=uq (z:=w3) (b:=Ga c) hat2
 have hb:=u2 (z:=w3) (a:=Ga c) hat2
 have hal:=cm (MI w3 none (some (Ga c:Int)))
 have hbl:=cm (MI w3 (some (Ga c:Int)) none)
 rw[ha,MS,hs]at hal
 rw[hb,Oh,hs]at hbl
 refine qr (by rw[j0];omega) ?_
 have hcl:=cm (MI w3 none (some (Ga c:Int))++⟨#[kZ (dY c 7+(k:Int))]⟩)
 rw[fU,MR,ha,hs,MS]at hcl
 have h1l:(⟨#[kZ (dY c 7+(k:Int))]⟩:LK).cps.toList=[kZ (dY c 7+(k:Int))]:=rfl
 rw[h1l]at hcl
 simp only[Ou]at hcl
 walk_at "z"
 refine fin _ ?_
 rw[fU,fU,ha,hb,hs,h1l]
 unfold jL
 rw[if_neg h0,if_neg h1']
 simp
theorem yl:∀vs H Q E,dk K vs H Q E->kr K {nx:=fun _ H'=>Q .non H',rt:=Q} (start ["cell","x","known","name","at","signs","spoilt"] vs) H:=by
 rintro vs H Q E ⟨_,cell,x,l,zs,rfl,hl,hz,q⟩
 have hsz:=size_eq
 have hS:("AZ09-_ .\t\n\"\\!#$&'()*+,/:;<=>?@\x5b]^`{|}~":LK).length=38/\aY ("AZ09-_ .\t\n\"\\!#$&'()*+,/:;<=>?@\x5b]^`{|}~":LK):=⟨by decide +kernel,by unfold aY;decide +kernel⟩
 have hE:("abcdefgh":LK).length=8/\aY ("abcdefgh":LK):=⟨by decide +kernel,by unfold aY;decide +kernel⟩
 have hN:("\n":LK).length=1/\aY ("\n":LK):=⟨by decide +kernel,by unfold aY;decide +kernel⟩
 have hB:(" ":LK).length=1/\aY (" ":LK):=⟨by decide +kernel,by unfold aY;decide +kernel⟩
 have h0:Tx ("":LK):=⟨by unfold aY;decide +kernel,by decide +kernel⟩
 have ql:aK K H l (zs.map V.str):=aK.of hl
 have hzm:(zs.map V.str).length=zs.length:=by simp
 unfold kr
 obtain⟨kk,hkk,hk26⟩:∃kk:Nat,x/4%26=(kk:Int)/\kk<26:=⟨(x/4%26).toNat,by omega,by omega⟩
 have hnm:=mB cell kk
 have hnl:=Ep hnm
 have tail:∀H1,av H H1->(aF (bU (aV (aH oLt (aH oMod (ae 1) (tC (.int 4))) (tC (.int 3)))) (bE (a9 (cU K) [] E0 (af (ae 0) (af (aH oMod (aH oDiv (ae 1) (tC (.int 4))) (tC (.int 26))) ay)))) bH)
  (aF (bC (a9 (cU K) [] E0 (af (ae 0) (af (aH oMod (aH oDiv (ae 1) (tC (.int 4))) (tC (.int 26))) ay))) (au 3))
  (aF (bC (aH oMod (aH oDiv (ae 1) (tC (.int 104))) (gs nD (af (ae 3) ay))) (au 4))
  (aF (bC (tC (.str "AZ09-_ .\t\n\"\\!#$&'()*+,/:;<=>?@\x5b]^`{|}~")) (au 5))
  (aF (bC (aH gz (aH gz (zB pU (ae 3) dm (ff (ae 4))) (aH Al (ae 5) (aH oMod (aH oDiv (ae 1) (tC (.int 1040))) (gs nD (af (ae 5) ay))))) (zB pU (ae 3) (ff (aH gy (ae 4) (tC (.int 1)))) dm)) (au 6))
  (bE (aH (bO K) (cW (af (tC (.str "")) (af (ae 6) (af (zB pU (aH gz (ae 3) (tC (.str "abcdefgh"))) dm (ff (tC (.int 9)))) (af (aH gz (ae 3) (tC (.str "\n"))) (af (aH gz (tC (.str " ")) (ae 3)) ay)))))) (aH oMod (aH oDiv (ae 1) (tC (.int 7))) (tC (.int 5))))))))))
   {nx:=fun _ H'=>Q .non H',rt:=Q} (start ["cell","x","known","name","at","signs","spoilt"] [.int cell,.int x,.ref l]) H1:=by
  intro H1 s1
  walk_at "q"
  walk_at "z"
  refine gu (fun h1=>?_) (fun h1=>?_)
  ·walk_at "z"
   rw[hkk]
   refine⟨rfl,cell,kk,rfl,by omega,fun H2 s2=>?_⟩
   exact q _ H2 (s1.trans s2) (tR hnm)
  walk_at "z"
  walk_at "q"
  walk_at "z"
  rw[hkk]
  refine⟨rfl,cell,kk,rfl,by omega,fun H2 s2=>?_⟩
  walk_at "z"
  generalize eo cell kk=name at *
  have hna:=gv hnm
  walk_at "q"
  walk_at "z"
  generalize x/104%(name.length:Int)=at'
  walk_at "q"
  walk_at "z"
  generalize ("AZ09-_ .\t\n\"\\!#$&'()*+,/:;<=>?@\x5b]^`{|}~":LK)=signs at *
  obtain⟨hs1,hs2⟩:=hS
  have l1:=Qp name none (some at')
  have l2:=Qp name (some (at'+1)) none
  walk_at "q"
  walk_at "z"
  obtain⟨j,hj,hjl⟩:∃j:Nat,x/1040%(signs.length:Int)=(j:Int)/\j<signs.length:=by
   have a1:=Pm (x/1040) (show(signs.length:Int)≠0 by omega)
   have a2:=QE (x/1040) (show 0<(signs.length:Int) by omega)
   exact⟨(x/1040%(signs.length:Int)).toNat,by omega,by omega⟩
  have hjl':j<signs.cps.toList.length:=by rw[cm];exact hjl
  try refine EB (by omega) ?_
  rw[hj]
  exists signs,_,signs.cps.toList[j],rfl,rfl,by omega,az (by simp[hjl'])
  have hc:signs.cps.toList[j]<128:=dA.mp hs2 _ (Na hjl')
  generalize signs.cps.toList[j]=ch at *
  have hch:=j0 ch
  walk_at "z"
  try refine qr (by rw[j0];omega) ?_
  walk_at "z"
  try refine qr (by rw[NS,j0];omega) ?_
  have ts:Tx (MI name none (some at')++(⟨#[ch]⟩:LK)++MI name (some (at'+1)) none):=
   ⟨fA (fA (lH hna) (wZ hc)) (lH hna),by rw[NS,NS,j0];omega⟩
  generalize MI name none (some at')++(⟨#[ch]⟩:LK)++MI name (some (at'+1)) none=spoilt at *
  have e1:=hE.1
  have e2:=hN.1
  have e3:=hB.1
  have ea:(name++("abcdefgh":LK)).length=name.length+8:=by rw[NS,e1]
  have l3:=Qp (name++("abcdefgh":LK)) none (some 9)
  walk_at "z"
  rename_i l5 H5 f5 s5 h5
  have t3:Tx (MI (name++("abcdefgh":LK)) none (some 9)):=⟨lH (fA hna hE.2),by omega⟩
  have t4:Tx (name++("\n":LK)):=⟨fA hna hN.2,by rw[NS];omega⟩
  have t5:Tx ((" ":LK)++name):=⟨fA hB.2 hna,by rw[NS];omega⟩
  obtain⟨r,hr,hr5⟩:∃r:Nat,x/7%5=(r:Int)/\r<5:=⟨(x/7%5).toNat,by omega,by omega⟩
  rw[hr]
  have hpick:∃z:LK,([V.str "",V.str spoilt,V.str (MI (name++("abcdefgh":LK)) none (some 9)),V.str (name++("\n":LK)),V.str ((" ":LK)++name)]:List V)[r]?=some (.str z)/\Tx z:=by
   have hc:r=0\/r=1\/r=2\/r=3\/r=4:=by omega
   rcases hc with rfl|rfl|rfl|rfl|rfl
   ·exact⟨_,rfl,h0⟩
   ·exact⟨_,rfl,ts⟩
   ·exact⟨_,rfl,t3⟩
   ·exact⟨_,rfl,t4⟩
   ·exact⟨_,rfl,t5⟩
  obtain⟨z,hz1,hz2⟩:=hpick
  refine bB (aK.of h5) (az hz1) ?_
  exact q z H5 ((s1.trans s2).trans s5) hz2
 walk_at "q"
 walk_at "z"
 refine gu (fun h1=>?_) (fun h1=>?_)
 ·walk_at "z"
  rename_i l1 H1 f1 s1 h1'
  refine Fk (n:=0) (.lst (aK.of (s1 _ _ hl)) (jA _)) (pK _ fun z hz'=>(hz z hz').1) h1' (by decide) ?_
  walk_at "z"
  refine qX (fun h2=>?_) (fun h2=>?_)
  ·have hne:zs≠[]:=fun e=>h2 (by rw[e];rfl)
   have ql1:aK K H1 l (zs.map V.str):=s1.seq ql
   walk_at "z"
   rw[hzm]
   obtain⟨j,hj,hjl⟩:=Jo (x/4) hne
   refine EB (by omega) ?_
   rw[hj]
   refine bB ql1 (az (j:=j) (v:=.str zs[j]) (by simp[hjl])) ?_
   exact q _ H1 s1 (hz _ (Na hjl))
  ·walk_at "z"
   exact tail H1 s1
 ·walk_at "z"
  exact tail H (av.refl _)
theorem um:∀vs H Q E,fk K vs H Q E->iJ K {nx:=fun _ H'=>Q .non H',rt:=Q} (start ["x","least","edges"] vs) H:=by
 rintro vs H Q E ⟨_,x,y,rfl,q⟩
 unfold iJ
 walk_at "q"
 walk_at "z"
 refine gu (fun h1=>?_) (fun h1=>?_)
 ·with_reducible refine AL ?_
  walk_at "z"
  rename_i l1 H1 f1 s1 h1' l2 H2 f2 s2 h2
  refine dH (s2 _ _ h1') h2 (by simp[size_eq]) fun l3 H3 f3 s3 h3=>?_
  walk_at "z"
  obtain⟨r,hr,hr8⟩:∃r:Nat,x/3%8=(r:Int)/\r<8:=⟨(x/3%8).toNat,by omega,by omega⟩
  rw[hr]
  have hp:∃v:Int,([V.int (y-1),V.int (10 ^ OP 9+1),V.int (0-x),V.int (10 ^ OP 9+2+x)]++[V.int y,V.int (10 ^ OP 9),V.int (10 ^ OP 14),V.int (-10 ^ OP 14)]:List V)[r]?=some (.int v):=by
   have hc:r=0\/r=1\/r=2\/r=3\/r=4\/r=5\/r=6\/r=7:=by omega
   rcases hc with rfl|rfl|rfl|rfl|rfl|rfl|rfl|rfl<;>exact⟨_,rfl⟩
  obtain⟨v,hv⟩:=hp
  refine bB (aK.of h3) (az hv) ?_
  exact q v H3 ((s1.trans s2).trans s3)
 ·walk_at "z"
  exact q _ H (av.refl _)
theorem tS:∀vs H Q E,ig K vs H Q E->iz K {nx:=fun _ H'=>Q .non H',rt:=Q} (start ["word","xs","cell","people","works","known","plans","voter"] vs) H:=by
 rintro vs H Q E ⟨_,word,lx,lp,lw,ld,cell,xs,s,rows,rfl,hx,hxl,X,hword,q⟩
 have hle:=X.le
 have hlr:=X.lr
 obtain⟨tp,p1,p2,p3⟩:=X.hp.firsts
 obtain⟨w2,w3⟩:=X.firsts
 have w1:=X.hw'
 have hpl:(s.ps.map (·.1)).length=s.ps.length:=by simp
 have hcl:(s.cs.map (·.1)).length=s.cs.length:=by simp
 have txP:∀z∈s.ps.map (·.1),Tx z:=fun z hz=>by
  obtain⟨p,hp,rfl⟩:=LY.mp hz
  exact tR (X.nm p hp)
 have txC:∀z∈s.cs.map (·.1),Tx z:=fun z hz=>by
  obtain⟨p,hp,rfl⟩:=LY.mp hz
  exact tR (X.nn p hp)
 have gx:∀j,j<4->Cm (xs.map V.int) (j:Nat)=some (.int (xs.getD j 0)):=fun j hj=>az (by simp[Mf,hxl,hj])
 unfold iz
 walk_at "q"
 walk_at "z"
 try refine bA (aK.of p1) ?_
 refine cy (aK.of p1) p2 (by rw[p2,hpl];omega) p3 fun lk H1 f1 s1 h1=>?_
 walk_at "z"
 walk_at "q"
 walk_at "z"
 try refine bA (aK.of (s1 _ _ w1)) ?_
 refine cy (aK.of (s1 _ _ w1)) w2 (by rw[w2,hcl];omega) (fun j t z a b=>let ⟨rest,hr⟩:=w3 j t z a b;⟨rest,s1 _ _ hr⟩) fun lq H2 f2 s2 h2=>?_
 have h1':=s2 _ _ h1
 have s02:=s1.trans s2
 have hx2:=s02 _ _ hx
 have qx:∀{H':Hp},av H2 H'->aK K H' lx (xs.map V.int):=fun s'=>aK.of (s' _ _ hx2)
 have hx0:=qx (av.refl _)
 clear hx
 have q:∀(D:aW) l H',D.word=word->D.tx->H2 l=none->av H2 H'->H' l=some (.lst D.things)->Q (.ref l) H':=fun D l H' a b c d e=>q D l H' a b (s02.free c) (s02.trans d) e
 walk_at "z"
 walk_at "q"
 walk_at "z"
 refine gu (fun hw=>?_) (fun hw1=>?_)
 ·walk_at "z"
  refine bB hx0 (gx 1 (by decide)) ?_
  walk_at "z"
  refine⟨rfl,cell,_,lk,_,rfl,h1',txP,fun z H3 s3 tz=>?_⟩
  walk_at "z"
  rename_i l4 H4 f4 s4 h4
  exact q (.enrol z) l4 H4 hw.symm tz (s3.free f4) (s3.trans s4) h4
 walk_at "z"
 refine gu (fun hw=>?_) (fun hw2=>?_)
 ·walk_at "z"
  refine bB hx0 (gx 1 (by decide)) ?_
  walk_at "z"
  refine⟨rfl,cell,_,lk,_,rfl,h1',txP,fun z H3 s3 tz=>?_⟩
  walk_at "z"
  rename_i l4 H4 f4 s4 h4
  exact q (.leave z) l4 H4 hw.symm tz (s3.free f4) (s3.trans s4) h4
 walk_at "z"
 walk_at "q"
 walk_at "z"
 refine gu (fun hw=>?_) (fun hw3=>?_)
 ·walk_at "z"
  refine bB hx0 (gx 1 (by decide)) ?_
  walk_at "z"
  refine⟨rfl,cell,_,lq,_,rfl,h2,txC,fun z H3 s3 tz=>?_⟩
  walk_at "z"
  refine bB (qx s3) (gx 2 (by decide)) ?_
  walk_at "z"
  refine⟨rfl,_,1,rfl,fun v H4 s4=>?_⟩
  walk_at "z"
  rename_i l5 H5 f5 s5 h5
  exact q (.propose z v) l5 H5 hw.symm tz ((s3.trans s4).free f5) ((s3.trans s4).trans s5) h5
 walk_at "z"
 walk_at "q"
 walk_at "z"
 refine gu (fun hw=>?_) (fun hw4=>?_)
 ·walk_at "z"
  refine bB hx0 (gx 2 (by decide)) ?_
  walk_at "z"
  refine⟨rfl,_,0,rfl,fun v H4 s4=>?_⟩
  walk_at "z"
  rename_i l5 H5 f5 s5 h5
  exact q (.give v) l5 H5 hw.symm trivial (s4.free f5) (s4.trans s5) h5
 walk_at "z"
 walk_at "q"
 walk_at "z"
 refine gu (fun hw=>?_) (fun hw5=>?_)
 ·walk_at "z"
  refine bB hx0 (gx 1 (by decide)) ?_
  walk_at "z"
  refine⟨rfl,cell,_,lq,_,rfl,h2,txC,fun z H3 s3 tz=>?_⟩
  walk_at "z"
  rename_i l4 H4 f4 s4 h4
  exact q (.withdraw z) l4 H4 hw.symm tz (s3.free f4) (s3.trans s4) h4
 have hword:word="want"\/word="unwant":=by
  simp only[L9,NG,or_false]at hword
  rcases hword with h|h|h|h|h|h|h
  ·exact absurd h hw1
  ·exact absurd h hw3
  ·exact absurd h hw4
  ·exact absurd h hw2
  ·exact absurd h hw5
  ·exact .inl h
  ·exact .inr h
 have fin:∀v n l H',Tx v->Tx n->H2 l=none->av H2 H'->H' l=some (.lst [.str v,.str n])->Q (.ref l) H':=fun v n l H' tv tn a b c=>by
  rcases hword with h|h
  ·exact q (.want v n) l H' h.symm ⟨tv,tn⟩ a b c
  ·exact q (.unwant v n) l H' h.symm ⟨tv,tn⟩ a b c
 walk_at "z"
 walk_at "q"
 walk_at "z"
 refine bB hx0 (gx 1 (by decide)) ?_
 walk_at "z"
 refine bB hx0 (gx 1 (by decide)) ?_
 walk_at "z"
 refine bB hx0 (gx 3 (by decide)) ?_
 walk_at "z"
 generalize hb:decide (xs.getD 3 0%2=0)=b
 cases b<;>(
  try refine fI ?_
  walk_at "z"
  try refine ym (by omega) (by omega) ?_
  walk_at "z"
  refine⟨rfl,cell,_,lk,_,rfl,h1',txP,fun v H3 s3 tv=>?_⟩
  walk_at "z"
  refine bB (qx s3) (gx 2 (by decide)) ?_
  walk_at "z"
  refine bB (qx s3) (gx 2 (by decide)) ?_
  walk_at "z"
  refine bB (qx s3) (gx 3 (by decide)) ?_
  walk_at "z"
  generalize hb2:decide (xs.getD 3 0/2%2=0)=b2
  cases b2<;>(
   try refine fI ?_
   walk_at "z"
   try refine ym (by omega) (by omega) ?_
   walk_at "z"
   refine⟨rfl,cell,_,lq,_,rfl,s3 _ _ h2,txC,fun n H4 s4 tn=>?_⟩
   walk_at "z"
   rename_i l5 H5 f5 s5 h5
   exact fin v n l5 H5 tv tn ((s3.trans s4).free f5) ((s3.trans s4).trans s5) h5))
theorem sr:∀vs H Q E,gL K vs H Q E->gD K {nx:=fun _ H'=>Q .non H',rt:=Q} (start ["text"] vs) H:=by
 rintro vs H Q E ⟨_,z,rfl,⟨ha,hz⟩,q⟩
 have hl:=cm z
 have hsz:=size_eq
 have hss:z.cps.size=z.length:=rfl
 have e:eG z=((decide (1<=z.length)&&decide (z.length<=8))&&z.cps.toList.all isLet):=rfl
 have hz0:("":LK).length=0:=by decide +kernel
 unfold gD
 walk_at "q"
 walk_at "z"
 refine gu (fun h1=>?_) (fun h1=>?_)
 ·walk_at "z"
  have hl0:z.length=0:=by rw[h1];exact hz0
  rw[decide_eq_false (show ¬1<=z.length by omega),OH,OH]at e
  rw[<-e]
  exact q H (av.refl _)
 have h1':1<=z.length:=by
  rcases Q6 z.length with c|c
  ·exact absurd (tQ.mpr (by rw[RL (show z.cps.toList.length=0 by rw[hl];exact c)];exact(RL (show("":LK).cps.toList.length=0 by decide +kernel)).symm)) h1
  ·exact c
 walk_at "z"
 refine gu (fun h2=>?_) (fun h2=>?_)
 ·walk_at "z"
  rw[decide_eq_false (show ¬z.length<=8 by omega),RT,OH]at e
  rw[<-e]
  exact q H (av.refl _)
 walk_at "z"
 exists z,rfl,ha
 refine eE (Cv (x:=z) 0) (fun j=>[some (.str ⟨#[z.cps.getD j 0]⟩)]) (by rintro j σ' (rfl|⟨k,rfl⟩)<;>rfl) (fun _ _=>trivial) (Ma (show _<=1000 by omega) bg) (fun j=>!isLet (z.cps.getD j 0)) (fun j=>.str ⟨#[z.cps.getD j 0]⟩) ?_ ?_ ?_
 ·intro j hj H' F s kk
  walk_at "z"
  rw[CJ]
  exact kk H' (av.refl _)
 ·intro j hj hb H' F s kk
  walk_at "z"
  exact kk H' (av.refl _)
 intro l1 H1 f1 s1 h1
 have e1:((Me z.cps.size).filter fun j=>!isLet (z.cps.getD j 0)).map (fun j=>V.str ⟨#[z.cps.getD j 0]⟩)=((z.cps.toList.filter fun c=>!isLet c).map fun c=>(⟨#[c]⟩:LK)).map V.str:=by
  have h0:=iW (fun c:Nat=>!isLet c) 0 z.cps.toList
  rw[<-h0,Mn,Mn,hl,hss]
  have eg:∀j,z.cps.toList.getD j 0=z.cps.getD j 0:=fun j=>by simp[T5,MH]
  simp only[eg]
  rfl
 rw[e1]at h1
 walk_at "z"
 rename_i l2 H2 f2 s2 h2'
 have hA:∀x∈(z.cps.toList.filter fun c=>!isLet c).map fun c=>(⟨#[c]⟩:LK),aY x:=fun x hx=>by
  obtain⟨c,hc,rfl⟩:=LY.mp hx
  exact wZ (dA.mp ha c (Mw.mp hc).1)
 refine FX (n:=0) (.lst (aK.of (s2 _ _ h1)) (jA _)) (pK _ hA) h2' (by decide) ?_
 have e2:decide (((z.cps.toList.filter fun c=>!isLet c).map fun c=>(⟨#[c]⟩:LK)).map OD=[])=eG z:=by
  rw[e,decide_eq_true (show 1<=z.length by omega),decide_eq_true (show z.length<=8 by omega),Bool.and_self,Bool.true_and,Ng,decide_eq_true_eq,TL,TL,List.filter_eq_nil_iff,Ny]
  simp
 rw[e2]
 exact q H2 (s1.trans s2)
theorem Ao:∀vs H Q E,lC K vs H Q E->mf K {nx:=fun _ H'=>Q .non H',rt:=Q} (start ["word","things","people","works","known"] vs) H:=by
 rintro vs H Q E ⟨_,lt,lp,lw,ld,s,rows,D,rfl,hlt,X,tx,q⟩
 have hsz:=size_eq
 have hle:=X.le
 have hlr:=X.lr
 obtain⟨e0,e1,e2,e3,e4,e5,e6⟩:=Cy
 obtain⟨tp,p1,p2,p3⟩:=X.hp.firsts
 obtain⟨w2,w3⟩:=X.firsts
 have w1:=X.hw'
 have hpl:(s.ps.map (·.1)).length=s.ps.length:=by simp
 have hcl:(s.cs.map (·.1)).length=s.cs.length:=by simp
 have e10:(10:Int) ^ OP 9=1000000000:=by decide
 have nmT:∀z∈s.ps.map (·.1),aY z:=fun z hz=>by
  obtain⟨p,hp,rfl⟩:=LY.mp hz
  exact X.ap p hp
 unfold mf
 cases D with
 |enrol z=>
  simp only[aW.word,aW.things]at hlt ⊢
  rw[aW.due]at q
  walk_at "q"
  walk_at "z"
  refine gP rfl ?_
  walk_at "z"
  walk_at "q"
  walk_at "z"
  rename_i l1 H1 f1 s1 h1
  rw[decide_eq_false (show ¬(("enrol":LK)="propose") by decide +kernel)]
  walk_at "z"
  try refine fI ?_
  refine bB (aK.of h1) (az (j:=0) rfl) ?_
  walk_at "z"
  try refine bA (aK.of (s1 _ _ p1)) ?_
  refine cy (aK.of (s1 _ _ p1)) p2 (by rw[p2,hpl];omega) (fun j t z a b=>let ⟨rest,hr⟩:=p3 j t z a b;⟨rest,s1 _ _ hr⟩) fun lk H2 f2 s2 h2=>?_
  have s02:=s1.trans s2
  have ht2:=s02 _ _ hlt
  walk_at "z"
  walk_at "q"
  walk_at "z"
  refine bB (aK.of ht2) (az (j:=0) rfl) ?_
  walk_at "z"
  refine⟨rfl,z,rfl,tx,fun H3 s3=>?_⟩
  have s03:=s02.trans s3
  have ht3:=s3 _ _ ht2
  have h3:=s3 _ _ h2
  cases hn:eG z
  ·walk_at "z"
   rw[if_pos hn,e1]at q
   exact q H3 s03
  rw[if_neg (by rw[hn];simp)]at q
  walk_at "z"
  walk_at "q"
  walk_at "z"
  refine bB (aK.of ht3) (az (j:=0) rfl) ?_
  walk_at "z"
  refine uv (aK.of h3) ?_
  walk_at "z"
  refine gu (fun hm=>?_) (fun hm=>?_)
  ·walk_at "z"
   rw[if_pos hm,e2]at q
   exact q H3 s03
  rw[if_neg hm]at q
  walk_at "z"
  walk_at "q"
  walk_at "z"
  refine bN (by decide +kernel) ?_
  walk_at "z"
  rename_i l4 H4 f4 s4 h4 l5 H5 f5 s5 h5
  rw[decide_eq_false (show ¬(("enrol":LK)="propose") by decide +kernel)]
  walk_at "z"
  try refine fI ?_
  refine bB (aK.of h5) (az (j:=0) rfl) ?_
  walk_at "z"
  rw[Md,hpl]
  have s05:=(s03.trans s4).trans s5
  by_cases hl:20<=s.ps.length
  ·rw[decide_eq_true (show(s.ps.length:Int)=20 by omega)]
   try refine fI ?_
   walk_at "z"
   rw[if_pos hl,e6]at q
   refine bB (aK.of (s5 _ _ h4)) (az (j:=1) rfl) ?_
   exact q H5 s05
  ·rw[decide_eq_false (show ¬(s.ps.length:Int)=20 by omega)]
   try refine fI ?_
   walk_at "z"
   rw[if_neg hl,e0]at q
   refine bB (aK.of (s5 _ _ h4)) (az (j:=0) rfl) ?_
   exact q H5 s05
 |propose z x=>
  simp only[aW.word,aW.things]at hlt ⊢
  rw[aW.due]at q
  walk_at "q"
  walk_at "z"
  refine bN (by decide +kernel) ?_
  walk_at "z"
  refine gP rfl ?_
  walk_at "z"
  walk_at "q"
  walk_at "z"
  rename_i l1 H1 f1 s1 h1
  rw[decide_eq_true (show(("propose":LK)="propose")from rfl)]
  walk_at "z"
  try refine fI ?_
  refine bB (aK.of h1) (az (j:=1) rfl) ?_
  walk_at "z"
  try refine bA (aK.of (s1 _ _ w1)) ?_
  refine cy (aK.of (s1 _ _ w1)) w2 (by rw[w2,hcl];omega) (fun j t z a b=>let ⟨rest,hr⟩:=w3 j t z a b;⟨rest,s1 _ _ hr⟩) fun lk H2 f2 s2 h2=>?_
  have s02:=s1.trans s2
  have ht2:=s02 _ _ hlt
  walk_at "z"
  walk_at "q"
  walk_at "z"
  refine bB (aK.of ht2) (az (j:=0) rfl) ?_
  walk_at "z"
  refine⟨rfl,z,rfl,tx,fun H3 s3=>?_⟩
  have s03:=s02.trans s3
  have ht3:=s3 _ _ ht2
  have h3:=s3 _ _ h2
  cases hn:eG z
  ·walk_at "z"
   rw[if_pos hn,e1]at q
   exact q H3 s03
  rw[if_neg (by rw[hn];simp)]at q
  walk_at "z"
  walk_at "q"
  walk_at "z"
  refine bB (aK.of ht3) (az (j:=0) rfl) ?_
  walk_at "z"
  refine uv (aK.of h3) ?_
  walk_at "z"
  refine gu (fun hm=>?_) (fun hm=>?_)
  ·walk_at "z"
   rw[if_pos hm,e2]at q
   exact q H3 s03
  rw[if_neg hm]at q
  walk_at "z"
  walk_at "q"
  walk_at "z"
  refine gP rfl ?_
  walk_at "z"
  refine bB (aK.of ht3) (az (j:=1) rfl) ?_
  walk_at "z"
  refine gu (fun hx=>?_) (fun hx=>?_)
  ·walk_at "z"
   rw[if_pos (.inl hx),e5]at q
   exact q H3 s03
  walk_at "z"
  refine bB (aK.of ht3) (az (j:=1) rfl) ?_
  walk_at "z"
  rw[e10]
  refine gu (fun hx2=>?_) (fun hx2=>?_)
  ·walk_at "z"
   rw[if_pos (.inr hx2),e5]at q
   exact q H3 s03
  rw[if_neg (by omega)]at q
  walk_at "z"
  rename_i l4 H4 f4 s4 h4 l5 H5 f5 s5 h5
  rw[decide_eq_true (show(("propose":LK)="propose")from rfl)]
  walk_at "z"
  try refine fI ?_
  refine bB (aK.of h5) (az (j:=1) rfl) ?_
  walk_at "z"
  rw[Md,hcl]
  have s05:=(s03.trans s4).trans s5
  by_cases hl:12<=s.cs.length
  ·rw[decide_eq_true (show(s.cs.length:Int)=12 by omega)]
   try refine fI ?_
   walk_at "z"
   rw[if_pos hl,e6]at q
   refine bB (aK.of (s5 _ _ h4)) (az (j:=1) rfl) ?_
   exact q H5 s05
  ·rw[decide_eq_false (show ¬(s.cs.length:Int)=12 by omega)]
   try refine fI ?_
   walk_at "z"
   rw[if_neg hl,e0]at q
   refine bB (aK.of (s5 _ _ h4)) (az (j:=0) rfl) ?_
   exact q H5 s05
 |give x=>
  simp only[aW.word,aW.things]at hlt ⊢
  rw[aW.due]at q
  walk_at "q"
  walk_at "z"
  refine bN (by decide +kernel) ?_
  walk_at "z"
  refine bN (by decide +kernel) ?_
  walk_at "z"
  walk_at "q"
  walk_at "z"
  refine gP rfl ?_
  walk_at "z"
  rename_i l1 H1 f1 s1 h1
  have ht1:=s1 _ _ hlt
  refine bB (aK.of ht1) (az (j:=0) rfl) ?_
  walk_at "z"
  refine gu (fun hx=>?_) (fun hx=>?_)
  ·walk_at "z"
   try refine fI ?_
   refine bB (aK.of h1) (az (j:=1) rfl) ?_
   rw[if_pos (.inl hx),e5]at q
   exact q H1 s1
  walk_at "z"
  refine bB (aK.of ht1) (az (j:=0) rfl) ?_
  walk_at "z"
  rw[e10]
  by_cases hx2:1000000000<x
  ·rw[decide_eq_true hx2]
   walk_at "z"
   try refine fI ?_
   refine bB (aK.of h1) (az (j:=1) rfl) ?_
   rw[if_pos (.inr hx2),e5]at q
   exact q H1 s1
  ·rw[decide_eq_false hx2]
   walk_at "z"
   try refine fI ?_
   refine bB (aK.of h1) (az (j:=0) rfl) ?_
   rw[if_neg (by omega),e0]at q
   exact q H1 s1
 |leave z=>
  simp only[aW.word,aW.things]at hlt ⊢
  rw[aW.due]at q
  walk_at "q"
  walk_at "z"
  refine bN (by decide +kernel) ?_
  walk_at "z"
  refine bN (by decide +kernel) ?_
  walk_at "z"
  walk_at "q"
  walk_at "z"
  refine bN (by decide +kernel) ?_
  walk_at "z"
  walk_at "q"
  walk_at "z"
  refine k9 (by decide +kernel) ?_
  walk_at "z"
  refine bB (aK.of hlt) (az (j:=0) rfl) ?_
  walk_at "z"
  try refine bA (aK.of p1) ?_
  refine cy (aK.of p1) p2 (by rw[p2,hpl];omega) p3 fun lk H2 f2 s2 h2=>?_
  refine kH (aK.of h2) ?_
  walk_at "z"
  refine qX (fun hm=>?_) (fun hm=>?_)
  ·walk_at "z"
   rw[if_neg hm,e3]at q
   exact q H2 s2
  rw[if_pos hm,e0]at q
  walk_at "z"
  walk_at "q"
  walk_at "z"
  refine uU rfl ?_
  walk_at "z"
  exact q H2 s2
 |withdraw z=>
  simp only[aW.word,aW.things]at hlt ⊢
  rw[aW.due]at q
  walk_at "q"
  walk_at "z"
  refine bN (by decide +kernel) ?_
  walk_at "z"
  refine bN (by decide +kernel) ?_
  walk_at "z"
  walk_at "q"
  walk_at "z"
  refine bN (by decide +kernel) ?_
  walk_at "z"
  walk_at "q"
  walk_at "z"
  refine uU rfl ?_
  walk_at "z"
  walk_at "q"
  walk_at "z"
  refine k9 (by decide +kernel) ?_
  walk_at "z"
  refine bB (aK.of hlt) (v:=.str z) rfl ?_
  walk_at "z"
  try refine bA (aK.of w1) ?_
  refine cy (aK.of w1) w2 (by rw[w2,hcl];omega) w3 fun lk H2 f2 s2 h2=>?_
  refine kH (aK.of h2) ?_
  walk_at "z"
  refine qX (fun hm=>?_) (fun hm=>?_)
  ·walk_at "z"
   rw[if_neg hm,e4]at q
   exact q H2 s2
  rw[if_pos hm,e0]at q
  walk_at "z"
  exact q H2 s2
 |want v n=>
  simp only[aW.word,aW.things]at hlt ⊢
  rw[aW.due]at q
  walk_at "q"
  walk_at "z"
  refine bN (by decide +kernel) ?_
  walk_at "z"
  refine bN (by decide +kernel) ?_
  walk_at "z"
  walk_at "q"
  walk_at "z"
  refine bN (by decide +kernel) ?_
  walk_at "z"
  walk_at "q"
  walk_at "z"
  refine k9 (by decide +kernel) ?_
  walk_at "z"
  refine bB (aK.of hlt) (az (j:=0) rfl) ?_
  walk_at "z"
  try refine bA (aK.of p1) ?_
  refine cy (aK.of p1) p2 (by rw[p2,hpl];omega) p3 fun lk H2 f2 s2 h2=>?_
  refine kH (aK.of h2) ?_
  walk_at "z"
  refine qX (fun hm=>?_) (fun hm=>?_)
  ·walk_at "z"
   rw[if_neg hm,e3]at q
   exact q H2 s2
  rw[if_pos hm]at q
  walk_at "z"
  walk_at "q"
  walk_at "z"
  refine k9 (by decide +kernel) ?_
  walk_at "z"
  refine bB (aK.of (s2 _ _ hlt)) (v:=.str n) rfl ?_
  walk_at "z"
  try refine bA (aK.of (s2 _ _ w1)) ?_
  refine cy (aK.of (s2 _ _ w1)) w2 (by rw[w2,hcl];omega) (fun j t z a b=>let ⟨rest,hr⟩:=w3 j t z a b;⟨rest,s2 _ _ hr⟩) fun lk3 H3 f3 s3 h3=>?_
  have s03:=s2.trans s3
  refine kH (aK.of h3) ?_
  walk_at "z"
  refine qX (fun hm2=>?_) (fun hm2=>?_)
  ·walk_at "z"
   rw[if_neg hm2,e4]at q
   exact q H3 s03
  rw[if_pos hm2,e0]at q
  walk_at "z"
  exact q H3 s03
 |unwant v n=>
  simp only[aW.word,aW.things]at hlt ⊢
  rw[aW.due]at q
  walk_at "q"
  walk_at "z"
  refine bN (by decide +kernel) ?_
  walk_at "z"
  refine bN (by decide +kernel) ?_
  walk_at "z"
  walk_at "q"
  walk_at "z"
  refine bN (by decide +kernel) ?_
  walk_at "z"
  walk_at "q"
  walk_at "z"
  refine k9 (by decide +kernel) ?_
  walk_at "z"
  refine bB (aK.of hlt) (az (j:=0) rfl) ?_
  walk_at "z"
  try refine bA (aK.of p1) ?_
  refine cy (aK.of p1) p2 (by rw[p2,hpl];omega) p3 fun lk H2 f2 s2 h2=>?_
  refine kH (aK.of h2) ?_
  walk_at "z"
  refine qX (fun hm=>?_) (fun hm=>?_)
  ·walk_at "z"
   rw[if_neg hm,e3]at q
   exact q H2 s2
  rw[if_pos hm]at q
  walk_at "z"
  walk_at "q"
  walk_at "z"
  refine k9 (by decide +kernel) ?_
  walk_at "z"
  refine bB (aK.of (s2 _ _ hlt)) (v:=.str n) rfl ?_
  walk_at "z"
  try refine bA (aK.of (s2 _ _ w1)) ?_
  refine cy (aK.of (s2 _ _ w1)) w2 (by rw[w2,hcl];omega) (fun j t z a b=>let ⟨rest,hr⟩:=w3 j t z a b;⟨rest,s2 _ _ hr⟩) fun lk3 H3 f3 s3 h3=>?_
  have s03:=s2.trans s3
  refine kH (aK.of h3) ?_
  walk_at "z"
  refine qX (fun hm2=>?_) (fun hm2=>?_)
  ·walk_at "z"
   rw[if_neg hm2,e4]at q
   exact q H3 s03
  rw[if_pos hm2,e0]at q
  walk_at "z"
  exact q H3 s03
theorem vn(F:jb K):∀vs H Q E,jh K vs H Q E->js K {nx:=fun _ H'=>Q .non H',rt:=Q} (start ["chest","word","things","caught","told","e","kinds"] vs) H:=by
 rintro vs H Q E ⟨_,c,lt,fp,s,D,rfl,hlt,X0,tx,hv,haw,hwl,qn,qe⟩
 unfold js
 walk_at "q"
 walk_at "z"
 walk_at "q"
 walk_at "z"
 walk_at "q"
 show a9 (eW K) [] _ _ _ _ _
 walk_at "z"
 refine⟨rfl,c,lt,fp,s,D,rfl,hlt,X0,tx,hv,haw,hwl,fun hd H1 fp1 x1 b1 n1=>?_,fun cl hd H1 s1=>?_⟩
 ·with_reducible refine AL ?_
  walk_at "z"
  refine gP rfl ?_
  walk_at "z"
  exact qn hd H1 fp1 x1 b1 n1
 have q:=qe cl hd
 have hcl:=Ce hd
 clear qe qn hd
 rcases hcl with rfl|rfl|rfl|rfl|rfl|rfl
 ·refine⟨F.mY,fun e oe he h1 h2 h3=>?_⟩
  have sx:av H1 (upd H1 e (.frz oe (.own e))):=av.updN he
  have hx:ExcAt (upd H1 e (.frz oe (.own e))) e (ar K "NoName"):=⟨oe,ao,h1,h2,h3⟩
  generalize upd H1 e (.frz oe (.own e))=H2 at *
  have st:∀{H':Hp},av H2 H'->ExcAt H' e (ar K "NoName"):=fun s'=>by
   obtain⟨o,x1,x2⟩:=hx
   exact⟨o,s' _ _ x1,x2⟩
  walk_at "z"
  walk_at "q"
  walk_at "z"
  refine bN (by intro z;cases z) ?_
  walk_at "z"
  walk_at "q"
  walk_at "z"
  refine⟨e,_,ar K "NoName",true,rfl,rfl,hx,F.fq,F.d7,F.rT,?_⟩
  walk_at "z"
  refine⟨e,_,ar K "NoName",false,rfl,rfl,hx,F.fq,F.d7,F.uw,?_⟩
  walk_at "z"
  refine⟨e,_,ar K "NoName",false,rfl,rfl,hx,F.fq,F.d7,F.qg,?_⟩
  walk_at "z"
  rename_i l3 H3 f3 s3 h3'
  have hx3:=st s3
  walk_at "q"
  walk_at "z"
  refine⟨e,_,ar K "NoName",false,rfl,rfl,hx3,F.fq,F.d7,F.sq,?_⟩
  walk_at "z"
  refine⟨e,_,ar K "NoName",false,rfl,rfl,hx3,F.fq,F.d7,F.qM,?_⟩
  walk_at "z"
  refine⟨e,_,ar K "NoName",false,rfl,rfl,hx3,F.fq,F.d7,F.vJ,?_⟩
  walk_at "z"
  rename_i l4 H4 f4 s4 h4
  refine dH (s4 _ _ h3') h4 (by decide) fun l5 H5 f5 s5 h5=>?_
  have s35:=s4.trans s5
  have hx5:=st (s3.trans s35)
  walk_at "z"
  refine⟨e,_,ar K "NoName",false,rfl,rfl,hx5,F.fq,F.d7,F.qk,?_⟩
  walk_at "z"
  refine⟨e,_,ar K "NoName",false,rfl,rfl,hx5,F.fq,F.d7,F.tL,?_⟩
  walk_at "z"
  refine⟨e,_,ar K "NoName",true,rfl,rfl,hx5,F.fq,F.d7,F.nu,?_⟩
  walk_at "z"
  rename_i l6 H6 f6 s6 h6
  refine dH (s6 _ _ h5) h6 (by decide) fun l7 H7 f7 s7 h7=>?_
  exact q l7 H7 (s1.free (sx.free ((s3.trans (s35.trans s6)).free f7))) (s1.trans (sx.trans ((s3.trans (s35.trans s6)).trans s7))) (by rw[h7,show iV "NoName"=[true,false,false,false,false,false,false,false,true] by decide +kernel];rfl)
 ·refine⟨F.oy,fun e oe he h1 h2 h3=>?_⟩
  have sx:av H1 (upd H1 e (.frz oe (.own e))):=av.updN he
  have hx:ExcAt (upd H1 e (.frz oe (.own e))) e (ar K "Twice"):=⟨oe,ao,h1,h2,h3⟩
  generalize upd H1 e (.frz oe (.own e))=H2 at *
  have st:∀{H':Hp},av H2 H'->ExcAt H' e (ar K "Twice"):=fun s'=>by
   obtain⟨o,x1,x2⟩:=hx
   exact⟨o,s' _ _ x1,x2⟩
  walk_at "z"
  walk_at "q"
  walk_at "z"
  refine bN (by intro z;cases z) ?_
  walk_at "z"
  walk_at "q"
  walk_at "z"
  refine⟨e,_,ar K "Twice",false,rfl,rfl,hx,F.gR,F.fz,F.uG,?_⟩
  walk_at "z"
  refine⟨e,_,ar K "Twice",true,rfl,rfl,hx,F.gR,F.fz,F.vS,?_⟩
  walk_at "z"
  refine⟨e,_,ar K "Twice",false,rfl,rfl,hx,F.gR,F.fz,F.sj,?_⟩
  walk_at "z"
  rename_i l3 H3 f3 s3 h3'
  have hx3:=st s3
  walk_at "q"
  walk_at "z"
  refine⟨e,_,ar K "Twice",false,rfl,rfl,hx3,F.gR,F.fz,F.sU,?_⟩
  walk_at "z"
  refine⟨e,_,ar K "Twice",false,rfl,rfl,hx3,F.gR,F.fz,F.rS,?_⟩
  walk_at "z"
  refine⟨e,_,ar K "Twice",false,rfl,rfl,hx3,F.gR,F.fz,F.xZ,?_⟩
  walk_at "z"
  rename_i l4 H4 f4 s4 h4
  refine dH (s4 _ _ h3') h4 (by decide) fun l5 H5 f5 s5 h5=>?_
  have s35:=s4.trans s5
  have hx5:=st (s3.trans s35)
  walk_at "z"
  refine⟨e,_,ar K "Twice",false,rfl,rfl,hx5,F.gR,F.fz,F.sE,?_⟩
  walk_at "z"
  refine⟨e,_,ar K "Twice",false,rfl,rfl,hx5,F.gR,F.fz,F.vQ,?_⟩
  walk_at "z"
  refine⟨e,_,ar K "Twice",true,rfl,rfl,hx5,F.gR,F.fz,F.oJ,?_⟩
  walk_at "z"
  rename_i l6 H6 f6 s6 h6
  refine dH (s6 _ _ h5) h6 (by decide) fun l7 H7 f7 s7 h7=>?_
  exact q l7 H7 (s1.free (sx.free ((s3.trans (s35.trans s6)).free f7))) (s1.trans (sx.trans ((s3.trans (s35.trans s6)).trans s7))) (by rw[h7,show iV "Twice"=[false,true,false,false,false,false,false,false,true] by decide +kernel];rfl)
 ·refine⟨F.me,fun e oe he h1 h2 h3=>?_⟩
  have sx:av H1 (upd H1 e (.frz oe (.own e))):=av.updN he
  have hx:ExcAt (upd H1 e (.frz oe (.own e))) e (ar K "NoVoter"):=⟨oe,ao,h1,h2,h3⟩
  generalize upd H1 e (.frz oe (.own e))=H2 at *
  have st:∀{H':Hp},av H2 H'->ExcAt H' e (ar K "NoVoter"):=fun s'=>by
   obtain⟨o,x1,x2⟩:=hx
   exact⟨o,s' _ _ x1,x2⟩
  walk_at "z"
  walk_at "q"
  walk_at "z"
  refine bN (by intro z;cases z) ?_
  walk_at "z"
  walk_at "q"
  walk_at "z"
  refine⟨e,_,ar K "NoVoter",false,rfl,rfl,hx,F.d4,F.dh,F.qD,?_⟩
  walk_at "z"
  refine⟨e,_,ar K "NoVoter",false,rfl,rfl,hx,F.d4,F.dh,F.sh,?_⟩
  walk_at "z"
  refine⟨e,_,ar K "NoVoter",true,rfl,rfl,hx,F.d4,F.dh,F.oO,?_⟩
  walk_at "z"
  rename_i l3 H3 f3 s3 h3'
  have hx3:=st s3
  walk_at "q"
  walk_at "z"
  refine⟨e,_,ar K "NoVoter",false,rfl,rfl,hx3,F.d4,F.dh,F.qE,?_⟩
  walk_at "z"
  refine⟨e,_,ar K "NoVoter",false,rfl,rfl,hx3,F.d4,F.dh,F.oQ,?_⟩
  walk_at "z"
  refine⟨e,_,ar K "NoVoter",false,rfl,rfl,hx3,F.d4,F.dh,F.uP,?_⟩
  walk_at "z"
  rename_i l4 H4 f4 s4 h4
  refine dH (s4 _ _ h3') h4 (by decide) fun l5 H5 f5 s5 h5=>?_
  have s35:=s4.trans s5
  have hx5:=st (s3.trans s35)
  walk_at "z"
  refine⟨e,_,ar K "NoVoter",false,rfl,rfl,hx5,F.d4,F.dh,F.o8,?_⟩
  walk_at "z"
  refine⟨e,_,ar K "NoVoter",false,rfl,rfl,hx5,F.d4,F.dh,F.sA,?_⟩
  walk_at "z"
  refine⟨e,_,ar K "NoVoter",true,rfl,rfl,hx5,F.d4,F.dh,F.lj,?_⟩
  walk_at "z"
  rename_i l6 H6 f6 s6 h6
  refine dH (s6 _ _ h5) h6 (by decide) fun l7 H7 f7 s7 h7=>?_
  exact q l7 H7 (s1.free (sx.free ((s3.trans (s35.trans s6)).free f7))) (s1.trans (sx.trans ((s3.trans (s35.trans s6)).trans s7))) (by rw[h7,show iV "NoVoter"=[false,false,true,false,false,false,false,false,true] by decide +kernel];rfl)
 ·refine⟨F.mX,fun e oe he h1 h2 h3=>?_⟩
  have sx:av H1 (upd H1 e (.frz oe (.own e))):=av.updN he
  have hx:ExcAt (upd H1 e (.frz oe (.own e))) e (ar K "NoWork"):=⟨oe,ao,h1,h2,h3⟩
  generalize upd H1 e (.frz oe (.own e))=H2 at *
  have st:∀{H':Hp},av H2 H'->ExcAt H' e (ar K "NoWork"):=fun s'=>by
   obtain⟨o,x1,x2⟩:=hx
   exact⟨o,s' _ _ x1,x2⟩
  walk_at "z"
  walk_at "q"
  walk_at "z"
  refine bN (by intro z;cases z) ?_
  walk_at "z"
  walk_at "q"
  walk_at "z"
  refine⟨e,_,ar K "NoWork",false,rfl,rfl,hx,F.eX,F.dS,F.su,?_⟩
  walk_at "z"
  refine⟨e,_,ar K "NoWork",false,rfl,rfl,hx,F.eX,F.dS,F.uF,?_⟩
  walk_at "z"
  refine⟨e,_,ar K "NoWork",false,rfl,rfl,hx,F.eX,F.dS,F.qV,?_⟩
  walk_at "z"
  rename_i l3 H3 f3 s3 h3'
  have hx3:=st s3
  walk_at "q"
  walk_at "z"
  refine⟨e,_,ar K "NoWork",true,rfl,rfl,hx3,F.eX,F.dS,F.sy,?_⟩
  walk_at "z"
  refine⟨e,_,ar K "NoWork",false,rfl,rfl,hx3,F.eX,F.dS,F.qJ,?_⟩
  walk_at "z"
  refine⟨e,_,ar K "NoWork",false,rfl,rfl,hx3,F.eX,F.dS,F.wy,?_⟩
  walk_at "z"
  rename_i l4 H4 f4 s4 h4
  refine dH (s4 _ _ h3') h4 (by decide) fun l5 H5 f5 s5 h5=>?_
  have s35:=s4.trans s5
  have hx5:=st (s3.trans s35)
  walk_at "z"
  refine⟨e,_,ar K "NoWork",false,rfl,rfl,hx5,F.eX,F.dS,F.qO,?_⟩
  walk_at "z"
  refine⟨e,_,ar K "NoWork",false,rfl,rfl,hx5,F.eX,F.dS,F.uZ,?_⟩
  walk_at "z"
  refine⟨e,_,ar K "NoWork",true,rfl,rfl,hx5,F.eX,F.dS,F.nh,?_⟩
  walk_at "z"
  rename_i l6 H6 f6 s6 h6
  refine dH (s6 _ _ h5) h6 (by decide) fun l7 H7 f7 s7 h7=>?_
  exact q l7 H7 (s1.free (sx.free ((s3.trans (s35.trans s6)).free f7))) (s1.trans (sx.trans ((s3.trans (s35.trans s6)).trans s7))) (by rw[h7,show iV "NoWork"=[false,false,false,true,false,false,false,false,true] by decide +kernel];rfl)
 ·refine⟨F.lP,fun e oe he h1 h2 h3=>?_⟩
  have sx:av H1 (upd H1 e (.frz oe (.own e))):=av.updN he
  have hx:ExcAt (upd H1 e (.frz oe (.own e))) e (ar K "TooMuch"):=⟨oe,ao,h1,h2,h3⟩
  generalize upd H1 e (.frz oe (.own e))=H2 at *
  have st:∀{H':Hp},av H2 H'->ExcAt H' e (ar K "TooMuch"):=fun s'=>by
   obtain⟨o,x1,x2⟩:=hx
   exact⟨o,s' _ _ x1,x2⟩
  walk_at "z"
  walk_at "q"
  walk_at "z"
  refine bN (by intro z;cases z) ?_
  walk_at "z"
  walk_at "q"
  walk_at "z"
  refine⟨e,_,ar K "TooMuch",false,rfl,rfl,hx,F.d0,F.dg,F.qi,?_⟩
  walk_at "z"
  refine⟨e,_,ar K "TooMuch",false,rfl,rfl,hx,F.d0,F.dg,F.sk,?_⟩
  walk_at "z"
  refine⟨e,_,ar K "TooMuch",false,rfl,rfl,hx,F.d0,F.dg,F.o6,?_⟩
  walk_at "z"
  rename_i l3 H3 f3 s3 h3'
  have hx3:=st s3
  walk_at "q"
  walk_at "z"
  refine⟨e,_,ar K "TooMuch",false,rfl,rfl,hx3,F.d0,F.dg,F.qv,?_⟩
  walk_at "z"
  refine⟨e,_,ar K "TooMuch",true,rfl,rfl,hx3,F.d0,F.dg,F.pM,?_⟩
  walk_at "z"
  refine⟨e,_,ar K "TooMuch",false,rfl,rfl,hx3,F.d0,F.dg,F.ve,?_⟩
  walk_at "z"
  rename_i l4 H4 f4 s4 h4
  refine dH (s4 _ _ h3') h4 (by decide) fun l5 H5 f5 s5 h5=>?_
  have s35:=s4.trans s5
  have hx5:=st (s3.trans s35)
  walk_at "z"
  refine⟨e,_,ar K "TooMuch",false,rfl,rfl,hx5,F.d0,F.dg,F.oM,?_⟩
  walk_at "z"
  refine⟨e,_,ar K "TooMuch",false,rfl,rfl,hx5,F.d0,F.dg,F.rQ,?_⟩
  walk_at "z"
  refine⟨e,_,ar K "TooMuch",true,rfl,rfl,hx5,F.d0,F.dg,F.lO,?_⟩
  walk_at "z"
  rename_i l6 H6 f6 s6 h6
  refine dH (s6 _ _ h5) h6 (by decide) fun l7 H7 f7 s7 h7=>?_
  exact q l7 H7 (s1.free (sx.free ((s3.trans (s35.trans s6)).free f7))) (s1.trans (sx.trans ((s3.trans (s35.trans s6)).trans s7))) (by rw[h7,show iV "TooMuch"=[false,false,false,false,true,false,false,false,true] by decide +kernel];rfl)
 ·refine⟨F.pJ,fun e oe he h1 h2 h3=>?_⟩
  have sx:av H1 (upd H1 e (.frz oe (.own e))):=av.updN he
  have hx:ExcAt (upd H1 e (.frz oe (.own e))) e (ar K "Full"):=⟨oe,ao,h1,h2,h3⟩
  generalize upd H1 e (.frz oe (.own e))=H2 at *
  have st:∀{H':Hp},av H2 H'->ExcAt H' e (ar K "Full"):=fun s'=>by
   obtain⟨o,x1,x2⟩:=hx
   exact⟨o,s' _ _ x1,x2⟩
  walk_at "z"
  walk_at "q"
  walk_at "z"
  refine bN (by intro z;cases z) ?_
  walk_at "z"
  walk_at "q"
  walk_at "z"
  refine⟨e,_,ar K "Full",false,rfl,rfl,hx,F.jZ,F.hV,F.vK,?_⟩
  walk_at "z"
  refine⟨e,_,ar K "Full",false,rfl,rfl,hx,F.jZ,F.hV,F.xE,?_⟩
  walk_at "z"
  refine⟨e,_,ar K "Full",false,rfl,rfl,hx,F.jZ,F.hV,F.vc,?_⟩
  walk_at "z"
  rename_i l3 H3 f3 s3 h3'
  have hx3:=st s3
  walk_at "q"
  walk_at "z"
  refine⟨e,_,ar K "Full",false,rfl,rfl,hx3,F.jZ,F.hV,F.vV,?_⟩
  walk_at "z"
  refine⟨e,_,ar K "Full",false,rfl,rfl,hx3,F.jZ,F.hV,F.vg,?_⟩
  walk_at "z"
  refine⟨e,_,ar K "Full",true,rfl,rfl,hx3,F.jZ,F.hV,F.AG,?_⟩
  walk_at "z"
  rename_i l4 H4 f4 s4 h4
  refine dH (s4 _ _ h3') h4 (by decide) fun l5 H5 f5 s5 h5=>?_
  have s35:=s4.trans s5
  have hx5:=st (s3.trans s35)
  walk_at "z"
  refine⟨e,_,ar K "Full",false,rfl,rfl,hx5,F.jZ,F.hV,F.uL,?_⟩
  walk_at "z"
  refine⟨e,_,ar K "Full",false,rfl,rfl,hx5,F.jZ,F.hV,F.yw,?_⟩
  walk_at "z"
  refine⟨e,_,ar K "Full",true,rfl,rfl,hx5,F.jZ,F.hV,F.pj,?_⟩
  walk_at "z"
  rename_i l6 H6 f6 s6 h6
  refine dH (s6 _ _ h5) h6 (by decide) fun l7 H7 f7 s7 h7=>?_
  exact q l7 H7 (s1.free (sx.free ((s3.trans (s35.trans s6)).free f7))) (s1.trans (sx.trans ((s3.trans (s35.trans s6)).trans s7))) (by rw[h7,show iV "Full"=[false,false,false,false,false,true,false,false,true] by decide +kernel];rfl)
theorem uz(C:jb K):∀vs H Q E,iX K vs H Q E->iC K {nx:=fun _ H'=>Q .non H',rt:=Q} (start ["self"] vs) H:=by
 rintro vs H Q E ⟨_,c,fp,s,rfl,⟨dx,d1,d2,w,wt,x,rfl⟩,q⟩
 unfold iC
 walk_at "z"
 exact b7 x.at_ C.aL C.jw zx q
theorem vO:∀vs H Q E,gj K vs H Q E->jt K {nx:=fun _ H'=>Q .non H',rt:=Q} (start ["chest","people","works","coins","rows","work"] vs) H:=by
 rintro vs H Q E ⟨_,c,lp,lw,ld,fp,s,rows,rfl,X0,X,q⟩
 have hle:=X.le
 have hlr:=X.lr
 have hrl:=X.rl
 have hsz:=size_eq
 obtain⟨tp,p1,p2,p3⟩:=X.hp.at
 have hpm:(tp.map V.ref).length=s.ps.length:=by simp[p2]
 have hrm:(rows.map fun r=>V.ref r.t).length=rows.length:=by simp
 have aT:∀r∈s.cs.map (gO s),aY r.1/\∀z∈r.2.2,aY z:=fun r hr=>by
  obtain⟨p,hp,rfl⟩:=LY.mp hr
  refine⟨X.ac p hp,fun z hz=>?_⟩
  obtain⟨p',hp',e⟩:=LY.mp (Mw.mp hz).1
  rw[<-e];exact X.ap p' hp'
 unfold jt
 walk_at "q"
 walk_at "z"
 rename_i lr H1 f1 s1 h1
 have q1:aK K H1 lw (rows.map fun r=>V.ref r.t):=aK.of (s1 _ _ X.hw)
 with_reducible refine wK (fun σ H'=>av H H'/\(∃us,eF H' lr us (rows.map fun r=>(r.n,r.x,(s.ps.map (·.1)).filter fun v=>decide (v∈r.zs))))/\∃v5,σ=[some (.ref c),some (.ref lp),some (.ref lw),some (.ref ld),some (.ref lr),v5]) (fun F hF=>?_) ?_
 ·walk_at "z"
  refine jv (cR (K:=K) (xs:=rows.map fun r=>V.ref r.t) 5) (fun i σ H'=>av H H'/\(∃us,(eF H' lr us ((rows.take i).map fun r=>(r.n,r.x,(s.ps.map (·.1)).filter fun v=>decide (v∈r.zs))))/\∀t∈us,∀x y w,H' t=some (.tup [x,y,.ref w])->w≠lr)/\∃v5,σ=[some (.ref c),some (.ref lp),some (.ref lw),some (.ref ld),some (.ref lr),v5])
   ⟨s1,⟨[],⟨h1,.nil⟩,(by intro t ht;cases ht)⟩,_,rfl⟩ (fun i σ H' p=>aK.of (p.1 _ _ X.hw)) ?_ ?_
  ·rintro i σ Ha Hb hi ⟨sa,⟨us,wa,oa⟩,v5,rfl⟩ sb
   rw[hrm]at hi
   have sab:=sa.trans sb
   have et:(rows.map fun r=>V.ref r.t).getD i .non=.ref (rows[i]).t:=by simp[Mf,hi]
   obtain⟨g1,g2⟩:=X.hr rows[i] (Na hi)
   rw[et]
   have htk:rows.take (i+1)=rows.take i++[rows[i]]:=by rw[Oq,Mg hi];rfl
   generalize rows[i]=r at *
   have g1:=sab _ _ g1
   have g2:=sab _ _ g2
   have wb:=wa.same sb
   have hlb:=wb.1
   have ql:aK K Hb lp (tp.map V.ref):=aK.of (sab _ _ p1)
   show bV _ _ _ _
   walk_at "z"
   exists y8 hlb
   walk_at "z"
   refine iO (gf.of g1) (az (j:=0) rfl) ?_
   walk_at "z"
   refine iO (gf.of g1) (az (j:=1) rfl) ?_
   walk_at "z"
   try refine bA ql ?_
   refine eE (cR (K:=K) (xs:=tp.map V.ref) 0) (fun j=>[some ((tp.map V.ref).getD j .non),some (.ref r.t)]) (by rintro j σ' (rfl|⟨k,rfl⟩)<;>rfl) (fun H' s'=>s'.seq ql) (by rw[hpm];exact Ma (show _<=1000 by omega) bg) (fun j=>decide ((s.ps.getD j ("",0)).1∈r.zs)) (fun j=>.str (s.ps.getD j ("",0)).1) ?_ ?_ ?_
   ·intro j hj H' G' s' kk
    rw[hpm]at hj
    obtain⟨t',e1,e2⟩:=p3 j hj
    have ej:(tp.map V.ref).getD j .non=.ref t':=by simp[Mf,e1]
    rw[ej]
    walk_at "z"
    refine iO (gf.of (s' _ _ (sab _ _ e2))) (az (j:=0) rfl) ?_
    walk_at "z"
    refine iO (gf.of (s' _ _ g1)) (az (j:=2) rfl) ?_
    refine uv (aK.of (s' _ _ g2)) ?_
    walk_at "z"
    exact kk H' (av.refl _)
   ·intro j hj hb' H' G' s' kk
    rw[hpm]at hj
    obtain⟨t',e1,e2⟩:=p3 j hj
    have ej:(tp.map V.ref).getD j .non=.ref t':=by simp[Mf,e1]
    rw[ej]
    walk_at "z"
    refine iO (gf.of (s' _ _ (sab _ _ e2))) (az (j:=0) rfl) ?_
    exact kk H' (av.refl _)
   intro l3 Hc fc sc hc
   rw[hpm,u5 s.ps (fun v=>decide (v∈r.zs))]at hc
   walk_at "z"
   rename_i t4 Hd fd sd hd
   have wd:=(wb.same sc).same sd
   have hul:us.length=i:=by
    have:=Mr wd.2
    simp at this
    omega
   refine dB wd.1 (by rw[Md];exact MD (show _<1000 by omega) bg) ?_
   have sbd:=sc.trans sd
   have n3:l3≠lr:=fun e=>by rw[e,hlb]at fc;cases fc
   have od:∀t∈us,∀x y w,Hd t=some (.tup [x,y,.ref w])->w≠lr:=fun t ht x y w e=>by
    obtain⟨r',_,w',z1,_⟩:=wa.tup t ht
    rw[(sb.trans sbd) _ _ z1]at e
    exact oa t ht x y w (by rw[z1];exact e)
   have bu:bx [lr] Hd (upd Hd lr (.lst ((us++[t4]).map V.ref))):=bx.upd wd.1 (by intro xs z;cases z) (by simp)
   rw[show us.map V.ref++[V.ref t4]=(us++[t4]).map V.ref by simp]
   have hd':=bu.2.1 _ _ hd
   have hc':=bu.1 _ _ (by simpa using n3) (sd _ _ hc)
   refine⟨(sab.trans sbd).upd f1,⟨us++[t4],⟨ao,?_⟩,fun t ht x y w e=>?_⟩,_,rfl⟩
   ·rw[show(rows.take (i+1)).map (fun r=>(r.n,r.x,(s.ps.map (·.1)).filter fun v=>decide (v∈r.zs)))=(rows.take i).map (fun r=>(r.n,r.x,(s.ps.map (·.1)).filter fun v=>decide (v∈r.zs)))++[(r.n,r.x,(s.ps.map (·.1)).filter fun v=>decide (v∈r.zs))] by rw[htk];simp]
    have hnew:JQ (upd Hd lr (.lst ((us++[t4]).map V.ref))) (r.n,r.x,(s.ps.map (·.1)).filter fun v=>decide (v∈r.zs)) t4:=⟨l3,hd',hc'⟩
    refine i6 ?_ hnew
    have h2:=wd.2
    clear wd hc' hd' hnew
    generalize upd Hd lr (.lst ((us++[t4]).map V.ref))=He at *
    have go:∀{rr:List (LK×Int×List LK)}{tt:List LL},L7 (JQ Hd) rr tt->(∀t∈tt,∀x y w,Hd t=some (.tup [x,y,.ref w])->w≠lr)->L7 (JQ He) rr tt:=by
     intro rr tt h o
     induction h with
     |nil=>exact .nil
     |cons q _ ih=>
      obtain⟨w',z1,z2⟩:=q
      exact .cons ⟨w',bu.2.1 _ _ z1,bu.1 _ _ (by simpa using o _ (by simp) _ _ _ z1) z2⟩ (ih fun t ht=>o t (by simp[ht]))
    exact go h2 od
   ·rcases Mp.mp ht with m|m
    ·obtain⟨r',_,w',z1,_⟩:=wd.tup t m
     rw[bu.2.1 _ _ z1]at e
     exact od t m x y w (by rw[z1];exact e)
    ·rw[Mz.mp m,hd']at e
     injection e with e
     injection e with e
     simp at e
     rw[<-e.2.2];exact n3
  ·rintro σ Ha ⟨sa,⟨us,wa,_⟩,v5,rfl⟩
   rw[hrm,Nt (L0 _)]at wa
   exact hF _ _ ⟨sa,⟨us,wa⟩,v5,rfl⟩
 rintro σ H2 ⟨s2,⟨us,w2⟩,v5,rfl⟩
 rw[<-X.told]at w2
 have x2:=X0.same s2
 obtain⟨dx,d1,d2,w,wt,XX,efp⟩:=id x2
 walk_at "q"
 walk_at "z"
 refine bW XX.at_ (cD (by decide +kernel)) ?_
 walk_at "z"
 refine⟨rfl,c,fp,s,rfl,x2,fun l3 H3 f3 s3 r3=>?_⟩
 walk_at "z"
 refine L2.Cu r3.dat ((X.hp.same s2).same s3).dat (Fj X.ap) (by decide) ?_
 walk_at "z"
 refine bW (XX.same s3).at_ (cD (by decide +kernel)) ?_
 walk_at "z"
 refine⟨rfl,c,fp,s,rfl,x2.same s3,X.ap,X.ac,X.aw,by omega,by omega,fun l4 ts4 H4 f4 s4 w4 _=>?_⟩
 walk_at "z"
 refine L2.Cu w4.dat ((w2.same s3).same s4).dat (FF aT) (by decide) ?_
 have s24:=s3.trans s4
 have XX4:=XX.same s24
 have x4:=x2.same s24
 have hd4:=s24 _ _ (s2 _ _ X.hd)
 walk_at "z"
 refine bW XX4.at_ (cD (by decide +kernel)) ?_
 walk_at "z"
 exists rfl,c,fp,s,rfl,x4
 walk_at "z"
 refine bW XX4.at_ (cD (by decide +kernel)) ?_
 walk_at "z"
 exists rfl,c,fp,s,rfl,x4
 walk_at "z"
 refine bW XX4.at_ (cD (by decide +kernel)) ?_
 walk_at "z"
 exists rfl,c,fp,s,rfl,x4
 walk_at "z"
 rename_i l5 H5 f5 s5 h5
 have hd5:=s5 _ _ hd4
 refine kA hd5 uY ?_
 walk_at "z"
 refine kA hd5 AB ?_
 walk_at "z"
 refine kA hd5 Fd ?_
 walk_at "z"
 rename_i l6 H6 f6 s6 h6
 exists l5,l6,[s.pot,s.giv,s.spt],[s.pot,s.giv,s.spt],rfl,rfl,aK.of (s6 _ _ h5),aK.of h6
 rw[decide_eq_true rfl]
 exact q H6 (((s2.trans s24).trans s5).trans s6)
theorem Gr{H:Hp}{Q:VK}{σ:St}(q:∀p H1,H p=none->av H H1->H1 p=some (.dK (hU 0 0 0))->Q (.ref p) H1):EG [((tC (.str "pot")),(tC (.int 0))),((tC (.str "given")),(tC (.int 0))),((tC (.str "spent")),(tC (.int 0)))] σ H Q:=by
 intro p hp
 refine⟨ao,[(.inr "pot",.int 0),(.inr "given",.int 0),(.inr "spent",.int 0)],rfl,by decide,?_⟩
 have e:oj [] [((.inr "pot":Key),V.int 0),(.inr "given",.int 0),(.inr "spent",.int 0)]=hU 0 0 0:=by
  obtain⟨h1,h2,h3⟩:=tX
  unfold hU
  simp[oj,putK,h1,h2,h3]
 rw[e]
 exact q p _ hp ((av.updN hp).upd hp) ao
theorem Jd(s:bo)(D:aW):(D.app s).ws.length<=s.ws.length+1:=by
 cases D with
 |enrol z=>exact Nq _
 |propose z x=>exact Nq _
 |give x=>
  show(jz s x).ws.length<=_
  unfold jz
  split<;>exact Nq _
 |leave z=>exact QD (Oc _ _)
 |withdraw z=>exact QD (Oc _ _)
 |want v n=>
  show(kW s v n).ws.length<=_
  unfold kW
  split
  ·exact Nq _
  ·simp
 |unwant v n=>exact QD (Oc _ _)
structure ze(K:LO)(H:Hp)(c lp lw ld:LL)(fp:List LL)(s:bo)(rows:List j3):Prop where
 ch:aN K H c fp s
 r:eV H lp lw ld s rows
 dis:∀a∈cN lp lw ld rows,a∉fp
section
variable {H H':Hp}{c lp lw ld:LL}{fp fp':List LL}{s s':bo}{rows rows':List j3}
theorem ze.same(x:ze K H c lp lw ld fp s rows)(h:av H H'):ze K H' c lp lw ld fp s rows:=⟨x.ch.same h,x.r.same h,x.dis⟩
theorem ze.chest(x:ze K H c lp lw ld fp s rows)(b:bx fp H H'):eV H' lp lw ld s rows:=x.r.but b x.dis
theorem ze.both{H2:Hp}(x:ze K H c lp lw ld fp s rows)(c1:aN K H' c fp' s')(b1:bx fp H H')(n1:kS fp fp' H)(r2:eV H2 lp lw ld s' rows')(mv:Mv (cN lp lw ld rows) (cN lp lw ld rows') H' H2):
  ze K H2 c lp lw ld fp' s' rows'/\Mv (cN lp lw ld rows++fp) (cN lp lw ld rows'++fp') H H2:=by
 have hth:=x.r.there
 have d1:∀a∈cN lp lw ld rows,a∉fp':=fun a ha m=>by
  rcases n1 a m with z|z
  ·exact x.dis a ha z
  ·exact hth a ha z
 refine⟨⟨c1.but mv.1 fun a ha m=>d1 a m ha,r2,fun a ha m=>?_⟩,⟨fun a o n h=>?_,fun a xs h=>mv.1.2.1 _ _ (b1.2.1 _ _ h),fun a h=>b1.2.2 _ (mv.1.2.2 _ h)⟩,fun a ha=>?_⟩
 ·rcases mv.2 a ha with z|z
  ·exact d1 a z m
  ·exact c1.there a m z
 ·exact mv.1.1 _ _ (fun m=>n (Mp.mpr (.inl m))) (b1.1 _ _ (fun m=>n (Mp.mpr (.inr m))) h)
 ·rcases Mp.mp ha with h|h
  ·rcases mv.2 a h with z|z
   ·exact .inl (Mp.mpr (.inl z))
   ·exact .inr (b1.2.2 _ z)
  ·rcases n1 a h with z|z
   ·exact .inl (Mp.mpr (.inr z))
   ·exact .inr z
theorem ze.there(x:ze K H c lp lw ld fp s rows):∀a∈cN lp lw ld rows++fp,H a≠none:=fun a ha=>by
 rcases Mp.mp ha with h|h
 ·exact x.r.there a h
 ·exact x.ch.there a h
end
noncomputable def pX(cell:Int)(a b:Nat):bo:=⟨(Me a).map (fun k=>(eo cell k,0)),(Me b).map (fun k:Nat=>(eo cell k,(k:Int)+1)),[],0,0,0⟩
noncomputable def iQ(cell x:Int)(m n i:Nat):aW:=if i<m then .enrol (eo cell i)else if i<m+n then .propose (eo cell (i-m)) (((i-m:Nat):Int)+1)else .give x
theorem IU(cell:Int)(a b:Nat):(pX cell a b).ps.map (·.1)=(Me a).map (eo cell):=by unfold pX;rw[Mn];rfl
theorem IK(cell:Int)(a b:Nat):(pX cell a b).cs.map (·.1)=(Me b).map (eo cell):=by unfold pX;rw[Mn];rfl
theorem xp{cell:Int}{a:Nat}(h:a<21):eo cell a∉(Me a).map (eo cell):=fun m=>by
 obtain⟨j,hj,e⟩:=LY.mp m
 have hj:=NC.mp hj
 have:=Dj (show j<21 by omega) h e
 omega
theorem Cw{cell x:Int}{m n i:Nat}(hm:m<=20)(hn:n<=12)(hi:i<m+n):(iQ cell x m n i).due (pX cell (min i m) (i-m))=none/\(iQ cell x m n i).app (pX cell (min i m) (i-m))=pX cell (min (i+1) m) (i+1-m):=by
 unfold iQ
 by_cases h:i<m
 ·rw[if_pos h,show min i m=i by omega,show min (i+1) m=i+1 by omega,show i-m=0 by omega,show i+1-m=0 by omega]
  constructor
  ·rw[aW.due,if_neg (by rw[mB];simp),if_neg (by rw[IU];exact xp (by omega)),if_neg (by simp[pX];omega)]
  ·show({pX cell i 0 with ps:=(pX cell i 0).ps++[(eo cell i,0)]}:bo)=_
   unfold pX
   rw[Oo,MX]
   rfl
 ·rw[if_neg h,if_pos hi,show min i m=m by omega,show min (i+1) m=m by omega,show i+1-m=i-m+1 by omega]
  constructor
  ·rw[aW.due,if_neg (by rw[mB];simp),if_neg (by rw[IK];exact xp (by omega)),if_neg (by omega),if_neg (by simp[pX];omega)]
  ·show({pX cell m (i-m)with cs:=(pX cell m (i-m)).cs++[(eo cell (i-m),((i-m:Nat):Int)+1)]}:bo)=_
   unfold pX
   rw[Oo,MX]
   rfl
theorem GO{cell x:Int}{m n i:Nat}:(iQ cell x m n i).tx:=by
 unfold iQ
 split
 ·exact tR (mB _ _)
 ·split
  ·exact tR (mB _ _)
  ·trivial
theorem Cd{H:Hp}{l:LL}{bs:List Bool}(h:H l=some (.lst (bs.map V.bl))):de K H (.ref l) (.list (bs.map QZ)):=by
 have all:∀bs:List Bool,DatAll K H (bs.map V.bl) (bs.map QZ):=fun bs=>by
  induction bs with
  |nil=>exact .nil
  |cons b bs ih=>exact .cons (.bl b) ih
 exact .lst (aK.of h) (all bs)
theorem Jz{H18 He:Hp}{c lp lw ld pz lwd lnm lt lx a l11:LL}{fp:List LL}{s:bo}{rows:List j3}{D:aW}{i n:Nat}{first cell one:Int}{v17:Option V}{Q:VK}
  (xe:ze K He c lp lw ld fp s rows) (ke:Kept H18 [pz,lwd,lnm] (cN lp lw ld rows++fp) He) (hde:He lt=some (.lst D.things)) (ltn:lt∉cN lp lw ld rows++fp) (htx:D.tx) (wl:s.ws.length<=100+i)
  (hnm18:H18 lnm=some (.lst [.str "name",.str "twice",.str "voter",.str "work",.str "much",.str "full"])):
  ∀(o:Option LK)(vf:V)(Hf:Hp)(fpf:List LL)(sf:bo),D.due s=o->aN K Hf c fpf sf->bx fp He Hf->kS fp fpf He->(o=none->vf=.non/\sf=D.app s)->(∀cl,o=some cl->sf=s/\∃l,vf=.ref l/\Hf l=some (.lst ((iV cl).map V.bl)))->
    (aF (bU (qy (aV (aH i4 (ae 15) (tC (.str "")))) (aV (aH zX (ae 16) (tC .non)))) (bE (tC (.bl false))) bH)
     (aF (bC (bL [none,some 15] (cp K (ae 12)) (au 0) cY (aH i4 (ae 1) (ae 0))) (au 17))
     (aF (bU (qy (aV (aH FN (ae 15) (tC (.str "")))) (aV (aH (oB K true) (ae 16) (aH vw (ae 17) (cW (af (tC (.bl false)) (af (tC (.bl false)) (af (tC (.bl true)) ay)))))))) (bE (tC (.bl false))) bH)
     (aF (bU (aV (aH i4 (ae 15) (tC (.str "")))) (bV (a9 (fi K) [] E0 (af (ae 9) (af (ae 10) (af (ae 4) (af (ae 5) (af (ae 6) ay))))))) bH)
     (bU (zo (tB (a9 (gj K) [] E0 (af (ae 3) (af (ae 4) (af (ae 5) (af (ae 6) ay))))))) (bE (tC (.bl false))) bH)))))
     {nx:=fun σ H'=>∃fp s rows,ze K H' c lp lw ld fp s rows/\s.ws.length<=100+(i+1)/\Kept H18 [pz,lwd,lnm] (cN lp lw ld rows++fp) H'/\∃v9 v10 v13 v14 v15 v16 v17,σ=[some (.ref a),some (.int first),some (.int cell),some (.ref c),some (.ref lp),some (.ref lw),some (.ref ld),some (.int (n:Int)),some (.ref l11),v9,v10,some (.ref lwd),some (.ref lnm),v13,v14,v15,v16,v17],rt:=Q}
     [some (.ref a),some (.int first),some (.int cell),some (.ref c),some (.ref lp),some (.ref lw),some (.ref ld),some (.int (n:Int)),some (.ref l11),some (.str D.word),some (.ref lt),some (.ref lwd),some (.ref lnm),some (.int one),some (.ref lx),some (.str (wk o)),some vf,v17] Hf:=by
 intro o vf Hf fpf sf hdo cf bf nf ho1 ho2
 have r_f:eV Hf lp lw ld s rows:=xe.chest bf
 have hltf:Hf lt=some (.lst D.things):=bf.1 _ _ (fun mm=>ltn (Mp.mpr (.inr mm))) hde
 have hlnf:Hf lnm=some (.lst [.str "name",.str "twice",.str "voter",.str "work",.str "much",.str "full"]):=bf.1 _ _ (fun mm=>(ke lnm (by simp)).1 (Mp.mpr (.inr mm))) (ke.at (by simp) hnm18)
 have names:∀(w:LK)(Hg:Hp)(G:VK)(σ:St),Hg lnm=some (.lst [.str "name",.str "twice",.str "voter",.str "work",.str "much",.str "full"])->cK [none,some 15] σ=[none,some (.str w)]->
   (∀l H',Hg l=none->av Hg H'->H' l=some (.lst (((["name","twice","voter","work","much","full"]:List LK).map fun z=>decide (w=z)).map V.bl))->G (.ref l) H')->cO [none,some 15] (au 0) cY (aH i4 (ae 1) (ae 0)) (CP K lnm) σ Hg G:=by
  intro w Hg G σ hg hlf hk
  refine cG (cR (K:=K) (xs:=[V.str "name",.str "twice",.str "voter",.str "work",.str "much",.str "full"]) 0) (fun j=>[some (([V.str "name",.str "twice",.str "voter",.str "work",.str "much",.str "full"]:List V).getD j .non),some (.str w)]) (by rw[hlf];rintro j σ' (rfl|⟨k,rfl⟩)<;>rfl) (fun H' s'=>s'.seq (aK.of hg)) (Ma (show 6<=1000 by decide) bg) (fun j=>.bl (decide (w=(["name","twice","voter","work","much","full"]:List LK).getD j ""))) ?_ ?_
  ·intro j hj H' G s' kk
   have hj:j<6:=hj
   have hc:j=0\/j=1\/j=2\/j=3\/j=4\/j=5:=by omega
   rcases hc with rfl|rfl|rfl|rfl|rfl|rfl<;>(walk_at "z";exact Hw (kk H' (av.refl _)))
  ·intro l H' f s' h
   exact hk l H' f s' h
 obtain⟨e0,e1,e2,e3,e4,e5,e6⟩:=Cy
 cases o with
 |none=>
  obtain⟨rfl,rfl⟩:=ho1 rfl
  rw[e0]
  walk_at "q"
  walk_at "z"
  refine gP rfl ?_
  walk_at "z"
  refine uU rfl ?_
  walk_at "z"
  walk_at "q"
  walk_at "z"
  try refine bA (aK.of hlnf) ?_
  refine names "" _ _ _ hlnf rfl fun l2 H2 f2 s2 h2=>?_
  walk_at "z"
  walk_at "q"
  walk_at "z"
  refine uU rfl ?_
  walk_at "z"
  walk_at "q"
  walk_at "z"
  refine gP rfl ?_
  walk_at "z"
  refine⟨rfl,lt,lp,lw,ld,s,rows,D,rfl,s2 _ _ hltf,fun mm=>ltn (Mp.mpr (.inl mm)),r_f.same s2,hdo,htx,fun H3 rows' r3 mv3=>?_⟩
  obtain⟨x3,mvx⟩:=xe.both (cf.same s2) (bf.trans (bx.of s2)) nf r3 mv3
  walk_at "z"
  refine⟨rfl,c,lp,lw,ld,_,_,_,rfl,x3.ch,x3.r,fun H4 s4=>?_⟩
  walk_at "z"
  exact⟨_,_,rows',x3.same s4,Ma (Jd s D) (by omega),(ke.mv mvx).same s4,_,_,_,_,_,_,_,rfl⟩
 |some cl=>
  obtain⟨rfl,l,rfl,hl⟩:=ho2 cl rfl
  obtain⟨w,hw,hw0,hwk,hws⟩:∃w,wk (some cl)=w/\w≠""/\((["name","twice","voter","work","much","full"]:List LK).map fun z=>decide (w=z))++[false,false,true]=iV cl/\Pb (.list ((iV cl).map QZ))=true:=by
   rcases Ce hdo with rfl|rfl|rfl|rfl|rfl|rfl
   ·exact⟨_,e1,by decide +kernel,by decide +kernel,by decide +kernel⟩
   ·exact⟨_,e2,by decide +kernel,by decide +kernel,by decide +kernel⟩
   ·exact⟨_,e3,by decide +kernel,by decide +kernel,by decide +kernel⟩
   ·exact⟨_,e4,by decide +kernel,by decide +kernel,by decide +kernel⟩
   ·exact⟨_,e5,by decide +kernel,by decide +kernel,by decide +kernel⟩
   ·exact⟨_,e6,by decide +kernel,by decide +kernel,by decide +kernel⟩
  rw[hw]
  walk_at "q"
  walk_at "z"
  refine bN hw0 ?_
  walk_at "z"
  walk_at "q"
  walk_at "z"
  try refine bA (aK.of hlnf) ?_
  refine names w _ _ _ hlnf rfl fun l2 H2 f2 s2 h2=>?_
  walk_at "z"
  walk_at "q"
  walk_at "z"
  refine k9 hw0 ?_
  walk_at "z"
  rename_i l3 H3 f3 s3 h3
  refine dH (s3 _ _ h2) h3 (by simp[size_eq]) fun l4 H4 f4 s4 h4=>?_
  have hl4:H4 l4=some (.lst ((iV cl).map V.bl)):=by rw[h4,<-hwk,MX];rfl
  have s34:=s3.trans s4
  refine J8 (Cd ((s2.trans s34) _ _ hl)) (Cd hl4) hws ?_
  walk_at "z"
  walk_at "q"
  walk_at "z"
  refine bN hw0 ?_
  walk_at "z"
  obtain⟨x5,mvx⟩:=xe.both (cf.same (s2.trans s34)) (bf.trans (bx.of (s2.trans s34))) nf (r_f.same (s2.trans s34)) (Mv.same (av.refl _))
  refine⟨rfl,c,lp,lw,ld,_,_,_,rfl,x5.ch,x5.r,fun H5 s5=>?_⟩
  walk_at "z"
  exact⟨_,_,_,x5.same s5,by omega,(ke.mv mvx).same s5,_,_,_,_,_,_,_,rfl⟩
theorem Je:∀vs H Q E,AY K vs H Q E->B8 K {nx:=fun _ H'=>Q .non H',rt:=Q} (start ["script","first","cell","chest","people","works","coins","many","rows","word","things","words","names","one","xs","due","found","kinds"] vs) H:=by
 rintro vs H Q E ⟨_,a,ns,rfl,hS,hl63,q⟩
 have hsz:=size_eq
 unfold B8
 walk_at "q"
 walk_at "z"
 refine⟨rfl,a,ns,0,rfl,hS,fun first H1 s1=>?_⟩
 walk_at "z"
 walk_at "q"
 walk_at "z"
 refine⟨rfl,a,ns,1,rfl,s1.seq hS,fun cell H2 s2=>?_⟩
 walk_at "z"
 walk_at "q"
 walk_at "z"
 refine Jh fun c dx f0 g0 n0=>?_
 refine⟨rfl,c,dx,rfl,ao,fun H3 fp0 x0 b0 w0=>⟨rfl,?_⟩⟩
 obtain⟨s3,e0⟩:=made f0 g0 b0 w0
 have s03:=(s1.trans s2).trans s3
 walk_at "z"
 walk_at "q"
 walk_at "z"
 rename_i lp H4 f4 s4 h4
 walk_at "q"
 walk_at "z"
 rename_i lw H5 f5 s5 h5
 walk_at "q"
 walk_at "z"
 refine Gr fun ld H6 f6 s6 h6=>?_
 have s35:=s4.trans s5
 have s36:=s35.trans s6
 have s56:=s6
 have hlp6:=(s5.trans s6) _ _ h4
 have hlw6:=s6 _ _ h5
 have m0:=x0.there
 have nlw:lp≠lw:=du h4 f5
 have nld1:lp≠ld:=du (s5 _ _ h4) f6
 have nld2:lw≠ld:=du h5 f6
 have X6:ze K H6 c lp lw ld fp0 (pX cell 0 0) []:=by
  refine⟨x0.same s36,⟨⟨[],hlp6,.nil⟩,hlw6,(by intro r hr;cases hr),h6,?_,rfl,fun v n=>⟨(by intro h;cases h),(by rintro⟨r,hr,_⟩;cases hr)⟩,(by intro r hr;cases hr),N6,N6,(by intro r hr;cases hr),(by intro r hr;cases hr),MK _,MK _,(by intro r hr;cases hr)⟩,fun x hx m=>?_⟩
  ·show[lp,lw,ld].Nodup
   simp[nlw,nld1,nld2]
  ·have hx:x=lp\/x=lw\/x=ld:=by simpa[cN]using hx
   rcases hx with rfl|rfl|rfl
   ·exact m0 _ m f4
   ·exact m0 _ m (s4.free f5)
   ·exact m0 _ m (s35.free f6)
 have s06:=s03.trans s36
 walk_at "z"
 walk_at "q"
 walk_at "z"
 rename_i l7 H7 f7 s7 h7
 have hr0:=Pm first (show(2:Int)≠0 by decide)
 obtain⟨r,hr,hr2⟩:∃r:Nat,first%2=(r:Int)/\r<2:=⟨(first%2).toNat,by omega,by omega⟩
 rw[hr]
 obtain⟨m,hm,hm20⟩:∃m:Nat,([V.int 20,V.int (first/4%21)]:List V)[r]?=some (.int (m:Int))/\m<=20:=by
  have hc:r=0\/r=1:=by omega
  rcases hc with rfl|rfl
  ·exact⟨20,rfl,by decide⟩
  ·exact⟨(first/4%21).toNat,by show some (V.int (first/4%21))=_;rw[show(((first/4%21).toNat:Nat):Int)=first/4%21 by omega],by omega⟩
 refine bB (aK.of h7) (az hm) ?_
 walk_at "z"
 walk_at "q"
 walk_at "z"
 rw[show((m:Int)).toNat=m by omega]
 refine d6 (AH (lo:=0) (n:=m) 0) (fun j=>[some (.int (0+(j:Int))),some (.int cell)]) (by rintro j σ' (rfl|⟨k,rfl⟩)<;>rfl) (fun _ _=>trivial) (Ma (show _<=1000 by omega) bg) (fun _=>true)
  (fun l j v H'=>∃t b,v=V.ref t/\(t≠l/\b≠l/\H7 b=none)/\H' t=some (.tup [.str "enrol",.ref b])/\H' b=some (.lst [.str (eo cell j)]))
  (fun l j v Ha Hb sx ⟨t,b,e,n,h1,h2⟩=>⟨t,b,e,n,sx _ _ n.1 h1,sx _ _ n.2.1 h2⟩) (fun i hi H' G s k=>k H' (av.refl _)) ?_ ?_
 ·intro l j hj _ H' G h0 ⟨o,ho⟩ s' kk
  walk_at "z"
  refine⟨rfl,cell,j,by rw[show(0+(j:Int))=(j:Int) by omega],by omega,fun Ha sa=>?_⟩
  walk_at "z"
  rename_i b Hb fb sb hb t Hc fc sc hc
  have nl:∀{y:LL},H' y=none->y≠l:=fun {y} hy e=>by rw[e,ho]at hy;cases hy
  exact kk _ Hc ⟨t,b,rfl,⟨nl (sa.free (sb.free fc)),nl (sa.free fb),s'.free (sa.free fb)⟩,hc,sc _ _ hb⟩ ((sa.trans sb).trans sc)
 intro l8 ys8 H8 f8 s8 h8 pr8
 rw[Nu.mpr (fun _ _=>rfl)]at pr8
 walk_at "z"
 walk_at "q"
 walk_at "z"
 rename_i l9 H9 f9 s9 h9
 obtain⟨r',hr',hr2'⟩:∃r:Nat,first/2%2=(r:Int)/\r<2:=⟨(first/2%2).toNat,by omega,by omega⟩
 rw[hr']
 obtain⟨n,hn,hn12⟩:∃n:Nat,([V.int 12,V.int (first/84%13)]:List V)[r']?=some (.int (n:Int))/\n<=12:=by
  have hc:r'=0\/r'=1:=by omega
  rcases hc with rfl|rfl
  ·exact⟨12,rfl,by decide⟩
  ·exact⟨(first/84%13).toNat,by show some (V.int (first/84%13))=_;rw[show(((first/84%13).toNat:Nat):Int)=first/84%13 by omega],by omega⟩
 refine bB (aK.of h9) (az hn) ?_
 walk_at "z"
 walk_at "q"
 walk_at "z"
 rw[show((n:Int)).toNat=n by omega]
 have s89:=s9
 refine d6 (AH (lo:=0) (n:=n) 0) (fun j=>[some (.int (0+(j:Int))),some (.int cell)]) (by rintro j σ' (rfl|⟨k,rfl⟩)<;>rfl) (fun _ _=>trivial) (Ma (show _<=1000 by omega) bg) (fun _=>true)
  (fun l j v H'=>∃t b,v=V.ref t/\(t≠l/\b≠l/\H9 b=none)/\H' t=some (.tup [.str "propose",.ref b])/\H' b=some (.lst [.str (eo cell j),.int ((j:Int)+1)]))
  (fun l j v Ha Hb sx ⟨t,b,e,n,h1,h2⟩=>⟨t,b,e,n,sx _ _ n.1 h1,sx _ _ n.2.1 h2⟩) (fun i hi H' G s k=>k H' (av.refl _)) ?_ ?_
 ·intro l j hj _ H' G h0 ⟨o,ho⟩ s' kk
  walk_at "z"
  refine⟨rfl,cell,j,by rw[show(0+(j:Int))=(j:Int) by omega],by omega,fun Ha sa=>?_⟩
  walk_at "z"
  rename_i b Hb fb sb hb t Hc fc sc hc
  rw[show(0+(j:Int))=(j:Int) by omega]at hb
  have nl:∀{y:LL},H' y=none->y≠l:=fun {y} hy e=>by rw[e,ho]at hy;cases hy
  exact kk _ Hc ⟨t,b,rfl,⟨nl (sa.free (sb.free fc)),nl (sa.free fb),s'.free (sa.free fb)⟩,hc,sc _ _ hb⟩ ((sa.trans sb).trans sc)
 intro l10 ys10 H10 f10 s10 h10 pr10
 rw[Nu.mpr (fun _ _=>rfl)]at pr10
 have s810:=s9.trans s10
 have hy8:ys8.length=m:=by rw[<-Mr pr8,OT]
 have hy10:ys10.length=n:=by rw[<-Mr pr10,OT]
 refine dH (s810 _ _ h8) h10 (by omega) fun l11 H11 f11 s11 h11=>?_
 walk_at "z"
 have s611:=((s7.trans s8).trans s810).trans s11
 have s811:=s810.trans s11
 with_reducible refine wK (fun σ H'=>∃fp s rows,ze K H' c lp lw ld fp s rows/\s.ws=[]/\(∀p∈s.ps,0<=p.2/\p.2<=1000000000000)/\Mv (cN lp lw ld []++fp0) (cN lp lw ld rows++fp) H6 H'/\∃v9 v10,σ=[some (.ref a),some (.int first),some (.int cell),some (.ref c),some (.ref lp),some (.ref lw),some (.ref ld),some (.int (n:Int)),some (.ref l11),v9,v10,none,none,none,none,none,none,none]) (fun F hF=>?_) ?_
 ·walk_at "z"
  rename_i b12 H12 f12 s12 h12 t13 H13 f13 s13 h13 l14 H14 f14 s14 h14
  have s1114:=(s12.trans s13).trans s14
  refine dH (s1114 _ _ h11) h14 (by rw[MR];simp;omega) fun l15 H15 f15 s15 h15=>?_
  have s1115:=s1114.trans s15
  have s615:=s611.trans s1115
  have X15:=X6.same s615
  have hall:∀i,i<m+n+1->∃t b,(ys8++ys10++[V.ref t13])[i]?=some (.ref t)/\H15 t=some (.tup [.str (iQ cell (first%1000) m n i).word,.ref b])/\H15 b=some (.lst (iQ cell (first%1000) m n i).things)/\H6 b=none:=fun i hi=>by
   unfold iQ
   by_cases h1:i<m
   ·rw[if_pos h1]
    obtain⟨v,e,t,b,rfl,nn,g1,g2⟩:=dI pr8 (show(Me m)[i]?=some i by simp[h1])
    exact⟨t,b,by rw[QU,N4 (by omega)];exact e,(s811.trans s1115) _ _ g1,(s811.trans s1115) _ _ g2,s7.free nn.2.2⟩
   ·rw[if_neg h1]
    by_cases h2:i<m+n
    ·rw[if_pos h2]
     obtain⟨v,e,t,b,rfl,nn,g1,g2⟩:=dI pr10 (RO (show i-m<n by omega))
     refine⟨t,b,by rw[N4 (by rw[MR];omega),Oa (by omega),hy8];exact e,(s11.trans s1115) _ _ g1,(s11.trans s1115) _ _ g2,(((s7.trans s8).trans s9)).free nn.2.2⟩
    ·rw[if_neg h2]
     refine⟨t13,b12,by rw[Oa (by rw[MR];omega),show i-(ys8++ys10).length=0 by rw[MR];omega];rfl,(s14.trans s15) _ _ h13,((s13.trans s14).trans s15) _ _ h12,s611.free f12⟩
  have hlen:(ys8++ys10++[V.ref t13]).length=m+n+1:=by simp[hy8,hy10];omega
  have pick:∀i:Nat,∃tb:LL×LL,i<m+n+1->(ys8++ys10++[V.ref t13])[i]?=some (.ref tb.1)/\H15 tb.1=some (.tup [.str (iQ cell (first%1000) m n i).word,.ref tb.2])/\H15 tb.2=some (.lst (iQ cell (first%1000) m n i).things)/\H6 tb.2=none:=fun i=>by
   by_cases hi:i<m+n+1
   ·obtain⟨t,b,h⟩:=hall i hi
    exact⟨(t,b),fun _=>h⟩
   ·exact⟨(0,0),fun h=>absurd h hi⟩
  obtain⟨tb,htb⟩:=Rc pick
  have hts:ys8++ys10++[V.ref t13]=((Me (m+n+1)).map fun i=>(tb i).1).map V.ref:=by
   refine List.ext_getElem? fun i=>?_
   by_cases hi:i<m+n+1
   ·rw[(htb i hi).1]
    simp[hi]
   ·rw[NR (by omega),NR (by simp;omega)]
  rw[hts]at h15
  have l15n:l15∉cN lp lw ld []++fp0:=fun mm=>X6.there l15 mm ((s611.trans s1114).free f15)
  have bn:∀i,i<m+n+1->(tb i).2∉cN lp lw ld []++fp0:=fun i hi mm=>X6.there _ mm (htb i hi).2.2.2
  have htl:((Me (m+n+1)).map fun i=>(tb i).1).length=m+n+1:=by simp
  walk_at "z"
  try refine bA (aK.of h15) ?_
  refine jv (pB (K:=K) (a:=l15) (ts:=(Me (m+n+1)).map fun i=>(tb i).1) (u:=fun i=>.str (iQ cell (first%1000) m n i).word) (v:=fun i=>.ref (tb i).2) 9 10)
   (fun i σ H'=>∃fp s rows,ze K H' c lp lw ld fp s rows/\Mv (cN lp lw ld []++fp0) (cN lp lw ld rows++fp) H15 H'/\(i<=m+n->s=pX cell (min i m) (i-m))/\(m+n<i->s=jz (pX cell m n) (first%1000))/\∃v9 v10,σ=[some (.ref a),some (.int first),some (.int cell),some (.ref c),some (.ref lp),some (.ref lw),some (.ref ld),some (.int (n:Int)),some (.ref l11),v9,v10,none,none,none,none,none,none,none])
   ⟨fp0,_,[],X15,Mv.same (av.refl _),fun _=>by rw[show min 0 m=0 by omega,show 0-m=0 by omega],fun h=>by omega,_,_,rfl⟩ (fun i σ H' ⟨fp,s,rows,_,mv,_⟩=>⟨aK.of (mv.1.1 _ _ l15n h15),fun i t ht=>by
    have hi:i<m+n+1:=by rw[<-htl];exact(Mx.mp ht).1
    have:t=(tb i).1:=by
     rw[MO,RO hi]at ht
     exact(MB ht).symm
    rw[this]
    exact gf.of (mv.1.2.1 _ _ (htb i hi).2.1)⟩) ?_ ?_
  ·rintro i σ Ha Hb hi ⟨fp,s,rows,xa,mv,hs1,hs2,v9,v10,rfl⟩ sb
   rw[htl]at hi
   have es:=hs1 (by omega)
   subst es
   have xb:=xa.same sb
   have hdue:(iQ cell (first%1000) m n i).due (pX cell (min i m) (i-m))=none:=by
    by_cases h:i<m+n
    ·exact(Cw hm20 hn12 h).1
    ·unfold iQ
     rw[if_neg (by omega),if_neg h,aW.due,if_neg (by omega)]
   have htx:(iQ cell (first%1000) m n i).tx:=GO
   have hb0:=sb _ _ (mv.1.1 _ _ (bn i hi) (htb i hi).2.2.1)
   have hbn:=mv.out (htb i hi).2.2.1 (bn i hi)
   show aF _ _ _ _ _
   walk_at "q"
   walk_at "z"
   refine⟨rfl,c,(tb i).2,fp,_,_,rfl,hb0,xb.ch,htx,xb.r.le,xb.r.aw,MK _,fun _ Hc fpc xc bc nc=>?_,fun cl e=>by rw[hdue]at e;cases e⟩
   walk_at "z"
   have rc:=xb.chest bc
   have hb1:=bc.1 _ _ (fun mm=>hbn (Mp.mpr (.inr mm))) hb0
   refine⟨rfl,(tb i).2,lp,lw,ld,_,rows,_,rfl,hb1,fun mm=>hbn (Mp.mpr (.inl mm)),rc,hdue,htx,fun Hd rows' rd mvd=>?_⟩
   obtain⟨xd,mvx⟩:=xb.both xc bc nc rd mvd
   walk_at "z"
   refine⟨fpc,_,rows',xd,(mv.trans (Mv.same sb)).trans mvx,fun h=>?_,fun h=>?_,_,_,rfl⟩
   ·exact(Cw hm20 hn12 (by omega)).2
   ·have hi':i=m+n:=by omega
    subst hi'
    unfold iQ
    rw[if_neg (by omega),if_neg (by omega),show min (m+n) m=m by omega,show m+n-m=n by omega]
    rfl
  ·rintro σ Ha ⟨fp,s,rows,xa,mv,_,hs2,v9,v10,rfl⟩
   have es:=hs2 (by rw[htl];omega)
   have hx0:0<=first%1000/\first%1000<1000:=by omega
   refine hF _ _ ⟨fp,s,rows,xa,?_,fun p hp=>?_,(Mv.same s615).trans mv,_,_,rfl⟩
   ·rw[es]
    unfold jz
    split<;>rfl
   ·rw[es]at hp
    unfold jz at hp
    by_cases h:(pX cell m n).ps=[]
    ·rw[if_pos h]at hp
     rw[h]at hp
     cases hp
    ·rw[if_neg h]at hp
     obtain⟨p',hp',rfl⟩:=LY.mp hp
     obtain⟨k,_,rfl⟩:=LY.mp hp'
     have hpos:0<(pX cell m n).ps.length:=Pj.mpr h
     have e1:(pX cell m n).pot+first%1000=first%1000:=by show(0:Int)+_=_;omega
     show 0<=0+((pX cell m n).pot+first%1000)/((pX cell m n).ps.length:Int)/\0+((pX cell m n).pot+first%1000)/((pX cell m n).ps.length:Int)<=_
     rw[e1]
     have h1:=Int.ediv_nonneg hx0.1 (show(0:Int)<=((pX cell m n).ps.length:Int) by omega)
     have h2:=Int.ediv_le_self ((pX cell m n).ps.length:Int) hx0.1
     omega
 rintro σ H12 ⟨fp,s,rows,x12,hws,hp0,mv12,v9,v10,rfl⟩
 with_reducible refine wK (fun σ H'=>∃fp s rows,ze K H' c lp lw ld fp s rows/\s.ws.length<=100/\Mv (cN lp lw ld []++fp0) (cN lp lw ld rows++fp) H6 H'/\σ=[some (.ref a),some (.int first),some (.int cell),some (.ref c),some (.ref lp),some (.ref lw),some (.ref ld),some (.int (n:Int)),some (.ref l11),v9,v10,none,none,none,none,none,none,none]) (fun F hF=>?_) ?_
 ·walk_at "z"
  refine gu (fun hy=>?_) (fun hy=>?_)
  ·walk_at "z"
   refine⟨rfl,c,lp,lw,ld,fp,s,rows,rfl,x12.ch,x12.r,x12.dis,hws,hp0,fun H' fp' s' rows' xc xr wl mv dis=>?_⟩
   walk_at "z"
   exact hF _ _ ⟨fp',s',rows',⟨xc,xr,dis⟩,wl,mv12.trans mv,rfl⟩
  ·walk_at "z"
   exact hF _ _ ⟨fp,s,rows,x12,by rw[hws];exact MK _,mv12,rfl⟩
 clear hws hp0 x12 mv12
 rintro σ H13 ⟨fp,s,rows,x13,wl13,mv13,rfl⟩
 have hout0:∀y∈cN lp lw ld []++fp0,H y=none:=fun y hy=>by
  rcases Mp.mp hy with h|h
  ·have h:y=lp\/y=lw\/y=ld:=by simpa[cN]using h
   rcases h with rfl|rfl|rfl
   ·exact s03.free f4
   ·exact(s03.trans s4).free f5
   ·exact(s03.trans s35).free f6
  ·exact(s1.trans s2).free (e0 y h)
 have s013:av H H13:=fun y o hy=>mv13.1.1 y o (fun mm=>by rw[hout0 y mm]at hy;cases hy) (s06 _ _ hy)
 walk_at "q"
 walk_at "z"
 rename_i l14 H14 f14 s14 h14
 walk_at "q"
 walk_at "z"
 rename_i l15 H15 f15 s15 h15
 refine dH (s15 _ _ h14) h15 (by simp[size_eq]) fun lwd H16 f16 s16 h16=>?_
 walk_at "z"
 walk_at "q"
 walk_at "z"
 rename_i lnm H17 f17 s17 h17
 have s1317:=((s14.trans s15).trans s16).trans s17
 have x17:=x13.same s1317
 have hth13:=x13.there
 walk_at "q"
 have hS17:aK K H17 a (ns.map V.int):=(s013.trans s1317).seq hS
 walk_at "z"
 rename_i pz H18 f18 s18 h18
 have hc1:=Ig (ns.map V.int) 2 62
 obtain⟨ms,e9,_,_⟩:=Ae ns (some ((2:Nat):Int)) (some ((62:Nat):Int))
 rw[e9,Md]at hc1
 have hz:H18 pz=some (.lst (ms.map V.int)):=by rw[<-e9];exact h18
 have hms:(ms.map V.int).length=ms.length:=by simp
 have x18:=x17.same s18
 have hwd18:=(s17.trans s18) _ _ h16
 have hnm18:=s18 _ _ h17
 have K18:Kept H18 [pz,lwd,lnm] (cN lp lw ld rows++fp) H18:=fun y hy=>by
  simp only[L9,NG,or_false]at hy
  rcases hy with rfl|rfl|rfl
  ·exact⟨fun mm=>x17.there _ mm f18,_,hz,hz⟩
  ·exact⟨fun mm=>hth13 _ mm ((s14.trans s15).free f16),_,hwd18,hwd18⟩
  ·exact⟨fun mm=>hth13 _ mm (((s14.trans s15).trans s16).free f17),_,hnm18,hnm18⟩
 try refine bA (aK.of hz) ?_
 refine jv (cR (K:=K) (xs:=ms.map V.int) 13) (fun i σ H'=>∃fp s rows,ze K H' c lp lw ld fp s rows/\s.ws.length<=100+i/\Kept H18 [pz,lwd,lnm] (cN lp lw ld rows++fp) H'/\∃v9 v10 v13 v14 v15 v16 v17,σ=[some (.ref a),some (.int first),some (.int cell),some (.ref c),some (.ref lp),some (.ref lw),some (.ref ld),some (.int (n:Int)),some (.ref l11),v9,v10,some (.ref lwd),some (.ref lnm),v13,v14,v15,v16,v17])
  ⟨fp,s,rows,x18,by omega,K18,_,_,_,_,_,_,_,rfl⟩ (fun i σ H' ⟨_,_,_,_,_,k,_⟩=>aK.of (k.at (by simp) hz)) ?_ ?_
 ·clear x18 K18 wl13 x13 x17 mv13 s013 hth13
  rintro i σ Ha Hb hi ⟨fp,s,rows,xa,wl,kp,v9,v10,v13,v14,v15,v16,v17,rfl⟩ sb
  rw[hms]at hi
  have et:(ms.map V.int).getD i .non=.int (ms.getD i 0):=by simp[Mf,hi]
  rw[et]
  generalize ms.getD i 0=one
  have xb:=xa.same sb
  have kb:=kp.same sb
  show aF _ _ _ _ _
  walk_at "q"
  walk_at "z"
  refine⟨rfl,one,4,rfl,by decide,fun lx Hc fx sx hx=>?_⟩
  have xc:=xb.same sx
  have kc:=kb.same sx
  walk_at "z"
  walk_at "q"
  walk_at "z"
  refine bB (aK.of hx) (v:=.int (dY one 0)) (az (j:=0) (uf (by decide))) ?_
  walk_at "z"
  have hwdc:=kc.at (x:=lwd) (by simp) hwd18
  obtain⟨j,hj,hj10⟩:∃j:Nat,dY one 0%10=(j:Int)/\j<10:=⟨(dY one 0%10).toNat,by omega,by omega⟩
  rw[hj]
  obtain⟨word,hw1,hw2⟩:∃word:LK,([V.str "enrol",V.str "propose",V.str "give",V.str "leave",V.str "withdraw",V.str "want",V.str "unwant"]++[V.str "enrol",V.str "propose",V.str "want"]:List V)[j]?=some (.str word)/\word∈(["enrol","propose","give","leave","withdraw","want","unwant"]:List LK):=by
   have hc:j=0\/j=1\/j=2\/j=3\/j=4\/j=5\/j=6\/j=7\/j=8\/j=9:=by omega
   rcases hc with rfl|rfl|rfl|rfl|rfl|rfl|rfl|rfl|rfl|rfl<;>exact⟨_,rfl,by simp⟩
  refine bB (aK.of hwdc) (az hw1) ?_
  walk_at "z"
  walk_at "q"
  walk_at "z"
  refine⟨rfl,word,lx,lp,lw,ld,cell,_,s,rows,rfl,hx,xq _ _,xc.r,hw2,fun D lt Hd hDw htx fd sd hd=>?_⟩
  subst hDw
  have xd:=xc.same sd
  have kd:=kc.same sd
  have ltn:lt∉cN lp lw ld rows++fp:=fun mm=>xc.there _ mm fd
  walk_at "z"
  walk_at "q"
  walk_at "z"
  refine⟨rfl,lt,lp,lw,ld,s,rows,D,rfl,hd,xd.r,htx,fun He se=>?_⟩
  have xe:=xd.same se
  have ke:=kd.same se
  have hde:=se _ _ hd
  walk_at "z"
  walk_at "q"
  walk_at "z"
  have hlsz:s.ws.length<=900:=by omega
  have rest:=Jz (pz:=pz) (lwd:=lwd) (a:=a) (l11:=l11) (i:=i) (n:=n) (first:=first) (cell:=cell) (one:=one) (lx:=lx) (v17:=v17) (Q:=Q) xe ke hde ltn htx wl hnm18
  refine⟨rfl,c,lt,fp,s,D,rfl,hde,xe.ch,htx,xe.r.le,xe.r.aw,hlsz,fun hdn Hf fpf cf bf nf=>?_,fun cl hdn l Hf fl sf hf=>?_⟩
  ·rw[hdn]
   walk_at "z"
   exact rest none .non Hf fpf _ hdn cf bf nf (fun _=>⟨rfl,rfl⟩) (by intro cl e;cases e)
  ·rw[hdn]
   walk_at "z"
   exact rest (some cl) (.ref l) Hf fp s hdn (xe.ch.same sf) (bx.of sf) kS.refl (by intro e;cases e) (by intro cl' e;cases e;exact⟨rfl,l,rfl,hf⟩)
 ·rintro σ Ha _
  walk_at "z"
  exact q Ha
end
structure Txt(K:LO)(mg:LK->Option LM):Prop where
 Br:bS K mg "_law_nth" tZ ["script","k"]
 qw:cw K "Chest" "__init__" "Chest.__init__" jN ["self"]
 nq:cw K "Chest" "check_voter" "Chest.check_voter" gN ["self","voter"]
 oI:cw K "Chest" "check_work" "Chest.check_work" iR ["self","work"]
 tD:cw K "Chest" "unwant" "Chest.unwant" mj ["self","voter","work"]
 Ei:bS K mg "is_name" wO ["name"]
 p7:bS K mg "check_new_name" jB ["name","names"]
 vA:bS K mg "check_place" ny ["names","most"]
 vW:cw K "Chest" "enrol" "Chest.enrol" nA ["self","name"]
 wz:bS K mg "check_coins" nz ["coins","least"]
 sI:cw K "Chest" "propose" "Chest.propose" kX ["self","work","cost"]
 vN:cw K "Chest" "share" "Chest.share" nX ["self","part"]
 yZ:cw K "Chest" "give" "Chest.give" pN ["self","coins"]
 vz:cw K "Chest" "leave" "Chest.leave" nS ["self","name"]
 qL:cw K "Chest" "withdraw" "Chest.withdraw" jM ["self","work"]
 xC:cw K "Chest" "want" "Chest.want" pq ["self","voter","work"]
 Ak:bS K mg "_law_call" rq ["chest","word","things"]
 AK:bS K mg "_law_done" rF ["word","things","people","works","coins"]
 uK:cw K "Chest" "voters" "Chest.voters" mx ["self"]
 qC:bS K mg "least_multiple" jO ["step","number"]
 A9:bS K mg "together" uO ["n"]
 AN:bS K mg "grains_of" rh ["voters","works"]
 Dy:bS K mg "paid_by" xu ["steps","voter"]
 DW:bS K mg "left_of" xk ["purses","steps"]
 zJ:bS K mg "prices_of" rf ["costs","wishes"]
 yk:bS K mg "rounded_up" pW ["amount","shares"]
 zt:bS K mg "level_for" rH ["purses","price"]
 zu:bS K mg "wants_all" q5 ["wanted","works"]
 Am:bS K mg "common_of" rJ ["wishes","works"]
 yr:bS K mg "wanters_of" pI ["wishes","work"]
 BX:bS K mg "offer_of" uX ["purses","wishes","work","price"]
 Au:bS K mg "offers_of" rA ["purses","costs","wishes","done"]
 Du:bS K mg "next_of" wR ["offers"]
 Bb:bS K mg "works_of" ur ["steps"]
 Ek:bS K mg "paid_at" wG ["purses","level"]
 vT:bS K mg "payments_of" nv ["purses","wishes","work","level"]
 vL:bS K mg "step_behind" nU ["purses","costs","wishes","steps"]
 Fm:bS K mg "choose" zi ["purses","costs","wishes"]
 ou:cw K "Chest" "keep_coins" "Chest.keep_coins" iE ["self","left","grains"]
 kY:cw K "Chest" "wanted_places" "Chest.wanted_places" fO ["self","voter"]
 pD:cw K "Chest" "told_step" "Chest.told_step" i9 ["self","place","paid"]
 wC:cw K "Chest" "close" "Chest.close" nM ["self"]
 zk:cw K "Chest" "pot" "Chest.pot" rK ["self"]
 vD:cw K "Chest" "spent" "Chest.spent" nO ["self"]
 sG:cw K "Chest" "wanters" "Chest.wanters" kM ["self","work"]
 vY:cw K "Chest" "works" "Chest.works" nF ["self"]
 Ac:bS K mg "_law_year" rm ["chest","people","works","coins"]
 yS:bS K mg "_law_spins" pR ["cell","many"]
 AE:bS K mg "_law_name" qY ["cell","k"]
 zO:bS K mg "_law_text" rN ["cell","x","known"]
 vq:bS K mg "_law_number" nI ["x","least"]
 vy:bS K mg "_law_things" nZ ["word","xs","cell","people","works"]
 tf:bS K mg "_law_is_name" ml ["text"]
 Bo:bS K mg "_law_due" sZ ["word","things","people","works"]
 yp:bS K mg "_law_asked" oW ["chest","word","things"]
 wm:cw K "Chest" "given" "Chest.given" nC ["self"]
 yO:bS K mg "_law_right" o7 ["chest","people","works","coins"]
 f_law:bS K mg "law" zf ["script"]
 br:rj K mg "Chest"
 hX:d8 K mg "NoVoter"
 jP:d8 K mg "NoWork"
 jD:d8 K mg "NoName"
 mU:d8 K mg "Twice"
 pY:d8 K mg "Full"
 hZ:d8 K mg "TooMuch"
 ku:d8 K mg "PurseError"
 xU:d8 K mg "NoRow"
 qN:d8 K mg "NoPaper"
 cls:jb K
 xX:mg "ValueError"=none
 z_all:mg "all"=none
 E6:mg "dict"=none
 eO:mg "enumerate"=none
 z_int:mg "int"=none
 cC:mg "isinstance"=none
 z_len:mg "len"=none
 xW:mg "list"=none
 z_max:mg "max"=none
 z_min:mg "min"=none
 mQ:mg "range"=none
 Ax:mg "sorted"=none
 z_sum:mg "sum"=none
 z_zip:mg "zip"=none
 CV:G8 mg "LETTERS" "abcdefghijklmnopqrstuvwxyz"
 lS:ua mg "MOST_AT_ONCE" 1000000000
 uo:ua mg "MOST_LETTERS" 8
 vF:ua mg "MOST_VOTERS" 20
 y6:ua mg "MOST_WORKS" 12
section
seal vm PS PE PA PT PC PI PG
variable {P:L5}{w:LZ}{K:LO}{mg:LK->Option LM}{base:LV}
theorem pH(T:Txt K mg):mO P w K mg base 1 "_law_nth" ["script","k"] (je K):=T.Br.cal (rd:=lh K) qZ (aP rfl) (fun f cdv A outer s H E hr=>
 (ag (eL M7 rfl (bD (dv sS (pv 0) (dE (pv 1)) (dE (aC cv (pv 1) aj)))) (aA (i:=2) qZ.nd rfl (LR rfl)) (ak (aJ (pv 2))))
   (ak (aJ aj)))) zC
theorem oi(T:Txt K mg):fL qK P w K mg base 1 "Chest" "__init__" ["self"] (fG K):=T.qw.cal (rd:=fe K) oZ (aP rfl) (fun f cdv A outer s H E hr=>
 (ag (iM (pv 0) AJ rfl)
   (ag (iM (pv 0) AJ rfl)
   (ag (iM (pv 0) (bI ah) rfl)
   (ag (iM (pv 0) aj rfl)
   (ag (iM (pv 0) aj rfl)
   (ak (iM (pv 0) aj rfl)))))))) (pL T.cls)
theorem dC(T:Txt K mg):fL (eD P w base) P w K mg base 1 "Chest" "check_voter" ["self","voter"] (cx K):=T.nq.calX (rd:=dP K) lZ (fun _ _ _ _ h=>h.1) (fun f cdv A outer s H E hr=>
 (ak (bJ (B1 (xf (eP hr) (pv 1) (bG (pv 0) rfl))) (ak (hW T.hX (aa (mV (.cons aB (.cons (yP (pv 1)) .nil))) ah))) aX))) (mH T.cls)
theorem dJ(T:Txt K mg):fL (eD P w base) P w K mg base 1 "Chest" "check_work" ["self","work"] (cz K):=T.oI.calX (rd:=ef K) nj (fun _ _ _ _ h=>h.1) (fun f cdv A outer s H E hr=>
 (ak (bJ (B1 (xf (eP hr) (pv 1) (bG (pv 0) rfl))) (ak (hW T.jP (aa (mV (.cons aB (.cons (yP (pv 1)) .nil))) ah))) aX))) (nk T.cls)
theorem qj(T:Txt K mg):fL (eD P w base) P w K mg base 2 "Chest" "unwant" ["self","voter","work"] (gI K):=T.tD.calX (rd:=gC K) sm (fun _ _ _ _ h=>h.1) (fun f cdv A outer s H E hr=>
 (ag (bp (c6 (dC T) T.br (hr.mono (by decide)) (pv 0) (aa (pv 1) ah)))
   (ag (bp (c6 (dJ T) T.br (hr.mono (by decide)) (pv 0) (aa (pv 2) ah)))
   (ak (PS.nox (iM (pv 0) (bM (N:=["wish","voter","work"]) (mp:=[none,some 1,some 2]) rfl ⟨rfl,by decide +kernel,by rfl,rfl,by rfl⟩ (bD (bG (pv 0) rfl)) (fun _ _ _ _ _ _=>(aA (i:=0) (by show Ml (["wish","voter","work"]:List LK);decide +kernel) rfl (LR rfl))) (fun _ _ _ _ _ _=>(eh (aD (iU hr.units) (pv 0) (cP (aa (pv 1) (aa (pv 2) ah))) (aO _)))) (fun _ _ _ _ _ _=>(pv 0))) rfl)))))) (rX T.cls)
theorem Ag(T:Txt K mg):mO P w K mg base 1 "is_name" ["name"] (oh K):=T.Ei.cal (rd:=oG K) BZ (aP rfl) (fun f cdv A outer s H E hr=>
 (ak (aJ (HX (Fi Ew Ew aj (a8 jE (by rfl) T.z_len M4 (aa (pv 0) ah)) (T.uo.pe (by rfl))) (F9 (a8 (zL rfl) (by rfl) T.z_all SO (aa (bM (N:=["sign"]) (mp:=[none]) rfl ⟨rfl,by decide +kernel,by rfl,rfl,by rfl⟩ (Cj (pv 0)) (fun _ _ _ _ _ _=>(aA (i:=0) (by show Ml (["sign"]:List LK);decide +kernel) rfl (LR rfl))) (fun _ _ _ _ _ _=>bz) (fun _ _ _ _ _ _=>(eC Jf (pv 0) (T.CV.pe (by rfl)) rfl))) ah))))))) Bd
theorem ij(T:Txt K mg):Aa P w K mg base 2 "check_new_name" ["name","names"] (dF K):=T.p7.calX (rd:=fE K) oS (fun _ _ _ _ h=>h.1) (fun f cdv A outer s H E hr=>
 (ag (bJ (uI (yL (bj (Ag T) (hr.mono (by decide)) (aa (pv 0) ah)))) (ak (hW T.jD (aa (mV (.cons aB (.cons (yP (pv 0)) .nil))) ah))) aX)
   (ak (bJ (B1 (Ii (eP hr) (pv 0) (pv 1))) (ak (hW T.mU (aa (mV (.cons aB (.cons (Gp (pv 0)) .nil))) ah))) aX)))) pP
theorem kU(T:Txt K mg):Aa P w K mg base 1 "check_place" ["names","most"] (fg K):=T.vA.calX (rd:=iG K) tV (fun _ _ _ _ h=>h.1) (fun f cdv A outer s H E hr=>
 (ak (bJ (aD EI (a8 iT (by rfl) T.z_len M4 (aa (pv 0) ah)) (pv 1) (aO _)) (ak (hW T.pY (aa (mV (.cons aB (.cons (Bm (pv 1)) (.cons aB .nil)))) ah))) aX))) uC
theorem rY(T:Txt K mg):fL (eD P w base) P w K mg base 3 "Chest" "enrol" ["self","name"] (ik K):=T.vW.calX (rd:=iB K) tj (fun _ _ _ _ h=>h.1) (fun f cdv A outer s H E hr=>
 (ag (bp (mT (ij T) (hr.mono (by decide)) (aa (pv 1) (aa (bG (pv 0) rfl) ah))))
   (ag (bp (mT (kU T) (hr.mono (by decide)) (aa (bG (pv 0) rfl) (aa (T.vF.pe (by rfl)) ah))))
   (ak (PS.nox (i3 (eP hr) (bG (pv 0) rfl) (pv 1) aj rfl)))))) (tG T.cls)
theorem kR(T:Txt K mg):Aa P w K mg base 1 "check_coins" ["coins","least"] (fH K):=T.wz.calX (rd:=ic K) uA (fun _ _ _ _ h=>h.1) (fun f cdv A outer s H E hr=>
 (ak (bJ (PW.pt (rp (aD qo (pv 0) (pv 1) (aO _)) (lV (aD qq (pv 0) (T.lS.pe (by rfl)) (aO _))))) (ak (hW T.hZ (aa (mV (.cons aB (.cons (Bm (pv 1)) (.cons aB (.cons (Bm (T.lS.pe (by rfl))) (.cons aB .nil)))))) ah))) aX))) tP
theorem pb(T:Txt K mg):fL (eD P w base) P w K mg base 3 "Chest" "propose" ["self","work","cost"] (fP K):=T.sI.calX (rd:=fS K) qW (fun _ _ _ _ h=>h.1) (fun f cdv A outer s H E hr=>
 (ag (bp (mT (ij T) (hr.mono (by decide)) (aa (pv 1) (aa (bG (pv 0) rfl) ah))))
   (ag (bp (mT (kR T) (hr.mono (by decide)) (aa (pv 2) (aa aj ah))))
   (ag (bp (mT (kU T) (hr.mono (by decide)) (aa (bG (pv 0) rfl) (aa (T.y6.pe (by rfl)) ah))))
   (ak (PS.nox (i3 (eP hr) (bG (pv 0) rfl) (pv 1) (pv 2) rfl))))))) (qu T.cls)
theorem sF(T:Txt K mg):fL qK P w K mg base 1 "Chest" "share" ["self","part"] (ix K):=T.vN.cal (rd:=ir K) uJ (aP rfl) (fun f cdv A outer s H E hr=>
 (ag (ib (pv 0) (aC fF (pv 1) (a8 iT (by rfl) T.z_len M4 (aa (bG (pv 0) rfl) ah))) HW)
   (ak (iM (pv 0) (c9 (BR rfl) (by rfl) T.E6 (by decide +kernel) (aa (sL (bM (N:=["voter","purse","part"]) (mp:=[none,none,some 1]) rfl ⟨rfl,by decide +kernel,by rfl,rfl,by rfl⟩ (AQ (bG (pv 0) rfl)) (fun _ _ _ _ _ _=>(dq rfl (aQ (aA (i:=0) (by show Ml (["voter","purse","part"]:List LK);decide +kernel) rfl (LR rfl)) (aQ (aA (i:=1) (by show Ml (["voter","purse","part"]:List LK);decide +kernel) rfl (LR rfl)) cA)))) (fun _ _ _ _ _ _=>bz) (fun _ _ _ _ _ _=>(cP (aa (pv 0) (aa (aC cv (pv 1) (pv 2)) ah)))))) ah)) rfl)))) (u7 T.cls)
theorem uk(T:Txt K mg):fL (eD P w base) P w K mg base 2 "Chest" "give" ["self","coins"] (jk K):=T.yZ.calX (rd:=jm K) vp (fun _ _ _ _ h=>h.1) (fun f cdv A outer s H E hr=>
 (ag (bp (mT (kR T) (hr.mono (by decide)) (aa (pv 1) (aa aj ah))))
   (ag (PS.nox (ib (pv 0) (pv 1) uR))
   (ag (PS.nox (ib (pv 0) (pv 1) uR))
   (ak (PS.nox (bJ (A4 (bG (pv 0) rfl)) (ak (PS.nox (bp (pO (sF T) T.br (hr.mono (by decide)) (pv 0) (aa (aC cg (bG (pv 0) rfl) (a8 iT (by rfl) T.z_len M4 (aa (bG (pv 0) rfl) ah))) ah))))) aX))))))) (vM T.cls)
theorem so(T:Txt K mg):fL (eD P w base) P w K mg base 2 "Chest" "leave" ["self","name"] (ip K):=T.vz.calX (rd:=iu K) tK (fun _ _ _ _ h=>h.1) (fun f cdv A outer s H E hr=>
 (ag (bp (c6 (dC T) T.br (hr.mono (by decide)) (pv 0) (aa (pv 1) ah)))
   (ag (PS.nox (ib (pv 0) (As (bG (pv 0) rfl) (pv 1) ⟨rfl,rfl,rfl,rfl⟩) uR))
   (ak (PS.nox (iM (pv 0) (bM (N:=["voter","work","name"]) (mp:=[none,none,some 1]) rfl ⟨rfl,by decide +kernel,by rfl,rfl,by rfl⟩ (bD (bG (pv 0) rfl)) (fun _ _ _ _ _ _=>(dq rfl (aQ (aA (i:=0) (by show Ml (["voter","work","name"]:List LK);decide +kernel) rfl (LR rfl)) (aQ (aA (i:=1) (by show Ml (["voter","work","name"]:List LK);decide +kernel) rfl (LR rfl)) cA)))) (fun _ _ _ _ _ _=>(eh (aD wU (pv 0) (pv 2) (aO _)))) (fun _ _ _ _ _ _=>(cP (aa (pv 0) (aa (pv 1) ah))))) rfl)))))) (tw T.cls)
theorem iw(T:Txt K mg):fL (eD P w base) P w K mg base 2 "Chest" "withdraw" ["self","work"] (dD K):=T.qL.calX (rd:=fC K) pT (fun _ _ _ _ h=>h.1) (fun f cdv A outer s H E hr=>
 (ag (bp (c6 (dJ T) T.br (hr.mono (by decide)) (pv 0) (aa (pv 1) ah)))
   (ag (PS.nox (bp (As (bG (pv 0) rfl) (pv 1) ⟨rfl,rfl,rfl,rfl⟩)))
   (ak (PS.nox (iM (pv 0) (bM (N:=["voter","other","work"]) (mp:=[none,none,some 1]) rfl ⟨rfl,by decide +kernel,by rfl,rfl,by rfl⟩ (bD (bG (pv 0) rfl)) (fun _ _ _ _ _ _=>(dq rfl (aQ (aA (i:=0) (by show Ml (["voter","other","work"]:List LK);decide +kernel) rfl (LR rfl)) (aQ (aA (i:=1) (by show Ml (["voter","other","work"]:List LK);decide +kernel) rfl (LR rfl)) cA)))) (fun _ _ _ _ _ _=>(eh (aD wU (pv 1) (pv 2) (aO _)))) (fun _ _ _ _ _ _=>(cP (aa (pv 0) (aa (pv 1) ah))))) rfl)))))) (o3 T.cls)
theorem md(T:Txt K mg):fL (eD P w base) P w K mg base 2 "Chest" "want" ["self","voter","work"] (gm K):=T.xC.calX (rd:=ji K) vU (fun _ _ _ _ h=>h.1) (fun f cdv A outer s H E hr=>
 (ag (bp (c6 (dC T) T.br (hr.mono (by decide)) (pv 0) (aa (pv 1) ah)))
   (ag (bp (c6 (dJ T) T.br (hr.mono (by decide)) (pv 0) (aa (pv 2) ah)))
   (ak (PS.nox (bJ (aD (Gj hr.units) (cP (aa (pv 1) (aa (pv 2) ah))) (bG (pv 0) rfl) rfl) (ak (PS.nox (bp (gA M0 Oj OF dX (bG (pv 0) rfl) (aa (cP (aa (pv 1) (aa (pv 2) ah))) ah))))) aX)))))) (vB T.cls)
theorem nL(T:Txt K mg):Aa P w K mg base 4 "_law_call" ["chest","word","things"] (eW K):=T.Ak.calX (rd:=kj K) yQ (fun _ _ _ _ h=>h.1) (fun f cdv A outer s H E hr=>
 (ag (bJ (aD cu (pv 1) aB (aO _)) (ak (aJ (c6 (rY T) T.br (hr.mono (by decide)) (pv 0) (aa (aM aE (pv 2) aj (fun _ _=>rfl)) ah)))) aX)
   (ag (bJ (aD cu (pv 1) aB (aO _)) (ak (aJ (c6 (pb T) T.br (hr.mono (by decide)) (pv 0) (aa (aM aE (pv 2) aj (fun _ _=>rfl)) (aa (aM aE (pv 2) aj (fun _ _=>rfl)) ah))))) aX)
   (ag (bJ (aD cu (pv 1) aB (aO _)) (ak (aJ (c6 (uk T) T.br (hr.mono (by decide)) (pv 0) (aa (aM aE (pv 2) aj (fun _ _=>rfl)) ah)))) aX)
   (ag (bJ (aD cu (pv 1) aB (aO _)) (ak (aJ (c6 (so T) T.br (hr.mono (by decide)) (pv 0) (aa (aM aE (pv 2) aj (fun _ _=>rfl)) ah)))) aX)
   (ag (bJ (aD cu (pv 1) aB (aO _)) (ak (aJ (c6 (iw T) T.br (hr.mono (by decide)) (pv 0) (aa (aM aE (pv 2) aj (fun _ _=>rfl)) ah)))) aX)
   (ag (bJ (aD cu (pv 1) aB (aO _)) (ak (aJ (c6 (md T) T.br (hr.mono (by decide)) (pv 0) (aa (aM aE (pv 2) aj (fun _ _=>rfl)) (aa (aM aE (pv 2) aj (fun _ _=>rfl)) ah))))) aX)
   (ak (aJ (c6 (qj T) T.br (hr.mono (by decide)) (pv 0) (aa (aM aE (pv 2) aj (fun _ _=>rfl)) (aa (aM aE (pv 2) aj (fun _ _=>rfl)) ah)))))))))))) yT
theorem nG(T:Txt K mg):mO P w K mg base 1 "_law_done" ["word","things","people","works","coins"] (fi K):=T.AK.cal (rd:=kC K) dQ (aP rfl) (fun f cdv A outer s H E hr=>
 (ak (bJ (aD cu (pv 0) aB (aO _)) (ak (bp (gA M0 Oj OF dX (pv 2) (aa (cP (aa (aM aE (pv 1) aj (fun _ _=>rfl)) (aa aj ah))) ah)))) (ak (bJ (aD cu (pv 0) aB (aO _)) (ak (bp (gA M0 Oj OF dX (pv 3) (aa (cP (aa (aM aE (pv 1) aj (fun _ _=>rfl)) (aa (aM aE (pv 1) aj (fun _ _=>rfl)) (aa (bI ah) ah)))) ah)))) (ak (bJ (aD cu (pv 0) aB (aO _)) (ag (i3 (eP hr) (pv 4) aB (aC cv (hJ (eP hr) (pv 4) aB (fun _ _=>rfl)) (aM aE (pv 1) aj (fun _ _=>rfl))) rfl)
   (ag (i3 (eP hr) (pv 4) aB (aC cv (hJ (eP hr) (pv 4) aB (fun _ _=>rfl)) (aM aE (pv 1) aj (fun _ _=>rfl))) rfl)
   (ag (aU (i:=5) dQ.nd rfl (LR rfl) (aC cg (hJ (eP hr) (pv 4) aB (fun _ _=>rfl)) (a8 (D3 rfl) (by rfl) T.z_max UU (aa aj (aa (a8 cQ (by rfl) T.z_len M4 (aa (pv 2) ah)) ah)))))
   (ag (eL M7 rfl (jK (by rfl) T.mQ (aa (a8 cQ (by rfl) T.z_len M4 (aa (pv 2) ah)) ah)) (aA (i:=6) dQ.nd rfl (LR rfl)) (ak (HU (cP (aa (aM dn (aM aE (pv 2) (pv 6) (fun _ _=>rfl)) aj (fun _ _=>rfl)) (aa (aC cv (aM dn (aM aE (pv 2) (pv 6) (fun _ _=>rfl)) aj (fun _ _=>rfl)) (pv 5)) ah))) (JI (pv 2) (pv 6) set_list))))
   (ak (i3 (eP hr) (pv 4) aB (aC jf (hJ (eP hr) (pv 4) aB (fun _ _=>rfl)) (aC fF (pv 5) (a8 cQ (by rfl) T.z_len M4 (aa (pv 2) ah)))) rfl)))))) (ak (bJ (aD cu (pv 0) aB (aO _)) (ag (aU (i:=7) dQ.nd rfl (LR rfl) (gA M0 RF Ut wQ (bM (N:=["row"]) (mp:=[none]) rfl ⟨rfl,by decide +kernel,by rfl,rfl,by rfl⟩ (bD (pv 2)) (fun _ _ _ _ _ _=>(aA (i:=0) (by show Ml (["row"]:List LK);decide +kernel) rfl (LR rfl))) (fun _ _ _ _ _ _=>bz) (fun _ _ _ _ _ _=>(aM dn (pv 0) aj (fun _ _=>rfl)))) (aa (aM aE (pv 1) aj (fun _ _=>rfl)) ah)))
   (ag (i3 (eP hr) (pv 4) aB (aC cv (hJ (eP hr) (pv 4) aB (fun _ _=>rfl)) (aM dn (gA M0 Qz Tp z9 (pv 2) (aa (pv 7) ah)) aj (fun _ _=>rfl))) rfl)
   (ak (eL M7 rfl (bD (pv 3)) (aA (i:=8) dQ.nd rfl (LR rfl)) (ak (bJ (aD fW (aM aE (pv 1) aj (fun _ _=>rfl)) (aM dn (pv 8) aj (fun _ _=>rfl)) rfl) (ak (bp (gA M0 Rh TH (xx hr.units) (aM dn (pv 8) aj (fun _ _=>rfl)) (aa (aM aE (pv 1) aj (fun _ _=>rfl)) ah)))) aX)))))) (ak (bJ (aD cu (pv 0) aB (aO _)) (ak (bp (gA M0 Qz Tp z9 (pv 3) (aa (gA M0 RF Ut wQ (bM (N:=["row"]) (mp:=[none]) rfl ⟨rfl,by decide +kernel,by rfl,rfl,by rfl⟩ (bD (pv 3)) (fun _ _ _ _ _ _=>(aA (i:=0) (by show Ml (["row"]:List LK);decide +kernel) rfl (LR rfl))) (fun _ _ _ _ _ _=>bz) (fun _ _ _ _ _ _=>(aM dn (pv 0) aj (fun _ _=>rfl)))) (aa (aM aE (pv 1) aj (fun _ _=>rfl)) ah)) ah)))) (ag (aU (i:=9) dQ.nd rfl (LR rfl) (aM aE (bM (N:=["row","things"]) (mp:=[none,some 1]) rfl ⟨rfl,by decide +kernel,by rfl,rfl,by rfl⟩ (bD (pv 3)) (fun _ _ _ _ _ _=>(aA (i:=0) (by show Ml (["row","things"]:List LK);decide +kernel) rfl (LR rfl))) (fun _ _ _ _ _ _=>(eh (aD cu (aM dn (pv 0) aj (fun _ _=>rfl)) (aM aE (pv 1) aj (fun _ _=>rfl)) (aO _)))) (fun _ _ _ _ _ _=>(aM dn (pv 0) aj (fun _ _=>rfl)))) aj (fun _ _=>rfl)))
   (ag (bJ (PW.pt (jQ (aD cu (pv 0) aB (aO _)) (gX (aD kl (aM aE (pv 1) aj (fun _ _=>rfl)) (pv 9) rfl)))) (ak (bp (gA M0 Oj OF dX (pv 9) (aa (aM aE (pv 1) aj (fun _ _=>rfl)) ah)))) aX)
   (ak (bJ (PW.pt (jQ (aD cu (pv 0) aB (aO _)) (gX (aD fW (aM aE (pv 1) aj (fun _ _=>rfl)) (pv 9) rfl)))) (ak (bp (gA M0 Rh TH (xx hr.units) (pv 9) (aa (aM aE (pv 1) aj (fun _ _=>rfl)) ah)))) aX))))))))))))))) yC
theorem fQ(T:Txt K mg):fL qK P w K mg base 1 "Chest" "voters" ["self"] (dz K):=T.uK.cal (rd:=gB K) rZ (aP rfl) (fun f cdv A outer s H E hr=>
 (ak (aJ (c9 (AU rfl) (by rfl) T.xW Qe (aa (xD PH PY TY Fv (bG (pv 0) rfl)) ah))))) (rR T.cls)
theorem ot(T:Txt K mg):mO P w K mg base 1 "least_multiple" ["step","number"] (fm K):=T.qC.cal (rd:=eY K) fB (aP rfl) (fun f cdv A outer s H E hr=>
 (ag (aU (i:=2) fB.nd rfl (LR rfl) (pv 0))
   (ag (zV M7 (aD wU (aC bw (pv 2) (pv 1)) aj (aO _)) (ak (yI (i:=2) fB.nd rfl (LR rfl) (pv 0) (CQ E3))))
   (ak (aJ (pv 2)))))) oN
theorem xR(T:Txt K mg):mO P w K mg base 2 "together" ["n"] (lA K):=T.A9.cal (rd:=lX K) ja (aP rfl) (fun f cdv A outer s H E hr=>
 (ag (aU (i:=1) ja.nd rfl (LR rfl) aj)
   (ag (eL M7 rfl (Ds (by rfl) T.mQ (aa aj (aa (aC cv (pv 0) aj) ah))) (aA (i:=2) ja.nd rfl (LR rfl)) (ak (aU (i:=1) ja.nd rfl (LR rfl) (bj (ot T) (hr.mono (by decide)) (aa (pv 1) (aa (pv 2) ah))))))
   (ak (aJ (pv 1)))))) zj
theorem nN(T:Txt K mg):mO P w K mg base 3 "grains_of" ["voters","works"] (gU K):=T.AN.cal (rd:=j1 K) fh (aP rfl) (fun f cdv A outer s H E hr=>
 (ag (aU (i:=2) fh.nd rfl (LR rfl) (bj (xR T) (hr.mono (by decide)) (aa (pv 0) ah)))
   (ag (aU (i:=3) fh.nd rfl (LR rfl) (pv 2))
   (ag (eL M7 rfl (jK (by rfl) T.mQ (aa (pv 1) ah)) (aA (i:=4) fh.nd rfl (LR rfl)) (ak (yI (i:=3) fh.nd rfl (LR rfl) (pv 2) (CQ EA))))
   (ak (aJ (pv 3))))))) xF
theorem zY(T:Txt K mg):mO P w K mg base 1 "paid_by" ["steps","voter"] (oC K):=T.Dy.cal (rd:=oK K) BE (aP rfl) (fun f cdv A outer s H E hr=>
 (ak (aJ (a8 (u1 rfl) (by rfl) T.z_sum QT (aa (bM (N:=["work","level","paid","voter"]) (mp:=[none,none,none,some 1]) rfl ⟨rfl,by decide +kernel,by rfl,rfl,by rfl⟩ (bD (pv 0)) (fun _ _ _ _ _ _=>(dq rfl (aQ (aA (i:=0) (by show Ml (["work","level","paid","voter"]:List LK);decide +kernel) rfl (LR rfl)) (aQ (aA (i:=1) (by show Ml (["work","level","paid","voter"]:List LK);decide +kernel) rfl (LR rfl)) (aQ (aA (i:=2) (by show Ml (["work","level","paid","voter"]:List LK);decide +kernel) rfl (LR rfl)) cA))))) (fun _ _ _ _ _ _=>bz) (fun _ _ _ _ _ _=>(aM aE (pv 2) (pv 3) (fun _ _=>rfl)))) ah))))) Bz
theorem rD(T:Txt K mg):mO P w K mg base 2 "left_of" ["purses","steps"] (jS K):=T.DW.cal (rd:=om K) BB (aP rfl) (fun f cdv A outer s H E hr=>
 (ak (aJ (bM (N:=["voter","purse","steps"]) (mp:=[none,none,some 1]) rfl ⟨rfl,by decide +kernel,by rfl,rfl,by rfl⟩ (pA (by rfl) T.eO (pv 0)) (fun _ _ _ _ _ _=>(dq rfl (aQ (aA (i:=0) (by show Ml (["voter","purse","steps"]:List LK);decide +kernel) rfl (LR rfl)) (aQ (aA (i:=1) (by show Ml (["voter","purse","steps"]:List LK);decide +kernel) rfl (LR rfl)) cA)))) (fun _ _ _ _ _ _=>bz) (fun _ _ _ _ _ _=>(aC jf (pv 1) (bj (zY T) (hr.mono (by decide)) (aa (pv 2) (aa (pv 0) ah))))))))) Bc
theorem vv(T:Txt K mg):mO P w K mg base 4 "prices_of" ["costs","wishes"] (jY K):=T.zJ.cal (rd:=kD K) oY (aP rfl) (fun f cdv A outer s H E hr=>
 (ag (aU (i:=2) oY.nd rfl (NP rfl) (bj (nN T) (hr.mono (by decide)) (aa (a8 cQ (by rfl) T.z_len M4 (aa (pv 1) ah)) (aa (a8 cQ (by rfl) T.z_len M4 (aa (pv 0) ah)) ah))))
   (ak (aJ (bM (N:=["cost","grains"]) (mp:=[none,some 2]) rfl ⟨rfl,by decide +kernel,by rfl,rfl,by rfl⟩ (bD (pv 0)) (fun _ _ _ _ _ _=>(aA (i:=0) (by show Ml (["cost","grains"]:List LK);decide +kernel) rfl (LR rfl))) (fun _ _ _ _ _ _=>bz) (fun _ _ _ _ _ _=>(aC fF (pv 0) (pv 1)))))))) xI
theorem tW(T:Txt K mg):mO P w K mg base 1 "rounded_up" ["amount","shares"] (jq K):=T.yk.cal (rd:=jl K) wA (aP rfl) (fun f cdv A outer s H E hr=>
 (ak (aJ (aC cg (aC jf (aC cv (pv 0) (pv 1)) aj) (pv 1))))) vI
theorem wg(T:Txt K mg):mO P w K mg base 2 "level_for" ["purses","price"] (ky K):=T.zt.cal (rd:=kE K) dR (aP rfl) (fun f cdv A outer s H E hr=>
 (ag (bJ (aD qo (a8 (u1 rfl) (by rfl) T.z_sum QT (aa (pv 0) ah)) (pv 1) (aO _)) (ak (aJ gF)) aX)
   (ag (aU (i:=2) dR.nd rfl (LR rfl) (pv 1))
   (ag (aU (i:=3) dR.nd rfl (LR rfl) (a8 cQ (by rfl) T.z_len M4 (aa (pv 0) ah)))
   (ag (eL M7 rfl (bD (a8 rg (by rfl) T.Ax S9 (aa (pv 0) ah))) (aA (i:=4) dR.nd rfl (LR rfl)) (ag (bJ (aD EI (aC fF (pv 4) (pv 3)) (pv 2) (aO _)) (ak (aJ (bj (tW T) (hr.mono (by decide)) (aa (pv 2) (aa (pv 3) ah))))) aX)
   (ag (yI (i:=2) dR.nd rfl (LR rfl) (pv 4) (CQ zR))
   (ak (yI (i:=3) dR.nd rfl (LR rfl) aj (CQ zR))))))
   (ak (aJ aj))))))) yc
theorem vt(T:Txt K mg):mO P w K mg base 1 "wants_all" ["wanted","works"] (kq K):=T.zu.cal (rd:=kB K) xQ (aP rfl) (fun f cdv A outer s H E hr=>
 (ak (aJ (a8 (zL rfl) (by rfl) T.z_all SO (aa (bM (N:=["work","wanted"]) (mp:=[none,some 0]) rfl ⟨rfl,by decide +kernel,by rfl,rfl,by rfl⟩ (bD (pv 1)) (fun _ _ _ _ _ _=>(aA (i:=0) (by show Ml (["work","wanted"]:List LK);decide +kernel) rfl (LR rfl))) (fun _ _ _ _ _ _=>bz) (fun _ _ _ _ _ _=>(eC fW (pv 0) (pv 1) rfl))) ah))))) yj
theorem wu(T:Txt K mg):mO P w K mg base 2 "common_of" ["wishes","works"] (kx K):=T.Am.cal (rd:=kf K) xV (aP rfl) (fun f cdv A outer s H E hr=>
 (ak (aJ (bM (N:=["voter","wanted","works"]) (mp:=[none,none,some 1]) rfl ⟨rfl,by decide +kernel,by rfl,rfl,by rfl⟩ (pA (by rfl) T.eO (pv 0)) (fun _ _ _ _ _ _=>(dq rfl (aQ (aA (i:=0) (by show Ml (["voter","wanted","works"]:List LK);decide +kernel) rfl (LR rfl)) (aQ (aA (i:=1) (by show Ml (["voter","wanted","works"]:List LK);decide +kernel) rfl (LR rfl)) cA)))) (fun _ _ _ _ _ _=>(eh (yL (bj (vt T) (hr.mono (by decide)) (aa (pv 1) (aa (pv 2) ah)))))) (fun _ _ _ _ _ _=>(pv 0)))))) yE
theorem lK(T:Txt K mg):mO P w K mg base 3 "wanters_of" ["wishes","work"] (gq K):=T.yr.cal (rd:=jg K) wj (aP rfl) (fun f cdv A outer s H E hr=>
 (ak (aJ (bj (wu T) (hr.mono (by decide)) (aa (pv 0) (aa (bI (aa (pv 1) ah)) ah)))))) wB
theorem yR(T:Txt K mg):mO P w K mg base 4 "offer_of" ["purses","wishes","work","price"] (mz K):=T.BX.cal (rd:=mr K) An (aP rfl) (fun f cdv A outer s H E hr=>
 (ak (aJ (bj (wg T) (hr.mono (by decide)) (aa (bM (N:=["voter","purses"]) (mp:=[none,some 0]) rfl ⟨rfl,by decide +kernel,by rfl,rfl,by rfl⟩ (bD (bj (lK T) (hr.mono (by decide)) (aa (pv 1) (aa (pv 2) ah)))) (fun _ _ _ _ _ _=>(aA (i:=0) (by show Ml (["voter","purses"]:List LK);decide +kernel) rfl (LR rfl))) (fun _ _ _ _ _ _=>bz) (fun _ _ _ _ _ _=>(aM aE (pv 1) (pv 0) (fun _ _=>rfl)))) (aa (pv 3) ah)))))) AM
theorem vx(T:Txt K mg):mO P w K mg base 5 "offers_of" ["purses","costs","wishes","done"] (ka K):=T.Au.cal (rd:=kJ K) hG (aP rfl) (fun f cdv A outer s H E hr=>
 (ag (aU (i:=4) hG.nd rfl (LR rfl) (bI ah))
   (ag (eL M7 rfl (pA (by rfl) T.eO (bj (vv T) (hr.mono (by decide)) (aa (pv 1) (aa (pv 2) ah)))) (dq rfl (aQ (aA (i:=5) hG.nd rfl (LR rfl)) (aQ (aA (i:=6) hG.nd rfl (LR rfl)) cA))) (ak (bp (gA M0 Oj OF dX (pv 4) (aa (zd (aD fW (pv 5) (pv 3) rfl) gF (bj (yR T) (hr.mono (by decide)) (aa (pv 0) (aa (pv 2) (aa (pv 5) (aa (pv 6) ah)))))) ah)))))
   (ak (aJ (pv 4)))))) yN
theorem zF(T:Txt K mg):mO P w K mg base 1 "next_of" ["offers"] (og K):=T.Du.cal (rd:=oA K) iP (aP rfl) (fun f cdv A outer s H E hr=>
 (ag (aU (i:=1) iP.nd rfl (LR rfl) gF)
   (ag (eL M7 rfl (pA (by rfl) T.eO (pv 0)) (dq rfl (aQ (aA (i:=2) iP.nd rfl (LR rfl)) (aQ (aA (i:=3) iP.nd rfl (LR rfl)) cA))) (ak (bJ (PW.pt (jQ (aD yx (pv 3) gF (aO _)) (gX (PW.pt (rp (aD BG (pv 1) gF (aO _)) (lV (aD qo (pv 3) (aM aE (pv 0) (pv 1) (fun _ _=>rfl)) (aO _)))))))) (ak (aU (i:=1) iP.nd rfl (LR rfl) (pv 2))) aX)))
   (ak (aJ (pv 1)))))) Bl
theorem xN(T:Txt K mg):mO P w K mg base 1 "works_of" ["steps"] (lR K):=T.Bb.cal (rd:=ly K) Az (aP rfl) (fun f cdv A outer s H E hr=>
 (ak (aJ (a8 rg (by rfl) T.Ax S9 (aa (bM (N:=["work","level","paid"]) (mp:=[none,none,none]) rfl ⟨rfl,by decide +kernel,by rfl,rfl,by rfl⟩ (bD (pv 0)) (fun _ _ _ _ _ _=>(dq rfl (aQ (aA (i:=0) (by show Ml (["work","level","paid"]:List LK);decide +kernel) rfl (LR rfl)) (aQ (aA (i:=1) (by show Ml (["work","level","paid"]:List LK);decide +kernel) rfl (LR rfl)) (aQ (aA (i:=2) (by show Ml (["work","level","paid"]:List LK);decide +kernel) rfl (LR rfl)) cA))))) (fun _ _ _ _ _ _=>bz) (fun _ _ _ _ _ _=>(pv 0))) ah))))) zS
theorem zp(T:Txt K mg):mO P w K mg base 1 "paid_at" ["purses","level"] (n9 K):=T.Ek.cal (rd:=oz K) BJ (aP rfl) (fun f cdv A outer s H E hr=>
 (ak (aJ (bM (N:=["purse","level"]) (mp:=[none,some 1]) rfl ⟨rfl,by decide +kernel,by rfl,rfl,by rfl⟩ (bD (pv 0)) (fun _ _ _ _ _ _=>(aA (i:=0) (by show Ml (["purse","level"]:List LK);decide +kernel) rfl (LR rfl))) (fun _ _ _ _ _ _=>bz) (fun _ _ _ _ _ _=>(a8 (D5 rfl) (by rfl) T.z_min UW (aa (pv 0) (aa (pv 1) ah)))))))) A7
theorem rV(T:Txt K mg):mO P w K mg base 4 "payments_of" ["purses","wishes","work","level"] (il K):=T.vT.cal (rd:=iN K) mw (aP rfl) (fun f cdv A outer s H E hr=>
 (ag (aU (i:=4) mw.nd rfl (NP rfl) (bj (lK T) (hr.mono (by decide)) (aa (pv 1) (aa (pv 2) ah))))
   (ak (aJ (bM (N:=["voter","paid","wanters"]) (mp:=[none,none,some 4]) rfl ⟨rfl,by decide +kernel,by rfl,rfl,by rfl⟩ (pA (by rfl) T.eO (bj (zp T) (hr.mono (by decide)) (aa (pv 0) (aa (pv 3) ah)))) (fun _ _ _ _ _ _=>(dq rfl (aQ (aA (i:=0) (by show Ml (["voter","paid","wanters"]:List LK);decide +kernel) rfl (LR rfl)) (aQ (aA (i:=1) (by show Ml (["voter","paid","wanters"]:List LK);decide +kernel) rfl (LR rfl)) cA)))) (fun _ _ _ _ _ _=>bz) (fun _ _ _ _ _ _=>(zd (aD fW (pv 0) (pv 2) rfl) (pv 1) aj))))))) uV
theorem kO(T:Txt K mg):mO P w K mg base 6 "step_behind" ["purses","costs","wishes","steps"] (dG K):=T.vL.cal (rd:=iK K) dM (aP rfl) (fun f cdv A outer s H E hr=>
 (ag (aU (i:=4) dM.nd rfl (LR rfl) (bj (rD T) (hr.mono (by decide)) (aa (pv 0) (aa (pv 3) ah))))
   (ag (aU (i:=5) dM.nd rfl (LR rfl) (bj (vx T) (hr.mono (by decide)) (aa (pv 4) (aa (pv 1) (aa (pv 2) (aa (bj (xN T) (hr.mono (by decide)) (aa (pv 3) ah)) ah))))))
   (ag (aU (i:=6) dM.nd rfl (LR rfl) (bj (zF T) (hr.mono (by decide)) (aa (pv 5) ah)))
   (ag (bJ (aD BG (pv 6) gF (aO _)) (ak (aJ gF)) aX)
   (ag (aU (i:=7) dM.nd rfl (LR rfl) (aM aE (pv 5) (pv 6) (fun _ _=>rfl)))
   (ak (aJ (cP (aa (pv 6) (aa (pv 7) (aa (bj (rV T) (hr.mono (by decide)) (aa (pv 4) (aa (pv 2) (aa (pv 6) (aa (pv 7) ah))))) ah)))))))))))) tE
theorem BC(T:Txt K mg):mO P w K mg base 7 "choose" ["purses","costs","wishes"] (qP K):=T.Fm.cal (rd:=qH K) mP (aP rfl) (fun f cdv A outer s H E hr=>
 (ag (aU (i:=3) mP.nd rfl (LR rfl) (bI ah))
   (ag (aU (i:=4) mP.nd rfl (LR rfl) (bj (kO T) (hr.mono (by decide)) (aa (pv 0) (aa (pv 1) (aa (pv 2) (aa (pv 3) ah))))))
   (ag (zV M7 (aD yx (pv 4) gF (aO _)) (ag (bp (gA M0 Oj OF dX (pv 3) (aa (pv 4) ah)))
   (ak (aU (i:=4) mP.nd rfl (LR rfl) (bj (kO T) (hr.mono (by decide)) (aa (pv 0) (aa (pv 1) (aa (pv 2) (aa (pv 3) ah)))))))))
   (ak (aJ (pv 3))))))) Dw
theorem mh(T:Txt K mg):fL qK P w K mg base 1 "Chest" "keep_coins" ["self","left","grains"] (ee K):=T.ou.cal (rd:=d9 K) m6 (aP rfl) (fun f cdv A outer s H E hr=>
 (ag (ib (pv 0) (aC cg (a8 (u1 rfl) (by rfl) T.z_sum QT (aa (bM (N:=["part","grains"]) (mp:=[none,some 2]) rfl ⟨rfl,by decide +kernel,by rfl,rfl,by rfl⟩ (bD (pv 1)) (fun _ _ _ _ _ _=>(aA (i:=0) (by show Ml (["part","grains"]:List LK);decide +kernel) rfl (LR rfl))) (fun _ _ _ _ _ _=>bz) (fun _ _ _ _ _ _=>(aC bw (pv 0) (pv 1)))) ah)) (pv 2)) uR)
   (ak (iM (pv 0) (E9 rfl (by rfl) T.E6 (by rfl) T.z_zip (aa (bG (pv 0) rfl) (aa (bM (N:=["part","grains"]) (mp:=[none,some 2]) rfl ⟨rfl,by decide +kernel,by rfl,rfl,by rfl⟩ (bD (pv 1)) (fun _ _ _ _ _ _=>(aA (i:=0) (by show Ml (["part","grains"]:List LK);decide +kernel) rfl (LR rfl))) (fun _ _ _ _ _ _=>bz) (fun _ _ _ _ _ _=>(aC cg (pv 0) (pv 1)))) ah))) rfl)))) (nt T.cls)
theorem jF(T:Txt K mg):fL qK P w K mg base 1 "Chest" "wanted_places" ["self","voter"] (di K):=T.kY.cal (rd:=dj K) kG (aP rfl) (fun f cdv A outer s H E hr=>
 (ak (aJ (sL (bM (N:=["place","work","voter","self"]) (mp:=[none,none,some 1,some 0]) rfl ⟨rfl,by decide +kernel,by rfl,rfl,by rfl⟩ (ED (by rfl) T.eO (bG (pv 0) rfl)) (fun _ _ _ _ _ _=>(dq rfl (aQ (aA (i:=0) (by show Ml (["place","work","voter","self"]:List LK);decide +kernel) rfl (LR rfl)) (aQ (aA (i:=1) (by show Ml (["place","work","voter","self"]:List LK);decide +kernel) rfl (LR rfl)) cA)))) (fun _ _ _ _ _ _=>(eh (aD (Fh hr.units) (cP (aa (pv 2) (aa (pv 1) ah))) (bG (pv 3) rfl) rfl))) (fun _ _ _ _ _ _=>(pv 0))))))) (kh T.cls)
theorem m9(T:Txt K mg):fL qK P w K mg base 1 "Chest" "told_step" ["self","place","paid"] (eJ K):=T.pD.cal (rd:=eM K) eI (aP rfl) (fun f cdv A outer s H E hr=>
 (ag (aU (i:=3) eI.nd rfl (LR rfl) (aM aE (c9 (B3 rfl) (by rfl) T.xW Qe (aa (bG (pv 0) rfl) ah)) (pv 1) (fun _ _=>rfl)))
   (ag (u4 (gS (i:=4) (N:=["voter","part"]) (mp:=[none,none]) eI.nd rfl (LR rfl) rfl ⟨rfl,by decide +kernel,by rfl,rfl,by rfl⟩ (GF (by rfl) T.z_zip (aa (bG (pv 0) rfl) (aa (pv 2) ah))) (fun _ _ _ _ _ _=>(dq rfl (aQ (aA (i:=0) (by show Ml (["voter","part"]:List LK);decide +kernel) rfl (LR rfl)) (aQ (aA (i:=1) (by show Ml (["voter","part"]:List LK);decide +kernel) rfl (LR rfl)) cA)))) (fun _ _ _ _ _ _=>(eh (aD qq (pv 1) aj (aO _)))) (fun _ _ _ _ _ _=>(cP (aa (pv 0) (aa (pv 1) ah)))) (by with_unfolding_all rfl)))
   (ak (aJ (cP (aa (pv 3) (aa (hJ (eP hr) (bG (pv 0) rfl) (pv 3) (fun _ _=>rfl)) (aa (pv 4) ah))))))))) (ox T.cls)
theorem rO(T:Txt K mg):fL qK P w K mg base 8 "Chest" "close" ["self"] (iF K):=T.wC.cal (rd:=iA K) cc (aP rfl) (fun f cdv A outer s H E hr=>
 (ag (bJ (PW.pt (rp (uI (A4 (bG (pv 0) rfl))) (lV (uI (A4 (bG (pv 0) rfl)))))) (ak (aJ (cP (aa (bI ah) (aa aj ah))))) aX)
   (ag (aU (i:=1) cc.nd rfl (NP rfl) (bj (nN T) (hr.mono (by decide)) (aa (a8 iT (by rfl) T.z_len M4 (aa (bG (pv 0) rfl) ah)) (aa (a8 iT (by rfl) T.z_len M4 (aa (bG (pv 0) rfl) ah)) ah))))
   (ag (u4 (gS (i:=2) (N:=["purse","grains"]) (mp:=[none,some 1]) cc.nd rfl (LR rfl) rfl ⟨rfl,by decide +kernel,by rfl,rfl,by rfl⟩ (GW (bG (pv 0) rfl)) (fun _ _ _ _ _ _=>(aA (i:=0) (by show Ml (["purse","grains"]:List LK);decide +kernel) rfl (LR rfl))) (fun _ _ _ _ _ _=>bz) (fun _ _ _ _ _ _=>(aC fF (pv 0) (pv 1))) (by with_unfolding_all rfl)))
   (ag (u4 (gS (i:=3) (N:=["voter","self"]) (mp:=[none,some 0]) cc.nd rfl (LR rfl) rfl ⟨rfl,by decide +kernel,by rfl,rfl,by rfl⟩ (CT (bG (pv 0) rfl)) (fun _ _ _ _ _ _=>(aA (i:=0) (by show Ml (["voter","self"]:List LK);decide +kernel) rfl (LR rfl))) (fun _ _ _ _ _ _=>bz) (fun _ _ _ _ _ _=>(pO (jF T) T.br (hr.mono (by decide)) (pv 1) (aa (pv 0) ah))) (by with_unfolding_all rfl)))
   (ag (aU (i:=4) cc.nd rfl (LR rfl) (bj (BC T) (hr.mono (by decide)) (aa (pv 2) (aa (c9 (y3 rfl) (by rfl) T.xW Qe (aa (xD PH Qg S8 Gg (bG (pv 0) rfl)) ah)) (aa (pv 3) ah)))))
   (ag (gS (i:=5) (N:=["work","level","paid","self"]) (mp:=[none,none,none,some 0]) cc.nd rfl (LR rfl) rfl ⟨rfl,by decide +kernel,by rfl,rfl,by rfl⟩ (bD (pv 4)) (fun _ _ _ _ _ _=>(dq rfl (aQ (aA (i:=0) (by show Ml (["work","level","paid","self"]:List LK);decide +kernel) rfl (LR rfl)) (aQ (aA (i:=1) (by show Ml (["work","level","paid","self"]:List LK);decide +kernel) rfl (LR rfl)) (aQ (aA (i:=2) (by show Ml (["work","level","paid","self"]:List LK);decide +kernel) rfl (LR rfl)) cA))))) (fun _ _ _ _ _ _=>bz) (fun _ _ _ _ _ _=>(pO (m9 T) T.br (hr.mono (by decide)) (pv 3) (aa (pv 0) (aa (pv 2) ah)))) (by with_unfolding_all rfl))
   (ag (bp (pO (mh T) T.br (hr.mono (by decide)) (pv 0) (aa (bj (rD T) (hr.mono (by decide)) (aa (pv 2) (aa (pv 4) ah))) (aa (pv 1) ah))))
   (ag (eL M7 rfl (bD (pv 5)) (dq rfl (aQ (aA (i:=6) cc.nd rfl (LR rfl)) (aQ (aA (i:=7) cc.nd rfl (LR rfl)) (aQ (aA (i:=8) cc.nd rfl (LR rfl)) cA)))) (ag (ib (pv 0) (pv 7) uR)
   (ak (bp (Aj (iw T) T.br (hr.mono (by decide)) (pv 0) (aa (pv 6) ah))))))
   (ak (aJ (cP (aa (pv 5) (aa (pv 1) ah)))))))))))))) (uQ T.cls)
theorem nE(T:Txt K mg):fL qK P w K mg base 1 "Chest" "pot" ["self"] (gT K):=T.zk.cal (rd:=kF K) yv (aP rfl) (fun f cdv A outer s H E hr=>
 (ak (aJ (bG (pv 0) rfl)))) (yh T.cls)
theorem kN(T:Txt K mg):fL qK P w K mg base 1 "Chest" "spent" ["self"] (fJ K):=T.vD.cal (rd:=iq K) sW (aP rfl) (fun f cdv A outer s H E hr=>
 (ak (aJ (bG (pv 0) rfl)))) (tM T.cls)
theorem oP(T:Txt K mg):fL qK P w K mg base 1 "Chest" "wanters" ["self","work"] (fY K):=T.sG.cal (rd:=fX K) qQ (aP rfl) (fun f cdv A outer s H E hr=>
 (ak (aJ (sL (bM (N:=["voter","work","self"]) (mp:=[none,some 1,some 0]) rfl ⟨rfl,by decide +kernel,by rfl,rfl,by rfl⟩ (CT (bG (pv 0) rfl)) (fun _ _ _ _ _ _=>(aA (i:=0) (by show Ml (["voter","work","self"]:List LK);decide +kernel) rfl (LR rfl))) (fun _ _ _ _ _ _=>(eh (aD (Fh hr.units) (cP (aa (pv 0) (aa (pv 1) ah))) (bG (pv 2) rfl) rfl))) (fun _ _ _ _ _ _=>(pv 0))))))) (p9 T.cls)
theorem gJ(T:Txt K mg):fL qK P w K mg base 2 "Chest" "works" ["self"] (dO K):=T.vY.cal (rd:=iD K) tJ (aP rfl) (fun f cdv A outer s H E hr=>
 (ak (aJ (sL (bM (N:=["work","cost","self"]) (mp:=[none,none,some 0]) rfl ⟨rfl,by decide +kernel,by rfl,rfl,by rfl⟩ (AQ (bG (pv 0) rfl)) (fun _ _ _ _ _ _=>(dq rfl (aQ (aA (i:=0) (by show Ml (["work","cost","self"]:List LK);decide +kernel) rfl (LR rfl)) (aQ (aA (i:=1) (by show Ml (["work","cost","self"]:List LK);decide +kernel) rfl (LR rfl)) cA)))) (fun _ _ _ _ _ _=>bz) (fun _ _ _ _ _ _=>(cP (aa (pv 0) (aa (pv 1) (aa (pO (oP T) T.br (hr.mono (by decide)) (pv 2) (aa (pv 0) ah)) ah)))))))))) (tT T.cls)
theorem vZ(T:Txt K mg):mO P w K mg base 9 "_law_year" ["chest","people","works","coins"] (j4 K):=T.Ac.cal (rd:=ki K) dZ (aP rfl) (fun f cdv A outer s H E hr=>
 (ag (eL M7 rfl (bD (dw (fQ T) T.br (hr.mono (by decide)) (pv 0))) (dq rfl (aQ (aA (i:=4) dZ.nd rfl (LR rfl)) (aQ (aA (i:=5) dZ.nd rfl (LR rfl)) cA))) (ak (eL M7 rfl (bD (dv sS (dw (gJ T) T.br (hr.mono (by decide)) (pv 0)) gd (dE aj))) (dq rfl (aQ (aA (i:=6) dZ.nd rfl (LR rfl)) (aQ (aA (i:=7) dZ.nd rfl (LR rfl)) (aQ (aA (i:=8) dZ.nd rfl (LR rfl)) cA)))) (ak (bp (Aj (md T) T.br (hr.mono (by decide)) (pv 0) (aa (pv 4) (aa (pv 6) ah))))))))
   (ag (bp (dw (rO T) T.br (hr.mono (by decide)) (pv 0)))
   (ag (bp (xD M0 RA Sf zc (pv 1)))
   (ag (bp (gA M0 Ra Sd xh (pv 1) (aa (dw (fQ T) T.br (hr.mono (by decide)) (pv 0)) ah)))
   (ag (bp (xD M0 RA Sf zc (pv 2)))
   (ag (bp (gA M0 Ra Sd xh (pv 2) (aa (bM (N:=["work","cost","names"]) (mp:=[none,none,none]) rfl ⟨rfl,by decide +kernel,by rfl,rfl,by rfl⟩ (bD (dw (gJ T) T.br (hr.mono (by decide)) (pv 0))) (fun _ _ _ _ _ _=>(dq rfl (aQ (aA (i:=0) (by show Ml (["work","cost","names"]:List LK);decide +kernel) rfl (LR rfl)) (aQ (aA (i:=1) (by show Ml (["work","cost","names"]:List LK);decide +kernel) rfl (LR rfl)) (aQ (aA (i:=2) (by show Ml (["work","cost","names"]:List LK);decide +kernel) rfl (LR rfl)) cA))))) (fun _ _ _ _ _ _=>bz) (fun _ _ _ _ _ _=>(cP (aa (pv 0) (aa (pv 1) (aa (c9 yJ (by rfl) T.xW Qe (aa (pv 2) ah)) ah)))))) ah)))
   (ag (i3 (eP hr) (pv 3) aB (dw (nE T) T.br (hr.mono (by decide)) (pv 0)) rfl)
   (ak (i3 (eP hr) (pv 3) aB (dw (kN T) T.br (hr.mono (by decide)) (pv 0)) rfl)))))))))) xS
theorem lI(T:Txt K mg):mO P w K mg base 1 "_law_spins" ["cell","many"] (gk K):=T.yS.cal (rd:=ju K) gr (aP rfl) (fun f cdv A outer s H E hr=>
 (ag (aU (i:=2) gr.nd rfl (LR rfl) (bI ah))
   (ag (eL M7 rfl (jK (by rfl) T.mQ (aa (pv 1) ah)) (aA (i:=3) gr.nd rfl (LR rfl)) (ag (aU (i:=4) gr.nd rfl (LR rfl) (aC cv (aC cv (aC bw (pv 0) aj) (aC fF aj (pv 3))) aj))
   (ak (bp (gA M0 Oj OF dX (pv 2) (aa (aC bw (aC cg (aC fF (aC fF (pv 4) (pv 4)) (aC cv (pv 4) (aC fF aj (pv 3)))) aj) aj) ah))))))
   (ak (aJ (pv 2)))))) we
theorem gh(T:Txt K mg):mO P w K mg base 2 "_law_name" ["cell","k"] (cU K):=T.AE.cal (rd:=jV K) d5 (aP rfl) (fun f cdv A outer s H E hr=>
 (ag (aU (i:=2) d5.nd rfl (NP rfl) aB)
   (ag (aU (i:=3) d5.nd rfl (LR rfl) (bj (lI T) (hr.mono (by decide)) (aa (pv 0) (aa aj ah))))
   (ag (aU (i:=4) d5.nd rfl (LR rfl) (gA Wb S3 V7 Gf aB (aa (bM (N:=["x","letters"]) (mp:=[none,some 2]) rfl ⟨rfl,by decide +kernel,by rfl,rfl,by rfl⟩ (bD (dv sS (pv 3) gd (dE aj))) (fun _ _ _ _ _ _=>(aA (i:=0) (by show Ml (["x","letters"]:List LK);decide +kernel) rfl (LR rfl))) (fun _ _ _ _ _ _=>bz) (fun _ _ _ _ _ _=>(aM ud (pv 1) (aC bw (pv 0) aj) (fun _ _=>rfl)))) ah)))
   (ag (bJ (aD cu (aC bw (aM aE (pv 3) aj (fun _ _=>rfl)) aj) aj (aO _)) (ak (aJ (aC gW (aM ud (pv 2) (aC bw (aC cv (aM aE (pv 3) aj (fun _ _=>rfl)) (aC cg (pv 1) aj)) aj) (fun _ _=>rfl)) (dv lN (pv 4) gd (dE (aC bw (pv 1) aj)))))) aX)
   (ag (bJ (aD cu (aC bw (aM aE (pv 3) aj (fun _ _=>rfl)) aj) aj (aO _)) (ak (aJ (aC gW (dv lN (pv 4) (dE (aC jf aj (aC bw (pv 1) aj))) gd) (aM ud (pv 2) (aC bw (aC cv (aM aE (pv 3) aj (fun _ _=>rfl)) (aC cg (pv 1) aj)) aj) (fun _ _=>rfl))))) aX)
   (ag (aU (i:=4) d5.nd rfl (LR rfl) (dv lN (pv 4) gd (dE (aC bw (aC cg (aM aE (pv 3) aj (fun _ _=>rfl)) aj) aj))))
   (ag (aU (i:=5) d5.nd rfl (LR rfl) (aC bw (aC cg (aM aE (pv 3) aj (fun _ _=>rfl)) aj) (aC cv (a8 jE (by rfl) T.z_len M4 (aa (pv 4) ah)) aj)))
   (ak (aJ (aC gW (aC gW (dv lN (pv 4) gd (dE (pv 5))) (aM ud (pv 2) (aC bw (aC cv (aM aE (pv 3) aj (fun _ _=>rfl)) (pv 1)) aj) (fun _ _=>rfl))) (dv lN (pv 4) (dE (pv 5)) gd)))))))))))) xM
theorem eA(T:Txt K mg):mO P w K mg base 3 "_law_text" ["cell","x","known"] (dk K):=T.zO.cal (rd:=kr K) fD (aP rfl) (fun f cdv A outer s H E hr=>
 (ag (bJ (PW.pt (jQ (aD cu (aC bw (pv 1) aj) aj (aO _)) (gX (aD (iU hr.units) (pv 2) (bI ah) (aO _))))) (ak (aJ (aM aE (pv 2) (aC bw (aC cg (pv 1) aj) (a8 cQ (by rfl) T.z_len M4 (aa (pv 2) ah))) (fun _ _=>rfl)))) aX)
   (ag (bJ (aD qo (aC bw (pv 1) aj) aj (aO _)) (ak (aJ (bj (gh T) (hr.mono (by decide)) (aa (pv 0) (aa (aC bw (aC cg (pv 1) aj) aj) ah))))) aX)
   (ag (aU (i:=3) fD.nd rfl (LR rfl) (bj (gh T) (hr.mono (by decide)) (aa (pv 0) (aa (aC bw (aC cg (pv 1) aj) aj) ah))))
   (ag (aU (i:=4) fD.nd rfl (LR rfl) (aC bw (aC cg (pv 1) aj) (a8 jE (by rfl) T.z_len M4 (aa (pv 3) ah))))
   (ag (aU (i:=5) fD.nd rfl (LR rfl) aB)
   (ag (aU (i:=6) fD.nd rfl (LR rfl) (aC gW (aC gW (dv lN (pv 3) gd (dE (pv 4))) (aM ud (pv 5) (aC bw (aC cg (pv 1) aj) (a8 jE (by rfl) T.z_len M4 (aa (pv 5) ah))) (fun _ _=>rfl))) (dv lN (pv 3) (dE (aC cv (pv 4) aj)) gd)))
   (ak (aJ (aM aE (bI (aa aB (aa (pv 6) (aa (dv lN (aC gW (pv 3) aB) gd (dE aj)) (aa (aC gW (pv 3) aB) (aa (aC gW aB (pv 3)) ah)))))) (aC bw (aC cg (pv 1) aj) aj) (fun _ _=>rfl))))))))))) yl
theorem kP(T:Txt K mg):mO P w K mg base 1 "_law_number" ["x","least"] (fk K):=T.vq.cal (rd:=iJ K) mq (aP rfl) (fun f cdv A outer s H E hr=>
 (ag (bJ (aD cu (aC bw (pv 0) aj) aj (aO _)) (ag (aU (i:=2) mq.nd rfl (LR rfl) (bI (aa (aC jf (pv 1) aj) (aa (aC cv (aC jU aj aj) aj) (aa (aC jf aj (pv 0)) (aa (aC cv (aC cv (aC jU aj aj) aj) (pv 0)) ah))))))
   (ak (aJ (aM aE (aC oH (pv 2) (bI (aa (pv 1) (aa (aC jU aj aj) (aa (aC jU aj aj) (aa (HC Et (aC jU aj aj)) ah)))))) (aC bw (aC cg (pv 0) aj) aj) (fun _ _=>rfl))))) aX)
   (ak (aJ (aC cv (pv 1) (aC bw (aC cg (pv 0) aj) aj)))))) um
theorem sC(T:Txt K mg):mO P w K mg base 4 "_law_things" ["word","xs","cell","people","works"] (ig K):=T.vy.cal (rd:=iz K) fw (aP rfl) (fun f cdv A outer s H E hr=>
 (ag (gS (i:=5) (N:=["row"]) (mp:=[none]) fw.nd rfl (LR rfl) rfl ⟨rfl,by decide +kernel,by rfl,rfl,by rfl⟩ (bD (pv 3)) (fun _ _ _ _ _ _=>(aA (i:=0) (by show Ml (["row"]:List LK);decide +kernel) rfl (LR rfl))) (fun _ _ _ _ _ _=>bz) (fun _ _ _ _ _ _=>(aM dn (pv 0) aj (fun _ _=>rfl))) (by with_unfolding_all rfl))
   (ag (gS (i:=6) (N:=["row"]) (mp:=[none]) fw.nd rfl (LR rfl) rfl ⟨rfl,by decide +kernel,by rfl,rfl,by rfl⟩ (bD (pv 4)) (fun _ _ _ _ _ _=>(aA (i:=0) (by show Ml (["row"]:List LK);decide +kernel) rfl (LR rfl))) (fun _ _ _ _ _ _=>bz) (fun _ _ _ _ _ _=>(aM dn (pv 0) aj (fun _ _=>rfl))) (by with_unfolding_all rfl))
   (ag (bJ (PW.pt (rp (aD cu (pv 0) aB (aO _)) (lV (aD cu (pv 0) aB (aO _))))) (ak (aJ (bI (aa (bj (eA T) (hr.mono (by decide)) (aa (pv 2) (aa (aM aE (pv 1) aj (fun _ _=>rfl)) (aa (pv 5) ah)))) ah)))) aX)
   (ag (bJ (aD cu (pv 0) aB (aO _)) (ak (aJ (bI (aa (bj (eA T) (hr.mono (by decide)) (aa (pv 2) (aa (aM aE (pv 1) aj (fun _ _=>rfl)) (aa (pv 6) ah)))) (aa (bj (kP T) (hr.mono (by decide)) (aa (aM aE (pv 1) aj (fun _ _=>rfl)) (aa aj ah))) ah))))) aX)
   (ag (bJ (aD cu (pv 0) aB (aO _)) (ak (aJ (bI (aa (bj (kP T) (hr.mono (by decide)) (aa (aM aE (pv 1) aj (fun _ _=>rfl)) (aa aj ah))) ah)))) aX)
   (ag (bJ (aD cu (pv 0) aB (aO _)) (ak (aJ (bI (aa (bj (eA T) (hr.mono (by decide)) (aa (pv 2) (aa (aM aE (pv 1) aj (fun _ _=>rfl)) (aa (pv 6) ah)))) ah)))) aX)
   (ag (aU (i:=7) fw.nd rfl (LR rfl) (bj (eA T) (hr.mono (by decide)) (aa (pv 2) (aa (aC jf (aM aE (pv 1) aj (fun _ _=>rfl)) (aC fF (aC bw (aM aE (pv 1) aj (fun _ _=>rfl)) aj) (c9 ia (by rfl) T.z_int O0 (aa (eC cu (aC bw (aM aE (pv 1) aj (fun _ _=>rfl)) aj) aj (aO _)) ah)))) (aa (pv 5) ah)))))
   (ak (aJ (bI (aa (pv 7) (aa (bj (eA T) (hr.mono (by decide)) (aa (pv 2) (aa (aC jf (aM aE (pv 1) aj (fun _ _=>rfl)) (aC fF (aC bw (aM aE (pv 1) aj (fun _ _=>rfl)) aj) (c9 ia (by rfl) T.z_int O0 (aa (eC cu (aC bw (aC cg (aM aE (pv 1) aj (fun _ _=>rfl)) aj) aj) aj (aO _)) ah)))) (aa (pv 6) ah)))) ah))))))))))))) tS
theorem qS(T:Txt K mg):mO P w K mg base 1 "_law_is_name" ["text"] (gL K):=T.tf.cal (rd:=gD K) sv (aP rfl) (fun f cdv A outer s H E hr=>
 (ag (bJ (PW.pt (rp (aD cu (pv 0) aB (aO _)) (lV (aD qq (a8 jE (by rfl) T.z_len M4 (aa (pv 0) ah)) aj (aO _))))) (ak (aJ pV)) aX)
   (ak (aJ (eC (BQ hr.units) (bM (N:=["sign"]) (mp:=[none]) rfl ⟨rfl,by decide +kernel,by rfl,rfl,by rfl⟩ (Cj (pv 0)) (fun _ _ _ _ _ _=>(aA (i:=0) (by show Ml (["sign"]:List LK);decide +kernel) rfl (LR rfl))) (fun _ _ _ _ _ _=>(eh (aD DY (pv 0) aB rfl))) (fun _ _ _ _ _ _=>(pv 0))) (bI ah) (aO _)))))) sr
theorem xB(T:Txt K mg):mO P w K mg base 2 "_law_due" ["word","things","people","works"] (lC K):=T.Bo.cal (rd:=mf K) rM (aP rfl) (fun f cdv A outer s H E hr=>
 (ag (bJ (PW.pt (rp (aD cu (pv 0) aB (aO _)) (lV (aD cu (pv 0) aB (aO _))))) (ag (gS (i:=4) (N:=["row"]) (mp:=[none]) rM.nd rfl (LR rfl) rfl ⟨rfl,by decide +kernel,by rfl,rfl,by rfl⟩ (bD (aM aE (bI (aa (pv 2) (aa (pv 3) ah))) (c9 ia (by rfl) T.z_int O0 (aa (eC cu (pv 0) aB (aO _)) ah)) (fun _ _=>rfl))) (fun _ _ _ _ _ _=>(aA (i:=0) (by show Ml (["row"]:List LK);decide +kernel) rfl (LR rfl))) (fun _ _ _ _ _ _=>bz) (fun _ _ _ _ _ _=>(aM dn (pv 0) aj (fun _ _=>rfl))) (by with_unfolding_all rfl))
   (ag (bJ (uI (yL (bj (qS T) (hr.mono (by decide)) (aa (aM aE (pv 1) aj (fun _ _=>rfl)) ah)))) (ak (aJ aB)) aX)
   (ag (bJ (aD fW (aM aE (pv 1) aj (fun _ _=>rfl)) (pv 4) rfl) (ak (aJ aB)) aX)
   (ag (bJ (PW.pt (jQ (aD cu (pv 0) aB (aO _)) (gX (PW.pt (rp (aD qo (aM aE (pv 1) aj (fun _ _=>rfl)) aj (aO _)) (lV (aD qq (aM aE (pv 1) aj (fun _ _=>rfl)) (aC jU aj aj) (aO _)))))))) (ak (aJ aB)) aX)
   (ak (aJ (aM aE (bI (aa aB (aa aB ah))) (c9 ia (by rfl) T.z_int O0 (aa (eC cu (a8 cQ (by rfl) T.z_len M4 (aa (pv 4) ah)) (aM aE (bI (aa aj (aa aj ah))) (c9 ia (by rfl) T.z_int O0 (aa (eC cu (pv 0) aB (aO _)) ah)) (fun _ _=>rfl)) (aO _)) ah)) (fun _ _=>rfl)))))))) aX)
   (ag (bJ (aD cu (pv 0) aB (aO _)) (ak (aJ (aM aE (bI (aa aB (aa aB ah))) (c9 ia (by rfl) T.z_int O0 (aa (Kr (eC qo (aM aE (pv 1) aj (fun _ _=>rfl)) aj (aO _)) (F9 (eC qq (aM aE (pv 1) aj (fun _ _=>rfl)) (aC jU aj aj) (aO _)))) ah)) (fun _ _=>rfl)))) aX)
   (ag (bJ (PW.pt (jQ (aD wU (pv 0) aB (aO _)) (gX (aD kl (aM aE (pv 1) aj (fun _ _=>rfl)) (bM (N:=["row"]) (mp:=[none]) rfl ⟨rfl,by decide +kernel,by rfl,rfl,by rfl⟩ (bD (pv 2)) (fun _ _ _ _ _ _=>(aA (i:=0) (by show Ml (["row"]:List LK);decide +kernel) rfl (LR rfl))) (fun _ _ _ _ _ _=>bz) (fun _ _ _ _ _ _=>(aM dn (pv 0) aj (fun _ _=>rfl)))) rfl)))) (ak (aJ aB)) aX)
   (ag (bJ (PW.pt (jQ (aD wU (pv 0) aB (aO _)) (gX (aD kl (aM aE (pv 1) (HC Et aj) (fun _ _=>rfl)) (bM (N:=["row"]) (mp:=[none]) rfl ⟨rfl,by decide +kernel,by rfl,rfl,by rfl⟩ (bD (pv 3)) (fun _ _ _ _ _ _=>(aA (i:=0) (by show Ml (["row"]:List LK);decide +kernel) rfl (LR rfl))) (fun _ _ _ _ _ _=>bz) (fun _ _ _ _ _ _=>(aM dn (pv 0) aj (fun _ _=>rfl)))) rfl)))) (ak (aJ aB)) aX)
   (ak (aJ aB))))))) Ao
theorem va(T:Txt K mg):mO P w K mg base 5 "_law_asked" ["chest","word","things"] (jh K):=T.yp.cal (rd:=js K) cX (aP rfl) (fun f cdv A outer s H E hr=>
 (ag (aU (i:=3) cX.nd rfl (LR rfl) gF)
   (ag (aU (i:=4) cX.nd rfl (LR rfl) gF)
   (ag (C7 (i:=5) (j:=4) rfl rfl (fun b=>(NG:b∉([]:List LL))) rfl cX.nd rfl rfl rfl (by rfl) T.ku.bound (fun E=>(Jc (E:=E) (nL T) (hr.mono (by decide)) (fun b=>(NG:b∉([]:List LL))) (aa (pv 0) (aa (pv 1) (aa (pv 2) ah))))) (fun v=>(ak (aU (i:=3) cX.nd rfl (LR rfl) (pv 5)))))
   (ag (bJ (aD BG (pv 3) gF (aO _)) (ak (aJ (pv 4))) aX)
   (ag (aU (i:=6) cX.nd rfl (LR rfl) (bI (aa (a8 cB (by rfl) T.cC Oi (aa (pv 3) (aa (lL T.jD) ah))) (aa (a8 cB (by rfl) T.cC Oi (aa (pv 3) (aa (lL T.mU) ah))) (aa (a8 cB (by rfl) T.cC Oi (aa (pv 3) (aa (lL T.hX) ah))) ah)))))
   (ag (aU (i:=6) cX.nd rfl (LR rfl) (aC oH (pv 6) (bI (aa (a8 cB (by rfl) T.cC Oi (aa (pv 3) (aa (lL T.jP) ah))) (aa (a8 cB (by rfl) T.cC Oi (aa (pv 3) (aa (lL T.hZ) ah))) (aa (a8 cB (by rfl) T.cC Oi (aa (pv 3) (aa (lL T.pY) ah))) ah))))))
   (ak (aJ (aC oH (pv 6) (bI (aa (a8 cB (by rfl) T.cC Oi (aa (pv 3) (aa (lL T.qN) ah))) (aa (a8 cB (by rfl) T.cC Oi (aa (pv 3) (aa (lL T.xU) ah))) (aa (a8 cB (by rfl) T.cC Oi (aa (pv 3) (aa (G9 (by rfl) T.xX (by first|rfl|decide +kernel) rfl) ah))) ah)))))))))))))) (vn T.cls)
theorem sH(T:Txt K mg):fL qK P w K mg base 1 "Chest" "given" ["self"] (iX K):=T.wm.cal (rd:=iC K) u6 (aP rfl) (fun f cdv A outer s H E hr=>
 (ak (aJ (bG (pv 0) rfl)))) (uz T.cls)
theorem tI(T:Txt K mg):mO P w K mg base 3 "_law_right" ["chest","people","works","coins"] (gj K):=T.yO.cal (rd:=jt K) jj (aP rfl) (fun f cdv A outer s H E hr=>
 (ag (aU (i:=4) jj.nd rfl (LR rfl) (bI ah))
   (ag (eL M7 rfl (bD (pv 2)) (aA (i:=5) jj.nd rfl (NP rfl)) (ak (bp (gA M0 Oj OF dX (pv 4) (aa (cP (aa (aM dn (pv 5) aj (fun _ _=>rfl)) (aa (aM dn (pv 5) aj (fun _ _=>rfl)) (aa (bM (N:=["row","work"]) (mp:=[none,some 5]) rfl ⟨rfl,by decide +kernel,by rfl,rfl,by rfl⟩ (bD (pv 1)) (fun _ _ _ _ _ _=>(aA (i:=0) (by show Ml (["row","work"]:List LK);decide +kernel) rfl (LR rfl))) (fun _ _ _ _ _ _=>(eh (aD fW (aM dn (pv 0) aj (fun _ _=>rfl)) (aM dn (pv 1) aj (fun _ _=>rfl)) rfl))) (fun _ _ _ _ _ _=>(aM dn (pv 0) aj (fun _ _=>rfl)))) ah)))) ah)))))
   (ag (bJ (PW.pt (rp (aD (iU hr.units) (dw (fQ T) T.br (hr.mono (by decide)) (pv 0)) (pv 1) (aO _)) (lV (aD (iU hr.units) (dw (gJ T) T.br (hr.mono (by decide)) (pv 0)) (pv 4) (aO _))))) (ak (aJ pV)) aX)
   (ak (aJ (eC (Bq hr.units) (bI (aa (dw (nE T) T.br (hr.mono (by decide)) (pv 0)) (aa (dw (sH T) T.br (hr.mono (by decide)) (pv 0)) (aa (dw (kN T) T.br (hr.mono (by decide)) (pv 0)) ah)))) (bI (aa (hJ (eP hr) (pv 3) aB (fun _ _=>rfl)) (aa (hJ (eP hr) (pv 3) aB (fun _ _=>rfl)) (aa (hJ (eP hr) (pv 3) aB (fun _ _=>rfl)) ah)))) (aO _)))))))) vO
theorem IQ(T:Txt K mg){f:LL}{cdv:LM}{A:Mb}{outer:List Mo}{s:LN}{H:Hp}{E:XK}(hr:cS 9 (A.deeper (MY "law" (ax zf) s.heap.objs.size f cdv))):
  vm (cj qK P w K mg base ["script","first","cell","chest","people","works","coins","many","rows","word","things","words","names","one","xs","due","found","kinds"] "law" (ax zf) f cdv A outer s H E).nox (df zf) (B8 K):=
 (ag (aU (i:=1) cH.nd rfl (LR rfl) (bj (pH T) (hr.mono (by decide)) (aa (pv 0) (aa aj ah))))
   (ag (aU (i:=2) cH.nd rfl (NP rfl) (bj (pH T) (hr.mono (by decide)) (aa (pv 0) (aa aj ah))))
   (ag (aU (i:=3) cH.nd rfl (LR rfl) (Ec (oi T) T.br (hr.mono (by decide))))
   (ag (aU (i:=4) cH.nd rfl (LR rfl) (bI ah))
   (ag (aU (i:=5) cH.nd rfl (LR rfl) (bI ah))
   (ag (aU (i:=6) cH.nd rfl (LR rfl) (GG (ug aB aj (ug aB aj (ug aB aj Ge))) rfl rfl (by decide) (by decide)))
   (ag (aU (i:=7) cH.nd rfl (LR rfl) (aM aE (bI (aa aj (aa (aC bw (aC cg (pv 1) aj) aj) ah))) (aC bw (pv 1) aj) (fun _ _=>rfl)))
   (ag (gS (i:=8) (N:=["k","cell"]) (mp:=[none,some 2]) cH.nd rfl (LR rfl) rfl ⟨rfl,by decide +kernel,by rfl,rfl,by rfl⟩ (jK (by rfl) T.mQ (aa (pv 7) ah)) (fun _ _ _ _ _ _=>(aA (i:=0) (by show Ml (["k","cell"]:List LK);decide +kernel) rfl (LR rfl))) (fun _ _ _ _ _ _=>bz) (fun _ _ _ _ _ _=>(cP (aa aB (aa (bI (aa (bj (gh T) (hr.mono (by decide)) (aa (pv 1) (aa (pv 0) ah))) ah)) ah)))) (by with_unfolding_all rfl))
   (ag (aU (i:=7) cH.nd rfl (LR rfl) (aM aE (bI (aa aj (aa (aC bw (aC cg (pv 1) aj) aj) ah))) (aC bw (aC cg (pv 1) aj) aj) (fun _ _=>rfl)))
   (ag (aU (i:=8) cH.nd rfl (LR rfl) (aC oH (pv 8) (bM (N:=["k","cell"]) (mp:=[none,some 2]) rfl ⟨rfl,by decide +kernel,by rfl,rfl,by rfl⟩ (jK (by rfl) T.mQ (aa (pv 7) ah)) (fun _ _ _ _ _ _=>(aA (i:=0) (by show Ml (["k","cell"]:List LK);decide +kernel) rfl (LR rfl))) (fun _ _ _ _ _ _=>bz) (fun _ _ _ _ _ _=>(cP (aa aB (aa (bI (aa (bj (gh T) (hr.mono (by decide)) (aa (pv 1) (aa (pv 0) ah))) (aa (aC cv (pv 0) aj) ah))) ah)))))))
   (ag (eL M7 rfl (bD (aC oH (pv 8) (bI (aa (cP (aa aB (aa (bI (aa (aC bw (pv 1) aj) ah)) ah))) ah)))) (dq rfl (aQ (aA (i:=9) cH.nd rfl (LR rfl)) (aQ (aA (i:=10) cH.nd rfl (LR rfl)) cA))) (ag (bp (Gk (nL T) (hr.mono (by decide)) (aa (pv 3) (aa (pv 9) (aa (pv 10) ah)))))
   (ak (bp (bj (nG T) (hr.mono (by decide)) (aa (pv 9) (aa (pv 10) (aa (pv 4) (aa (pv 5) (aa (pv 6) ah))))))))))
   (ag (bJ (aD qq (aC bw (aC cg (pv 1) aj) aj) aj (aO _)) (ak (bp (bj (vZ T) (hr.mono (by decide)) (aa (pv 3) (aa (pv 4) (aa (pv 5) (aa (pv 6) ah))))))) aX)
   (ag (aU (i:=11) cH.nd rfl (LR rfl) (bI (aa aB (aa aB (aa aB (aa aB (aa aB (aa aB (aa aB ah)))))))))
   (ag (aU (i:=11) cH.nd rfl (LR rfl) (aC oH (pv 11) (bI (aa aB (aa aB (aa aB ah))))))
   (ag (aU (i:=12) cH.nd rfl (LR rfl) (bI (aa aB (aa aB (aa aB (aa aB (aa aB (aa aB ah))))))))
   (ag (eL M7 rfl (bD (dv sS (pv 0) (dE aj) (dE aj))) (aA (i:=13) cH.nd rfl (LR rfl)) (ag (aU (i:=14) cH.nd rfl (LR rfl) (bj (lI T) (hr.mono (by decide)) (aa (pv 13) (aa aj ah))))
   (ag (aU (i:=9) cH.nd rfl (LR rfl) (aM aE (pv 11) (aC bw (aM aE (pv 14) aj (fun _ _=>rfl)) aj) (fun _ _=>rfl)))
   (ag (aU (i:=10) cH.nd rfl (LR rfl) (bj (sC T) (hr.mono (by decide)) (aa (pv 9) (aa (pv 14) (aa (pv 2) (aa (pv 4) (aa (pv 5) ah)))))))
   (ag (aU (i:=15) cH.nd rfl (NP rfl) (bj (xB T) (hr.mono (by decide)) (aa (pv 9) (aa (pv 10) (aa (pv 4) (aa (pv 5) ah))))))
   (ag (aU (i:=16) cH.nd rfl (LR rfl) (bj (va T) (hr.mono (by decide)) (aa (pv 3) (aa (pv 9) (aa (pv 10) ah)))))
   (ag (bJ (PW.pt (jQ (aD cu (pv 15) aB (aO _)) (gX (aD yx (pv 16) gF (aO _))))) (ak (aJ pV)) aX)
   (ag (gS (i:=17) (N:=["name","due"]) (mp:=[none,some 15]) cH.nd rfl (LR rfl) rfl ⟨rfl,by decide +kernel,by rfl,rfl,by rfl⟩ (bD (pv 12)) (fun _ _ _ _ _ _=>(aA (i:=0) (by show Ml (["name","due"]:List LK);decide +kernel) rfl (LR rfl))) (fun _ _ _ _ _ _=>bz) (fun _ _ _ _ _ _=>(eC cu (pv 1) (pv 0) (aO _))) (by with_unfolding_all rfl))
   (ag (bJ (PW.pt (jQ (aD wU (pv 15) aB (aO _)) (gX (aD (iU hr.units) (pv 16) (aC oH (pv 17) (bI (aa pV (aa pV (aa pV ah))))) (aO _))))) (ak (aJ pV)) aX)
   (ag (bJ (aD cu (pv 15) aB (aO _)) (ak (bp (bj (nG T) (hr.mono (by decide)) (aa (pv 9) (aa (pv 10) (aa (pv 4) (aa (pv 5) (aa (pv 6) ah)))))))) aX)
   (ak (bJ (uI (yL (bj (tI T) (hr.mono (by decide)) (aa (pv 3) (aa (pv 4) (aa (pv 5) (aa (pv 6) ah))))))) (ak (aJ pV)) aX))))))))))))
   (ak (aJ pV))))))))))))))))))
end
end My
open PySem PySem.W PyProof.Rows
noncomputable def PySem.W.Fast.tw9888019060943448784:Unit:=()
noncomputable def PySem.W.Fast.tw714128865813482426:Unit:=()
noncomputable def PySem.W.Fast.tw16936408973629061539:Unit:=()
noncomputable def PySem.W.Fast.tw2939712263598696940:Unit:=()
noncomputable def PySem.W.Fast.tw5940142942947814815:Unit:=()
noncomputable def PySem.W.Fast.tw4069771740667219547:Unit:=()
noncomputable def PySem.W.Fast.tw9113778205289873806:Unit:=()
noncomputable def PySem.W.Fast.tw12719772955283210830:Unit:=()
noncomputable def PySem.W.Fast.tw5580079790453185222:Unit:=()
noncomputable def PySem.W.Fast.tw17141266626599438082:Unit:=()
noncomputable def PySem.W.Fast.tw15431061992857227677:Unit:=()
noncomputable def PySem.W.Fast.tw4151208089721085693:Unit:=()
noncomputable def PySem.W.Fast.tw15095746023379585353:Unit:=()
noncomputable def PySem.W.Fast.tw9164388814409095962:Unit:=()
noncomputable def PySem.W.Fast.tw3282734657073510226:Unit:=()
noncomputable def PySem.W.Fast.tw2058889566821781377:Unit:=()
noncomputable def PySem.W.Fast.tw11542933572181590652:Unit:=()
noncomputable def PySem.W.Fast.tw11749660906481881400:Unit:=()
noncomputable def PySem.W.Fast.tw1759139190181300244:Unit:=()
noncomputable def PySem.W.Fast.tw18303037018228289418:Unit:=()
noncomputable def PySem.W.Fast.tw758089529609938863:Unit:=()
noncomputable def PySem.W.Fast.tw4862186686155699924:Unit:=()
noncomputable def PySem.W.Fast.tw10177109829672351009:Unit:=()
noncomputable def PySem.W.Fast.tw10837993325289496483:Unit:=()
noncomputable def PySem.W.Fast.tw8852376052650567298:Unit:=()
noncomputable def PySem.W.Fast.tw5649386788932791459:Unit:=()
noncomputable def PySem.W.Fast.tw12345622116269512728:Unit:=()
noncomputable def PySem.W.Fast.tw15587631352573282542:Unit:=()
noncomputable def PySem.W.Fast.tw16845730133209151051:Unit:=()
noncomputable def PySem.W.Fast.tw9409702263042528849:Unit:=()
noncomputable def PySem.W.Fast.tw11506533089944115289:Unit:=()
noncomputable def PySem.W.Fast.tw5198505632160519487:Unit:=()
noncomputable def PySem.W.Fast.tw7843457994163944175:Unit:=()
noncomputable def PySem.W.Fast.tw17633853559821202349:Unit:=()
noncomputable def PySem.W.Fast.tw1368033650950419716:Unit:=()
noncomputable def PySem.W.Fast.tw16564776155606546076:Unit:=()
noncomputable def PySem.W.Fast.tw942246900960255685:Unit:=()
noncomputable def PySem.W.Fast.tw9901868928750132168:Unit:=()
noncomputable def PySem.W.Fast.tw2746510478413178729:Unit:=()
noncomputable def PySem.W.Fast.tw8110665422915655230:Unit:=()
noncomputable def PySem.W.Fast.tw15582407025129661217:Unit:=()
noncomputable def PySem.W.Fast.tw15191674895340031784:Unit:=()
noncomputable def PySem.W.Fast.tw5052991221262314883:Unit:=()
noncomputable def PySem.W.Fast.tw10829846473906367323:Unit:=()
noncomputable def PySem.W.Fast.tw5904970477080017417:Unit:=()
noncomputable def PySem.W.Fast.tw11137683330281585351:Unit:=()
noncomputable def PySem.W.Fast.tw6732555665940027382:Unit:=()
noncomputable def PySem.W.Fast.tw10728040342574898836:Unit:=()
noncomputable def PySem.W.Fast.tw2734960179857748186:Unit:=()
noncomputable def PySem.W.Fast.tw17481829200433041401:Unit:=()
noncomputable def PySem.W.Fast.tw17363640500082516186:Unit:=()
noncomputable def PySem.W.Fast.tw2417069106222806160:Unit:=()
noncomputable def PySem.W.Fast.tw7059727475620407412:Unit:=()
noncomputable def PySem.W.Fast.tw7844434615095440079:Unit:=()
noncomputable def PySem.W.Fast.tw11485392283401973345:Unit:=()
noncomputable def PySem.W.Fast.tw12615402666592974524:Unit:=()
noncomputable def PySem.W.Fast.tw10823270841771919003:Unit:=()
noncomputable def PySem.W.Fast.tw17303631388501223037:Unit:=()
noncomputable def PySem.W.Fast.tw4904578212709039166:Unit:=()
noncomputable def PySem.W.Fast.tw6993574236951157473:Unit:=()
noncomputable def PySem.W.Fast.tw2418121685989498058:Unit:=()
set_option maxRecDepth 100000 in
set_option maxHeartbeats 0 in
theorem PySem.Challenge.cw_purse_k43_refused_in_order_holds : PySem.Challenge.rw_purse_k43_refused_in_order.Holds := by
 w_on;o_law;k_head;(case hw=>w_witness2)
 k_fill
 refine L2.EF (l:=PySem.Challenge.rw_purse_k43_refused_in_order) (k:=10) rfl rfl ⟨rfl,by decide,by decide⟩ (fun w h Y=>VL Y) ?F
 case F=>
  intro w mg fa h KX G hmg
  have⟨hX,jP,jD,mU,pY,hZ,xU,qN,ku,br⟩:L2.d8 (L2.wW KX) mg "NoVoter"/\L2.d8 (L2.wW KX) mg "NoWork"/\L2.d8 (L2.wW KX) mg "NoName"/\L2.d8 (L2.wW KX) mg "Twice"/\L2.d8 (L2.wW KX) mg "Full"/\L2.d8 (L2.wW KX) mg "TooMuch"/\L2.d8 (L2.wW KX) mg "NoRow"/\L2.d8 (L2.wW KX) mg "NoPaper"/\L2.d8 (L2.wW KX) mg "PurseError"/\L2.rj (L2.wW KX) mg "Chest":=by
   exists ?_,?_,?_,?_,?_,?_,?_,?_,?_
   iterate 8 (dsimp only[L2.wW];refine' L2.GY KX G ?a ?l ?n ?l1 ?n1 ?g1 ?g2 ?g3 ?g4 ?g5 ?g6 ?hk ?hi ?hk1 ?hi1;(case a|l|n|l1|n1|g1|g2|g3|g4|g5|g6=>k_is);(case hk|hi|hk1|hi1=>(first|rfl|(with_unfolding_all rfl)|(simp[L2.keysOk,Tt,Sn];done))))
   (dsimp only[L2.wW];refine' L2.Gz KX G ?a ?l ?n ?g1 ?g2 ?g3 ?g4 ?g5 ?g6 ?hk ?hi;(case a|l|n|g1|g2|g3|g4|g5|g6=>k_is);(case hk|hi=>(first|rfl|(with_unfolding_all rfl)|(simp[L2.keysOk,Tt,Sn];done))))
   (dsimp only[L2.wW];refine' L2.JL KX G ?a ?pg ?hd ?po ?sa ?mk ?kp;(case a|pg|hd|po|sa|mk|kp=>k_is))
  have cls:My.jb (L2.wW KX):=by
   exists jD.some,jD.ek,mU.some,mU.ek,hX.some,hX.ek,jP.some,jP.ek,hZ.some,hZ.ek,pY.some,pY.ek,?_,?_,?_,?_,?_,?_,?_,?_,?_,?_,?_,?_,?_,?_,?_,?_,?_,?_,?_,?_,?_,?_,?_,?_,?_,?_,?_,?_,?_,?_,?_,?_,?_,?_,?_,?_,?_,?_,?_,?_,?_,?_,?_,?_,?_,?_,?_,?_,?_,?_,?_,?_,?_,?_,?_,?_,?_,?_,?_,?_,br.cls,?_,?_,?_,?_,?_
   iterate 6 ((dsimp only[L2.wW];refine' L2.Hn ?a ?b ?e ?c ?t ?s;(case a|b|e|c|t|s=>k_is));(dsimp only[L2.wW];refine' L2.IP ?a ?m ?s;(case a=>k_is);(case m=>(first|rfl|decide +kernel));(case s=>k_is));iterate 8 (dsimp only[L2.wW];refine' L2.Hh ?a ?b ?c ?t ?s ?n;(case a|b|c|t|s=>k_is);(case n=>(first|exact fun _=>rfl|decide))))
   iterate 6 (dsimp only[L2.wW];refine' L2.DR ?a ?n;(case a|n=>k_is))
  have T:My.Txt (L2.wW KX) mg:=by
   exists ?_,?_,?_,?_,?_,?_,?_,?_,?_,?_,?_,?_,?_,?_,?_,?_,?_,?_,?_,?_,?_,?_,?_,?_,?_,?_,?_,?_,?_,?_,?_,?_,?_,?_,?_,?_,?_,?_,?_,?_,?_,?_,?_,?_,?_,?_,?_,?_,?_,?_,?_,?_,?_,?_,?_,?_,?_,?_,br,hX,jP,jD,mU,pY,hZ,ku,xU,qN,cls,?_,?_,?_,?_,?_,?_,?_,?_,?_,?_,?_,?_,?_,?_,?_,?_,?_,?_
   iterate 58 ((dsimp only[L2.wW];first|(refine' L2.JK KX G ?a ?l ?c ?k ?b;(case a|l|c|k=>k_is))|(refine' L2.Gs (h:=h) ?a ?a4 ?fn ?l ?c ?k ?b;(case a|a4|fn|l|c|k=>k_is)));(case b=>(first|exact fun _ _ _ _ _ _ us hl=>(match us,hl with|[_],_=>rfl)|exact fun _ _ _ _ _ _ us hl=>(match us,hl with|[_,_],_=>rfl)|exact fun _ _ _ _ _ _ us hl=>(match us,hl with|[_,_,_],_=>rfl)|exact fun _ _ _ _ _ _ us hl=>(match us,hl with|[_,_,_,_],_=>rfl)|exact fun _ _ _ _ _ _ us hl=>(match us,hl with|[_,_,_,_,_],_=>rfl))))
   iterate 14 (refine' L2.Hk KX G ?z;(case z=>k_is))
   (refine' L2.GJ KX G ?z;(case z=>k_is))
   iterate 4 (refine' L2.IW KX G ?z;(case z=>k_is))
  exact L2.bS.law T.f_law hmg My.cH (L2.aP rfl) (fun base f cdv A outer s H E hr=>My.IQ T hr) My.Je
