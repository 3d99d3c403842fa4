import PyProof.Rows.All
import Wide.All
import OpenK.AllK
import Wide.FinOn
import Lean
import PyProof.EqAt
import PyProof.EqKinds
import PyProof.TupleCall
import KE.KIsAll
import KE.KTryMore
import PyProof.ExcAttrAll.ValueError
import KE.KIntText
import KE.KItemsList
import KE.KDictOf
import PyProof.AttrMissHeap
import KE.KPairComp
import PyProof.DictWalks
import PyProof.P3In
import PyProof.SameEqv
import KE.KDictList
import KE.KDictIter
import PyProof.Draws
import PyProof.EnumMake
import PyProof.Rows.Range3
import PyProof.ZipIter
import KE.KTurns
import PyProof.FactsAll.zip_1
import PySem.Challenge.RW_purse_k53_refused_rows
local macro_rules | `(tactic| exists $e,*) => `(tactic| refine ⟨$e,*, ?_⟩)
open PySem renaming Str->PH,Addr->PK,Value->PL,Shared->PN,wpAny->PQ,wpAny_bind->PR,Obj->PV,Expr->PY,sizeLine->PZ,Heap->P0,Stmt->P5,World->P8,Program->Qc,Paired->Qd,starEach->Qf,Around->Qg,wpAny_pure->Qh,Pos->Qi,Env->Qq,PyData->Qw,IsPair->QE,backTo->QF,mainGlobals->QI,compareOp->QO,rawInt->QQ,Scope->QS,boot_len->QZ,cellsFrom->Q0,wpAny_field->Q1,wpAny_mono->Q5,NameKind->Q8,IsZip->Rc,pyNext->Rg,binaryOp->Rr,sysModules->Ry,Builtin->RD,FuncData->RF,ZipApart->RG,call_meets->RL,backToKw->RO,DictEntry->RQ,keywordEach->RT,codeAny->RU,getMethod->RZ,inplaceOp->R9,wpAny_seqItems->Sd,pushCells->Sv,wpAny_passesOwn->SK,sliceBounds->SN,attributeBase->SO,wpAny_holding->SS,wpAny_call_entry->Ta,wpAny_execs_nil->To,bootBuiltins->Tp,wpAny_setField_rec->Tq,wpAny_truthy_bool->Tv,wpAny_callSpecial?_slot->TH,assignEach->TR,call_meetsIn->TV,typeLookup->TY,reprText->TZ,behindInMarks->T8,mem_of_lookup->Ue,wpAny_pyIter_dict->Up,wpAny_getItem_str_slice->UH,tupleKind_room_in1->UK,wpAny_Call_Name_kw->US,wpAny_typeOf->UU,wpAny_pyIter_enum->UW,wpAny_attempt->UY,wpAny_pyIter_list->U0,getattributeRaised->U2,Within->Vp,wpAny_pyIter_zip->Vs,evalArgs_none->VI,call->V3,intText?->Wb,typeLookup_type->Wg,findBy->WL,nsFind->WN,wpAny_nextOf_list_item->W5
open PySem.W renaming Frag->PM,kitOne->Qa,findIn->Q7,nsIn->Rn,clsIn->Ro,exmOne->RP,keepIn->RW,fnOf->Sa,emptyDict->Si,mg_of->Sk,instObj->SA,InstAt->S3,codeIn->TL,plainGet->Ur,lookIn->Uy,subIn->UL,isFn->UQ,hasDictIn->U5,mroIn->U7,methodCall_KW->Va,makesIn->Vb,kitCls->Vg,typeIn->Vi,takerIn->Vj,plainOver->Vq,methodObj->Vz,callWith_K->VC,notCls->VL,plainGet_of->VU,callWith_K0->Ww,ktu_apart->Xi,cellsFrom_some->Xl,OpenLaw->XN,WalkO->Yr,handedIn->YE,hideAll_get->YW,method_fn->Y1,makes_of->Y7,any_some->Y8,make_core->Za,looks_clsIn->Zg,Looks->Zs,kitMeta->ZE,InitBack->ZF,ne_bytes->ZH,of_hideAll->ZP,mg_none_of->ZZ,get_value->Z2,kIn_of->Z9,hideAll_none->aae,codeRec_of->aap,eq_bytes->aaq,findObj_own->aau,exm_one->aav,osa_open->aaA,looks_findIn->aaH,set_plain->aaI,bind_fn->aaJ,hideAll->aaO,hideAll_size->aaS
open Or renaming inl->PU,inr->RX
open List renaming range->P4,length_map->P7,mem_map->P9,mem_cons->Qb,getElem?_eq_getElem->Qj,Nodup->Qk,getD->Qm,map_map->Qn,mem_cons_of_mem->Qs,map_cons->Qu,mem_append->QC,getD_eq_getElem?_getD->QG,mem_cons_self->QH,mem_filter->QL,getElem?_eq_some_iff->QN,mem_singleton->QR,replicate->QT,length_cons->QU,length_append->QV,length_take->QY,size_toArray->Q4,mem_range->Q6,sum_cons->Ra,not_mem_nil->Rb,lookup->Ri,map_append->Rj,mem_append_right->Rk,length_drop->Rq,all_eq_true->Rt,length_filter_le->Rz,getElem_mem->RA,map->RE,lookup_cons->RH,take_of_length_le->RI,nodup_cons->RM,filter_eq_self->R7,length_singleton->R8,any_cons->Sb,getElem?_map->Sg,getElem?_append_left->Sj,map_congr_left->Ss,mem_of_mem_take->SD,getElem?_eq_none->SF,replicate_succ->SJ,filter_cons->SY,length_range->S1,ext_getElem->S2,mem_append_left->S6,map_nil->S7,range_succ->Td,mem_of_getElem?->Tg,getElem?_append_right->Tn,length->Ts,getElem_of_mem->Tw,find?_cons->Tz,flatten_cons->TB,forIn_cons->TF,all_map->TX,length_eq_zero_iff->Ub,nodup_nil->Uc,forIn_nil->Uh,length_pos_iff->Uj,of_mem_zip->Uk,mem_of_mem_drop->Ul,append_nil->Um,pairwise_iff_getElem->Uo,cons_append->Uq,take_add_one->Us,sum_append->Ut,take_length->UM,map_id'->UO,map_take->UX,filter_map->Ve,drop_zero->Vh,foldl->Vt,filterMap_cons->Vx,map_eq_nil_iff->VE,filter_congr->VJ,any_eq_true->VR,filter_append->VV,length_nil->VX,append_assoc->VZ,getElem?_set_self->V7,getElem?_set_ne->V8,getElem_take->V9,getElem_map->Wh,range'->Wl,map_inj_right->Wn,zipIdx_nil->Wy,zipIdx_cons->WK,sum_nil->WO,length_erase_of_mem->WW,mem_filterMap->WX,filter_nil->WZ,drop_eq_nil_of_le->W7,map_fst_zip->Xd,length_replicate->Xj,any_map->Xs,all_cons->Xw,length_zipWith->Xx,getElem_cons_drop->XJ,map_drop->XW,mem_range'_1->Yg,length_pos_of_mem->Yk,foldl_cons->Ym,drop_of_length_le->Yo,nodup_append->Yu,set_cons_zero->YA,mem_map_of_mem->YC,take_append_drop->YM
open Nat renaming le_trans->P6,le_refl->Qe,ne_of_lt->Qt,lt_of_lt_of_le->QD,zero_le->Q3,ne_of_gt->Rp,lt_irrefl->RB,le_succ->RC,lcm->R5,le_add_right->So,mul_le_mul_right->SG,le_of_lt->SU,le_of_eq->Th,toDigits->Ud,lt_trans->UB,le_total->UG,min_eq_left->UI,min_eq_right->U4,lt_succ_of_lt->U6,lt_succ_self->U9,le_of_not_lt->Vr,log2_lt->VG,lt_of_le_of_lt->VN,le_of_succ_le->V5,pow_succ->We,pow_le_pow_right->Wo,succ_pos->Ws,le_antisymm->Wt,lt_or_ge->WB,lcm_pos->WG,dvd_refl->WI,le_of_ble_eq_true->WS,dvd_lcm_left->WU,min_le_left->WV,succ_ne_self->W9,lt_asymm->Xe,eq_zero_or_pos->Xo,isDigit_of_mem_toDigits->XD,le_of_dvd->XR,mul_le_mul_left->XZ,one_mul->Ya,add_mul->Yt,mul_comm->Yv,sub_zero->YJ
open PySem.Heap renaming lt_size->Ql,get?_push_of_some->Qr,get?_push_size->Qz,size_push->Rx,SameBut->RY,get?_update_other->Sz,get?_none_of_le->Vd,get?_update_self->Wr,size_update->Xg
open PySem.Value renaming ref->Qo,none->Rf,int->R4,bool->Sl,str->S4,builtin->Tt,type->VF,isStrOf->WH,isInt->XB,float->XC,bytes->XT
open PySem.Str renaming empty->Qp,length_append->Qx,join->QP,ofString->TN,cps_append->Uv,length->UP,ext'->Wx
open PySem.Paired renaming length->Qv,snoc->WY,nil->YF
open Ne renaming symm->Qy
open PySem.Txt renaming split->QJ,slice->QK,mul->Vn,slice_le->aaf
open Bool renaming false_ne_true->QM,and_eq_true->QW,eq_iff_iff->Rh,false_eq_true->Sw,false_and->SR,bne_true->TJ,bne_false->T7,and_false->Vo,false_or->Yw
open Option.some renaming inj->QX,injEq->Wp
open PyProof.Rows renaming envOfC->Q9,kindOf->Ru,AllBare->R0,boot_isinstance->Sf,callWith_type1->Sy,IntsAre->SH,boot_str->Ti,boot_sum->VH,boot_all->V1,boot_list->WD,boot_sorted->Xy,same_iff->Yj,callWith_builtin1->Zl,isub_int->Zv,boot_int->Zy,iadd_int->ZN,boot_min->aaE
open False renaming elim->Rl
open PySem.SeqAt renaming noMix->Rm,shaped->R6,noMixAll->Sx,canLay_of_shaped->XO,EqAt->Yb
open PySem.PassesOwn renaming never->Rv
open PySem.NameKind renaming cell->Rw,free->RK
open Sum renaming inr->RJ,inl->S5
open PySem.F renaming plainAttrs_str->RN,slot_zip_next->Sn,slot_str_join->Sr,type_str_join->SX,slot_list_append->Tf,type_list_append->TM,plainAttrs_list->Ui,args_zip_next_1->UA,slot_str_split->UD,plainAttrs_dict->UJ,slot_dict_values->UR,entry_zip_next->U8,slot_str_upper->Vu,slot_list_getattribute->VQ,args_str_split_2->VS,slot_zip_getattribute->Wa,entry_str_split->Wi,kt_typeCall_dict_1->Wz,slot_dict_items->WJ,type_str_upper->WM,slot_dict_pop->Xc,entry_dict_init->Xf,entry_dict_values->Xh,slot_dict_itemiterator_iter->Xp,kt_called_dict->XF,slot_dict_keyiterator_next->XQ,args_dict_init_2->XS,slot_int_rmul->X0,slot_dict_delitem->X9,excBase_ValueError->Ye,typeOf_object_class->Yh,args_dict_values_1->Yi,type_dict_values->Yz,slot_str_startswith->YN,args_zip_getattribute_2->YQ,entry_dict_items->YR,args_dict_keyiterator_next_1->Y6,args_dict_pop_2->Zc,newCall_zip_2->Zh,type_dict_items->Zj,args_dict_delitem_2->Zm,args_dict_items_1->Zn,slot_dict_getitem->Zr,newCall_enumerate_1->Zt,args_object_init_3->ZA,entry_enumerate_new->ZC,entry_dict_pop->ZJ,type_str_split->ZM,entry_dict_delitem->ZQ,entry_dict_keyiterator_next->ZS,entry_zip_new->ZT,type_str_startswith->ZW,called_zip->ZX,args_dict_itemiterator_iter_1->Z7,called_enumerate->Z8,type_dict_pop->aai,args_object_init_2->aak,typeCall_enumerate_1->aam,args_list_getattribute_2->aar,args_dict_pop_3->aaw,slot_dict_itemiterator_next->aaG,typeCall_zip_2->aaK
open Int renaming le_refl->RS,lt_or_le->Sh,emod_nonneg->Su,mul_comm->S8,eq_ofNat_of_zero_le->Tb,le_trans->Te,le_of_lt->Tr,emod_lt_of_pos->Tu,mul_add->TK,lt_of_le_of_lt->Ug,natCast_add->Uu,dvd_trans->UN,add_mul->UT,mul_le_mul_of_nonneg_right->U1,mul_nonneg->Vc,dvd_sub->Vf,min_eq_right->Vk,toNat_natCast->VA,toNat_of_nonneg->VB,mul_one->VM,mul_ediv_add_emod->VT,natCast_nonneg->Wf,min_eq_left->Wj,dvd_mul_left->Wk,lt_of_lt_of_le->W6,mul_ediv_cancel->W8,mul_sub->Xr,ediv_nonneg->Xt,mul_le_mul_of_nonneg_left->Yy,dvd_zero->YH,dvd_add->YK,natAbs_natCast->YL
open PySem.PyData renaming canLay0->RV,canLayAll0->Sq,depthAll->SM,depth->SW,bool->Uw,strOk->VP
open PySem.Builtin.SmallTypes renaming nextOf->R3,ownedTupleIsFree->UZ,ownedTupleHandOut->Yf
open PySem.Unicode renaming upperOf->Se
open True renaming intro->SE
open PySem.Data renaming cell->SI,fields->TU,seq->V0
open List.cons renaming inj->SQ
open PySem.Obj renaming mapFields->SV,data_mapFields->VW,mapSeq->Wq,isFreed_of_fields->Yd
open PySem.NumText renaming digitsVal->S0,AllDigits->VO,toDigits_digitsVal->aal
open ForInStep renaming yield->S9
open PySem.Builtin.Str renaming strSliceIndices->Tc,occurrences->Ua,subAt->aas
open Array renaming getElem?_eq_some_iff->Tj,length_toList->UE,toArray_toList->Vl,getD_eq_getD_getElem?->Wm,ext'->Wv,forIn_toList->WQ,toList_append->Xq,getElem?_toList->Xv,toList->XE,all_toList->XM,mem_toList_iff->Yn
open PySem.StrLaws renaming join_split->TC,found_one->Xn,split_free->Xz,reprText_len->YT,strSliceIndices_plain->YU,sliced_plain->YV,subAt_one->Zb,glued_eq_join->Zu
open PySem.Calls renaming callWith_builtin->TQ,spliced_nil->Vy,evalArgs_plain->V2,spliced_cons->Wc,Name_function_global->Xb
open Eq renaming trans->T4
open PySem.Builtin.List renaming listTooLong->Ux
open PySem.Builtin.Dict renaming updateFrom->Uz,selfAndRest->Xa,addKeywords->YB,pairItems->YD
open PySem.Around renaming under_plainId->UC,under->Vw
open Char renaming toNat->U3,ofNat->VD,isDigit->XU
open Option renaming isSome_iff_exists->Vm,isSome_map->V6,isNone_none->W0,none->W4,isSome_some->XA,getD_none->Yq
open PySem.Code renaming isFrame->Vv,frames->WT
open PySem.Heap.DictOf renaming new->VY
open List.Pairwise renaming map->V4,imp->XG,of_map->YI,imp₂->YS,imp_of_mem->Y3,cons->ZV,nil->aaP
open Sum.inr renaming inj->Wu
open Classical renaming axiomOfChoice->WC
open PySem.Walks renaming list->WE
open PySem.Value.ref renaming inj->Xk
open PySem.EntryCells renaming newEntry->Xm
open And renaming comm->Xu
open PySem.SeqAt.EqAt renaming int_str->XH,str_int->Yx,int_bool->YO,same->Y9,str_str->Ze,none_str->Zi,int_int->Zq,none_bool->ZL,str_bool->ZU,none_int->Z3,str_none->aag,bool_int->aah,bool_none->aat,bool_bool->aaz,bool_str->aaF,int_none->aaM
open PySem.W.WData renaming int->XI
open PySem.W.KIN renaming signs_num->X8,call_text->aaT
open PySem.MeetsIn renaming of_wp->Yc
open PySem.Builtin.Int renaming intBits->Yl
open PySem.Spec renaming same->Yp
open PySem.W.WShape renaming has->YG
open PySem.EqNone renaming ne_none_int->YX,eq_none_bool->YY,ne_none_bool->YZ,eq_bool_none->ZG,ne_int_none->ZR,ne_bool_none->ZY,eq_str_none->Z1,ne_str_none->Z5,eq_none_none->aaa,eq_none_int->aax,eq_int_none->aaB,ne_none_none->aaC,eq_none_str->aaU,ne_none_str->aaW
open PySem.EqMixed renaming ne_str_bool->Y0,ne_bool_str->Y4,eq_str_int->Zw,eq_bool_str->Zz,ne_int_str->ZI,ne_str_int->aad,eq_str_bool->aaN,eq_int_str->aaV
open PySem.Heap.SameBut renaming update->Y2,refl->aaR
open PySem.AutoListH renaming list___mul___list_int_3->Y5
open PySem.Heap.IsSliceOf renaming new->Zd
open PySem.Heap.IsList renaming push->Zf
open PySem.Builtin.Dict_items renaming ownsTuple->Zk
open PySem.W.OpenLaw renaming pre->Zo
open PySem.Heap.Ns1 renaming of_empty->Zp
open PySem.P renaming add_list->Zx,str_of_int->aaj
open PySem.IsRange renaming new->ZD
open Sum.inl renaming inj->ZK
open List.Sublist renaming map->ZO
open List.Nodup renaming sublist->Z0,length_le_of_subset->aaD
open PySem.IsL renaming update->Z4
open PyProof renaming noPylong_of_log2->Z6
open PySem.Builtin.Range renaming rangeSize->aab
open PySem.W.Looks renaming here->aac,ld->aao
open PySem.AutoSeq1 renaming list_extend_list_list_0->aan
open PySem.Heap.Ns renaming new->aay
open PySem.DictEntry renaming refKey->aaL
open PySem.Within renaming cons->aaQ
set_option Elab.async false
set_option compiler.extract_closed false
set_option linter.all false
set_option maxRecDepth 100000
namespace L2
open PySem PySem.Spec PyProof.Rows
noncomputable abbrev Key:=Sum Int PH
noncomputable def vC:Key->PL->Bool
 |.inl k,v=>XB k v
 |.inr x,v=>WH x v
noncomputable def Pf(w:P8):Key->Int
 |.inl k=>hashInt k
 |.inr x=>hashStr w x
theorem cR:∀{k:Key}{v:PL},vC k v=true->(∃i t,k=S5 i/\v=R4 i t)\/(∃x t,k=RJ x/\v=S4 x t)
 |.inl i,v,h=>by
  obtain⟨t,e⟩:=Value.isInt_shape (k:=i) (v:=v) h
  exact .inl ⟨i,t,rfl,e⟩
 |.inr x,v,h=>by
  obtain⟨t,e⟩:=Value.isStrOf_shape (x:=x) (v:=v) h
  exact .inr ⟨x,t,rfl,e⟩
theorem GU(i:Int)(t:Tok):vC (.inl i) (.int i t)=true:=by simp[vC,XB]
theorem Hu(x:PH)(t:Tok):vC (.inr x) (.str x t)=true:=by simp[vC,WH]
theorem Mr(a b:Int):decide ((S5 a:Key)=S5 b)=(a==b):=by
 by_cases e:a=b
 ·subst e;simp
 ·have h:¬(S5 a:Key)=S5 b:=fun q=>e (ZK q)
  rw[decide_eq_false h]
  exact(beq_eq_false_iff_ne.mpr e).symm
theorem Nj(a b:PH):decide ((RJ a:Key)=RJ b)=decide (a=b):=by
 by_cases e:a=b
 ·subst e;simp
 ·have h:¬(RJ a:Key)=RJ b:=fun q=>e (Wu q)
  rw[decide_eq_false h,decide_eq_false e]
theorem Md(a:Int)(b:PH):decide ((S5 a:Key)=RJ b)=false:=decide_eq_false (fun q=>nomatch q)
theorem Nq(a:PH)(b:Int):decide ((RJ a:Key)=S5 b)=false:=decide_eq_false (fun q=>nomatch q)
noncomputable def aX(prog:Qc)(w:P8):PySem.KeyKind prog w Key where
 is:=vC
 hash:=Pf w
 inj:=fun v a b ha hb=>by
  rcases cR ha with⟨i,t,rfl,rfl⟩|⟨x,t,rfl,rfl⟩
  ·rcases cR hb with⟨j,u,rfl,e⟩|⟨y,u,rfl,e⟩
   ·injection e with e1 _;rw[e1]
   ·exact nomatch e
  ·rcases cR hb with⟨j,u,rfl,e⟩|⟨y,u,rfl,e⟩
   ·exact nomatch e
   ·injection e with e1 _;rw[e1]
 byValue:=fun k v h=>by
  rcases cR h with⟨i,t,rfl,rfl⟩|⟨x,t,rfl,rfl⟩<;>rfl
 pyHash:=fun hv h=>by
  rcases cR hv with⟨i,t,rfl,rfl⟩|⟨x,t,rfl,rfl⟩
  ·exact wpAny_pyHash_int h
  ·exact wpAny_pyHash_str h
 eqBool:=fun hu hv h=>by
  rcases cR hu with⟨i,t,rfl,rfl⟩|⟨x,t,rfl,rfl⟩
  ·rcases cR hv with⟨j,u,rfl,rfl⟩|⟨y,u,rfl,rfl⟩
   ·rw[Mr]at h;exact wpAny_eqBool_int h
   ·rw[Md]at h;exact XH i t y u _ _ _ _ h
  ·rcases cR hv with⟨j,u,rfl,rfl⟩|⟨y,u,rfl,rfl⟩
   ·rw[Nq]at h;exact Yx x t j u _ _ _ _ h
   ·rw[Nj]at h;exact wpAny_eqBool_str h
 «strs»:=fun k x t v h=>by
  rcases cR h with⟨i,u,rfl,e⟩|⟨y,u,rfl,e⟩
  ·exact nomatch e
  ·injection e with e1 _
   subst e1
   cases v<;>rfl
theorem C2(prog:Qc)(w:P8)(i:Int)(t:Tok):(aX prog w).is (.inl i) (.int i t)=true:=GU i t
theorem Cc(prog:Qc)(w:P8)(x:PH)(t:Tok):(aX prog w).is (.inr x) (.str x t)=true:=Hu x t
inductive V where
 |non|bl (b:Bool)|int (i:Int)|str (x:PH)|byt (b:Array UInt8)|flt (b:UInt64)|ref (a:PK)|ty (n:String)
 deriving DecidableEq
noncomputable def RelV:V->PL->Prop
 |.non,u=>u=Rf
 |.bl b,u=>u=Sl b
 |.int i,u=>∃t,u=R4 i t
 |.str x,u=>∃t,u=S4 x t
 |.byt b,u=>∃t,u=XT b t
 |.flt b,u=>∃t,u=XC b t
 |.ref a,u=>u=Qo a
 |.ty n,u=>u=VF n
noncomputable abbrev bR:List V->List PL->Prop:=Qd RelV
theorem bR.length{xs:List V}{us:List PL}(r:bR xs us):xs.length=us.length:=Qv r
theorem bR.get:∀{xs:List V}{us:List PL}{i:Nat}{x:V},bR xs us->xs[i]?=some x->∃u,us[i]?=some u/\RelV x u
 |_,_,_,_,.nil,e=>by simp at e
 |_,_,0,_,.cons r _,e=>by simp at e;subst e;exact⟨_,rfl,r⟩
 |_,_,i+1,x,.cons _ t,e=>by
  obtain⟨u,h1,h2⟩:=bR.get (i:=i) (x:=x) t (by simpa using e)
  exact⟨u,by simpa using h1,h2⟩
theorem bR.append:∀{xs ys:List V}{us ws:List PL},bR xs us->bR ys ws->bR (xs++ys) (us++ws)
 |_,_,_,_,.nil,s=>s
 |_,_,_,_,.cons r t,s=>.cons r (bR.append t s)
theorem bR.take:∀{xs:List V}{us:List PL}(n:Nat),bR xs us->bR (xs.take n) (us.take n)
 |_,_,0,_=>.nil
 |_,_,_+1,.nil=>.nil
 |_,_,n+1,.cons r t=>.cons r (bR.take n t)
theorem bR.drop:∀{xs:List V}{us:List PL}(n:Nat),bR xs us->bR (xs.drop n) (us.drop n)
 |_,_,0,r=>r
 |_,_,_+1,.nil=>.nil
 |_,_,n+1,.cons _ t=>bR.drop n t
noncomputable def mY:Option V->Option PL->Prop
 |some v,some u=>RelV v u
 |none,none=>True
 |_,_=>False
noncomputable def KV{κ:Type}:List (κ×V)->List (κ×PL)->Prop:=Qd fun (p:κ×V) (q:κ×PL)=>p.1=q.1/\RelV p.2 q.2
noncomputable def kV:Key->V
 |.inl i=>.int i
 |.inr x=>.str x
inductive HO where
 |lst (xs:List V)
 |tup (xs:List V)
 |dK (kvs:List (Key×V))|dT (kvs:List (List Key×V))
 |set (S:Int->Bool) (n:Nat)
 |ins (C dx:PK) (fs:List (PH×V))
 |own (x:PK)
 |xd (fs:List (PH×V))
 |met (f x:PK)
 |rng (lo hi:Int)
 |frz (o:PV) (u:HO)
 |tbl (ps:Array PL)
 |ext (φ:P0->Prop)
noncomputable abbrev Hp:=PK->Option HO
noncomputable def upd(H:Hp)(a:PK)(o:HO):Hp:=fun b=>if b=a then some o else H b
theorem ax{H:Hp}{a:PK}{o:HO}:upd H a o a=some o:=by unfold upd;rw[if_pos rfl]
theorem ak{H:Hp}{a b:PK}{o:HO}(h:b≠a):upd H a o b=H b:=by unfold upd;rw[if_neg h]
theorem Oj{H:Hp}{a b:PK}{o u:HO}(h:H a=some o)(h':H b=some u)(d:o≠u):a≠b:=by
 intro e;subst e;rw[h]at h';exact d (QX h')
theorem bc{H:Hp}{a b:PK}{o:HO}(h:H a=some o)(h':H b=none):a≠b:=by
 intro e;subst e;rw[h]at h';cases h'
section
variable (P:Qc)(w:P8)
noncomputable def c9(H:Hp)(h:P0)(a:PK):HO->Prop
 |.lst xs=>xs.length<=PZ/\∃(its:List PL)(n:Nat),bR xs its/\h.get? a=some {cls:=.type "list",data:=.seq its.toArray n}
 |.tup xs=>xs.length<=PZ/\∃its:List PL,bR xs its/\IsTup h a its.toArray
 |.dK kvs=>kvs.length<=PZ/\(a==Ry)=false/\∃vs,KV kvs vs/\h.DictOf (aX P w) a vs
 |.dT kvs=>kvs.length<=PZ/\(a==Ry)=false/\∃xs:List (List Key×PK×PL),
   Qd (fun (p:List Key×V) (q:List Key×PK×PL)=>p.1=q.1/\H q.2.1=some (.tup (p.1.map kV))/\RelV p.2 q.2.2) kvs xs/\
   ∃o es ep,h.get? a=some o/\o.ExactDict/\o.data=.dict es ep/\es.toList=xs.map (entryOfKey (tupleKind (aX P w)))/\(xs.map (·.1)).Nodup
 |.set S n=>h.SetOf (intKind P w) a S n
 |.ins C dx fs=>H dx=some (.own a)/\fs.length<=1000/\dx≠a/\h.get? a=some (SA C dx)/\
   ∃mA,h.Ns1 dx mA/\(∀f,mY (fs.lookup f) (mA f))/\Vp mA (fs.map (·.1))
 |.own _=>∃o,h.get? a=some o
 |.xd fs=>∃mA,h.Ns1 a mA/\∀f,mY (fs.lookup f) (mA f)
 |.rng lo hi=>∃t u v,h.get? a=some {cls:=.type "range",data:=.fields #[.int lo t,.int hi u,.int 1 v]}
 |.frz o u=>h.get? a=some o/\c9 H h a u
 |.tbl ps=>h.get? a=some {cls:=.none,data:=.fields ps}
 |.met f x=>h.get? a=some (Vz (.ref f) (.ref x))
 |.ext φ=>φ h/\(∃o,h.get? a=some o)/\∀h1 h2:P0,φ h1->(∀o,h1.get? a=some o->h2.get? a=some o)->φ h2
noncomputable def oy(H:Hp)(h:P0):Prop:=∀a o,H a=some o->c9 P w H h a o
end
section
variable {P:Qc}{w:P8}{H H':Hp}{h h':P0}{a:PK}{o:HO}
theorem c9.lt(x:c9 P w H h a o):a<h.objs.size:=by
 cases o with
 |lst xs=>obtain⟨_,_,_,_,e⟩:=x;exact Ql e
 |tup xs=>obtain⟨_,_,_,p⟩:=x;exact p.lt
 |dK kvs=>obtain⟨_,_,_,_,o,_,_,e,_⟩:=x;exact Ql e
 |dT kvs=>obtain⟨_,_,_,_,o,_,_,e,_⟩:=x;exact Ql e
 |set S n=>obtain⟨o,_,_,_,e,_⟩:=x;exact Ql e
 |ins C dx fs=>obtain⟨_,_,_,e,_⟩:=x;exact Ql e
 |own y=>obtain⟨_,e⟩:=x;exact Ql e
 |xd fs=>obtain⟨_,⟨_,_,_,e,_⟩,_⟩:=x;exact Ql e
 |rng lo hi=>obtain⟨_,_,_,e⟩:=x;exact Ql e
 |frz ob u=>obtain⟨e,_⟩:=x;exact Ql e
 |tbl ps=>exact Ql (show h.get? a=some _ from x)
 |met f y=>exact Ql (show h.get? a=some _ from x)
 |ext φ=>obtain⟨_,⟨_,e⟩,_⟩:=x;exact Ql e
theorem Paired.mapP{α β:Type}{F G:α->β->Prop}:∀{l₁:List α}{l₂:List β},Qd F l₁ l₂->(∀a b,F a b->G a b)->Qd G l₁ l₂
 |_,_,.nil,_=>.nil
 |_,_,.cons r t,f=>.cons (f _ _ r) (Paired.mapP t f)
theorem c9.stay(x:c9 P w H h a o)(k:∀b u,(b=a\/H b=some (.own a))->h.get? b=some u->h'.get? b=some u)
  (ho:∀b,H b=some (.own a)->H' b=some (.own a)) (ht:∀b xs,H b=some (.tup xs)->H' b=some (.tup xs)):c9 P w H' h' a o:=by
 induction o with
 |lst xs=>obtain⟨z,its,n,r,e⟩:=x;exact⟨z,its,n,r,k _ _ (.inl rfl) e⟩
 |tup xs=>obtain⟨z,its,r,ob,e,c⟩:=x;exact⟨z,its,r,ob,k _ _ (.inl rfl) e,c⟩
 |dK kvs=>obtain⟨z,y,vs,r,ob,es,ep,e,c⟩:=x;exact⟨z,y,vs,r,ob,es,ep,k _ _ (.inl rfl) e,c⟩
 |dT kvs=>
  obtain⟨z,y,xs,r,ob,es,ep,e,c⟩:=x
  exact⟨z,y,xs,Paired.mapP r fun p q z=>⟨z.1,ht _ _ z.2.1,z.2.2⟩,ob,es,ep,k _ _ (.inl rfl) e,c⟩
 |set S n=>obtain⟨ob,es,ep,t,e,c⟩:=x;exact⟨ob,es,ep,t,k _ _ (.inl rfl) e,c⟩
 |ins C dx fs=>
  obtain⟨d,z,ne,e,mA,⟨od,es,ep,e2,c⟩,r⟩:=x
  exact⟨ho _ d,z,ne,k _ _ (.inl rfl) e,mA,⟨od,es,ep,k _ _ (.inr d) e2,c⟩,r⟩
 |own y=>obtain⟨ob,e⟩:=x;exact⟨ob,k _ _ (.inl rfl) e⟩
 |xd fs=>obtain⟨mA,⟨od,es,ep,e,c⟩,r⟩:=x;exact⟨mA,⟨od,es,ep,k _ _ (.inl rfl) e,c⟩,r⟩
 |rng lo hi=>obtain⟨t,u,v,e⟩:=x;exact⟨t,u,v,k _ _ (.inl rfl) e⟩
 |frz ob u ih=>obtain⟨e,q⟩:=x;exact⟨k _ _ (.inl rfl) e,ih q⟩
 |tbl ps=>
  have e:h.get? a=some {cls:=.none,data:=.fields ps}:=x
  show h'.get? a=some {cls:=.none,data:=.fields ps}
  exact k a _ (.inl rfl) e
 |met f y=>
  have e:h.get? a=some (Vz (.ref f) (.ref y)):=x
  show h'.get? a=some (Vz (.ref f) (.ref y))
  exact k a _ (.inl rfl) e
 |ext φ=>obtain⟨p,⟨o,e⟩,st⟩:=x;exact⟨st _ _ p fun o q=>k _ _ (.inl rfl) q,⟨o,k _ _ (.inl rfl) e⟩,st⟩
theorem oy.lt(x:oy P w H h)(e:H a=some o):a<h.objs.size:=(x a o e).lt
theorem oy.fresh(x:oy P w H h)(e:h.objs.size<=a):H a=none:=by
 cases q:H a with
 |none=>rfl
 |some u=>exact absurd (QD (x.lt q) e) (RB _)
theorem oy.kept(x:oy P w H h)(k:∀b u,h.get? b=some u->h'.get? b=some u):oy P w H h':=fun a o e=>
 (x a o e).stay (fun b u _ q=>k b u q) (fun _ q=>q) fun _ _ q=>q
theorem oy.laid(x:oy P w H h)(k:∀b u,h.get? b=some u->h'.get? b=some u)(hp:h.objs.size<=a)(new:c9 P w (upd H a o) h' a o):oy P w (upd H a o) h':=fun b u e=>by
 have hn:=x.fresh hp
 by_cases hb:b=a
 ·subst hb;rw[ax]at e;cases e;exact new
 ·rw[ak hb]at e
  exact(x b u e).stay (fun c v _ q=>k c v q) (fun c q=>by rw[ak (bc q hn)];exact q) fun c xs q=>by rw[ak (bc q hn)];exact q
end
noncomputable def Rd(H:Hp)(a:PK)(u:HO):Prop:=H a=some u\/∃o,H a=some (.frz o u)
theorem Rd.ok{P:Qc}{w:P8}{H:Hp}{h:P0}{a:PK}{u:HO}(r:Rd H a u)(x:oy P w H h):c9 P w H h a u:=by
 rcases r with r|⟨o,r⟩
 ·exact x a u r
 ·obtain⟨_,q⟩:=x a _ r
  exact q
noncomputable def NO:Option HO->Prop
 |some (.lst _)=>True
 |some (.dK _)=>True
 |some (.dT _)=>True
 |some (.set _ _)=>True
 |some (.ins _ _ _)=>True
 |some (.ext _)=>True
 |_=>False
section
variable {P:Qc}{w:P8}{H:Hp}{h h':P0}{x e:PK}{o':HO}
theorem oy.write(ok:oy P w H h)(mu:NO (H x))(he:e=x\/H e=some (.own x))(k:∀b u,b≠e->h.get? b=some u->h'.get? b=some u)(heo:∃u,h'.get? e=some u)
  (new:c9 P w (upd H x o') h' x o'):oy P w (upd H x o') h':=fun b u q=>by
 have nown:∀c y,H c=some (.own y)->c≠x:=fun c y r z=>by subst z;rw[r]at mu;exact mu
 have ntup:∀c xs,H c=some (.tup xs)->c≠x:=fun c xs r z=>by subst z;rw[r]at mu;exact mu
 by_cases hb:b=x
 ·subst hb;rw[ax]at q;cases q;exact new
 ·rw[ak hb]at q
  by_cases hbe:b=e
  ·have q':H b=some (.own x):=by
    rcases he with z|z
    ·exact absurd (hbe.trans z) hb
    ·rw[hbe];exact z
   rw[q]at q';cases q'
   obtain⟨v,hv⟩:=heo
   exact⟨v,by rw[hbe];exact hv⟩
  ·refine(ok b u q).stay (fun c v hc r=>k c v ?_ r) (fun c r=>by rw[ak (nown c b r)];exact r) fun c xs r=>by rw[ak (ntup c xs r)];exact r
   rcases hc with rfl|hc
   ·exact hbe
   ·rintro rfl
    rcases he with z|z
    ·exact nown c b hc z
    ·rw[hc]at z;cases z;exact hb rfl
end
structure Un(fs ex:List PK)(H H':Hp)(h h':P0):Prop where
 keep:∀b o,h.get? b=some o->H b=none->b∉fs->b∉ex->h'.get? b=some o
 slot:∀b o,h.get? b=some o->H b=none->b∈fs->b∉ex->∃sl,h'.get? b=some {o with slots:=sl}
 free:∀b o,h.get? b=some o->H b=none->b∉ex->H' b=none
 there:∀b o,h.get? b=some o->b∉ex->∃o',h'.get? b=some o'
 tups:∀b xs,H b=some (.tup xs)->H' b=some (.tup xs)
 frzs:∀b o u,H b=some (.frz o u)->H' b=some (.frz o u)
 tbls:∀b ps,H b=some (.tbl ps)->∃more,H' b=some (.tbl (ps++more))
section
variable {fs fs' ex ex':List PK}{H H1 H2:Hp}{h h1 h2 h':P0}{a x e:PK}{o:HO}
theorem Un.any(u:Un fs ex H H1 h h1){b:PK}{ob:PV}(q:h.get? b=some ob)(n:H b=none)(hx:b∉ex):∃sl,h1.get? b=some {ob with slots:=sl}:=by
 by_cases hb:b∈fs
 ·exact u.slot b ob q n hb hx
 ·exact⟨ob.slots,u.keep b ob q n hb hx⟩
theorem Un.kept(k:∀b u,h.get? b=some u->h'.get? b=some u):Un fs ex H H h h':=
 ⟨fun b ob q _ _ _=>k b ob q,fun b ob q _ _ _=>⟨ob.slots,k b ob q⟩,fun _ _ _ n _=>n,fun b ob q _=>⟨ob,k b ob q⟩,fun _ _ q=>q,fun _ _ _ q=>q,fun _ ps q=>⟨#[],by rw[q];simp⟩⟩
theorem Un.refl:Un fs ex H H h h:=Un.kept fun _ _ q=>q
theorem Un.laid(k:∀b u,h.get? b=some u->h'.get? b=some u)(hp:h.objs.size<=a)(hn:H a=none):Un fs ex H (upd H a o) h h' where
 keep:=fun b u q _ _ _=>k b u q
 slot:=fun b u q _ _ _=>⟨u.slots,k b u q⟩
 free:=fun b u q n _=>by rw[ak (Qt (QD (Ql q) hp))];exact n
 there:=fun b u q _=>⟨u,k b u q⟩
 tups:=fun b xs q=>by rw[ak (bc q hn)];exact q
 frzs:=fun b u xs q=>by rw[ak (bc q hn)];exact q
 tbls:=fun b ps q=>⟨#[],by rw[ak (bc q hn),q];simp⟩
theorem Un.write(mu:NO (H x))(he:e=x\/H e=some (.own x))(k:∀b u,b≠e->h.get? b=some u->h'.get? b=some u)(heo:∃u,h'.get? e=some u):Un fs ex H (upd H x o) h h':=by
 have hx:∀b,H b=none->b≠x:=fun b n z=>by subst z;rw[n]at mu;exact mu
 have hb:∀b,H b=none->b≠e:=fun b n z=>by
  subst z
  rcases he with r|r
  ·exact hx b n r
  ·rw[n]at r;cases r
 have hm:∀b u,H b=some u->¬NO (some u)->b≠x:=fun b u q nm z=>by subst z;rw[q]at mu;exact nm mu
 refine⟨fun b u q n _ _=>k b u (hb b n) q,fun b u q n _ _=>⟨u.slots,k b u (hb b n) q⟩,fun b u q n _=>by rw[ak (hx b n)];exact n,fun b u q _=>?_,
  fun b xs q=>by rw[ak (hm b _ q fun z=>z)];exact q,fun b u xs q=>by rw[ak (hm b _ q fun z=>z)];exact q,fun b ps q=>⟨#[],by rw[ak (hm b _ q fun z=>z),q];simp⟩⟩
 by_cases hbe:b=e
 ·subst hbe;exact heo
 ·exact⟨u,k b u hbe q⟩
theorem Un.mono(u:Un fs ex H H1 h h1)(hs:∀b∈fs,b∈fs')(hx:∀b∈ex,b∈ex'):Un fs' ex' H H1 h h1:=
 ⟨fun b ob q n hb he=>u.keep b ob q n (fun z=>hb (hs b z)) fun z=>he (hx b z),fun _ _ q n _ he=>u.any q n fun z=>he (hx _ z),fun b ob q n he=>u.free b ob q n fun z=>he (hx b z),fun b ob q he=>u.there b ob q fun z=>he (hx b z),u.tups,u.frzs,u.tbls⟩
end
noncomputable def OV(h:P0)(H:Hp):List PK:=(P4 h.objs.size).filter fun a=>(H a).isSome
noncomputable def zS(h:P0)(H:Hp):P0:=aaO h (OV h H)
theorem GI(h:P0)(H:Hp):(zS h H).objs.size=h.objs.size:=aaS _ _
theorem IY{h:P0}{H:Hp}{b:PK}{o:PV}(e:h.get? b=some o)(n:H b=none):(zS h H).get? b=some o:=
 YW _ e fun hm=>by
  have q:(H b).isSome=true:=(QL.mp hm).2
  rw[n]at q;simp at q
theorem KA{h:P0}{H:Hp}{b:PK}{o:PV}(e:(zS h H).get? b=some o):h.get? b=some o/\H b=none:=by
 have e':h.get? b=some o:=ZP (OV h H) e
 exists e'
 cases q:H b with
 |none=>rfl
 |some x=>
  have hm:b∈OV h H:=QL.mpr ⟨Q6.mpr (Ql e'),by simp[q]⟩
  have z:(zS h H).get? b=none:=aae (OV h H) hm
  rw[z]at e;cases e
structure Mod(K:PM)(mg:PH->Option PL)(base:P0):Prop where
 kin:K.In base
 glob:base.Ns QI mg
 blt:∃mb,base.Ns builtinsNs mb/\∀x:PH,x≠"__name__"->mb x=Tp x
 nolimit:base.NoLimit
structure Cx where
 prog:Qc
 w:P8
 K:PM
 mg:PH->Option PL
 base:P0
 A:Qg
 N:List PH
 s₀:PN
 H₀:Hp
 env:Qq
 outer:List Qq
 stack:List Qq
 ex:List PK
 fn:PH->Bool
 calm:Bool
 pn:List (PK×PV)
 xe:PL->PN->Prop
noncomputable def Ay(l:List Qq):List PK:=l.filterMap (·.frame)
noncomputable abbrev Cx.fs(X:Cx):List PK:=Ay X.outer
noncomputable def Mf(sc:QS)(x:PH):Prop:=sc.names.lookup x=some .local\/sc.names.lookup x=some .cell\/sc.names.lookup x=some .free
noncomputable def Loc(sc:QS)(x:PH):Prop:=sc.names.lookup x=some .local\/sc.names.lookup x=some .cell
noncomputable def Look(env:Qq)(h:P0)(m:PH->Option PL)(x:PH)(u:PL):Prop:=
 (env.kindOf x=some .local/\m x=some u)\/((env.kindOf x=some .cell\/env.kindOf x=some .free)/\∃c,env.cells.lookup x=some c/\h.IsCell c (some u))
structure Cx.Ok(X:Cx):Prop where
 mod:Mod X.K X.mg X.base
 kind:X.env.scope.kind=.function
 glob:X.env.globals=QI
 blt:X.env.builtins=builtinsNs
 above:X.s₀.heap.objs.size<=X.env.locals
 inj:∀x y c,X.env.cells.lookup x=some c->X.env.cells.lookup y=some c->x=y
 has:∀x,(X.env.kindOf x=some .cell\/X.env.kindOf x=some .free)->∃c,X.env.cells.lookup x=some c
 cab:∀x c,X.fn x=true->X.env.cells.lookup x=some c->X.s₀.heap.objs.size<=c
 hd:X.calm=true->X.A.handled=none
 frames:X.A.frames=some X.stack
 stk:X.stack=X.outer\/(X.stack=X.env::X.outer/\X.env.frame=some X.env.locals)
 exf:∀b∈X.ex,b≠X.env.locals/\∀x c,X.env.cells.lookup x=some c->c≠b
 bs:∀b o,X.base.get? b=some o->X.s₀.heap.get? b=some o/\X.H₀ b=none
 bsz:X.base.objs.size<=X.s₀.heap.objs.size
 noex:∀b o,X.base.get? b=some o->b∉X.ex
 exfs:∀b∈X.ex,b∉X.fs
 funs:X.s₀.heap.FunFrames X.base X.outer
 frf:∀b∈X.fs,X.H₀ b=none
structure Inv(X:Cx)(pins:List (PK×PV))(σ:List (Option V))(H:Hp)(s:PN):Prop where
 ok:X.Ok
 os:s.os=X.s₀.os
 bare:R0 s.gens
 base:Un X.fs X.ex X.H₀ H X.s₀.heap s.heap
 loc:∃m,s.heap.Ns X.env.locals m/\∀(i:Nat)(x:PH)(v:V),X.N[i]?=some x->σ[i]?=some (some v)->Mf X.env.scope x->∃u,RelV v u/\Look X.env s.heap m x u
 cell:∀x c,X.env.cells.lookup x=some c->∃v,s.heap.IsCell c v
 free:H X.env.locals=none
 freeC:∀x c,X.env.cells.lookup x=some c->H c=none
 pin:∀p∈X.pn++pins,s.heap.get? p.1=some p.2/\H p.1=none/\p.1≠X.env.locals/\p.1∉X.fs/\∀v,p.2.data≠.cell v
 hok:oy X.prog X.w H s.heap
 len:σ.length=X.N.length
section
variable {X:Cx}{pins:List (PK×PV)}{σ:List (Option V)}{H H':Hp}{s:PN}{h':P0}
theorem Cx.Ok.nofr(ok:X.Ok){b:PK}{o:PV}(e:X.base.get? b=some o):b∉X.fs:=fun hb=>by
 have:=(ok.funs.mem hb).1
 rw[e]at this;cases this
theorem Inv.bs(I:Inv X pins σ H s):∀b o,X.base.get? b=some o->s.heap.get? b=some o/\H b=none:=fun b o e=>
 ⟨I.base.keep b o (I.ok.bs b o e).1 (I.ok.bs b o e).2 (I.ok.nofr e) (I.ok.noex b o e),I.base.free b o (I.ok.bs b o e).1 (I.ok.bs b o e).2 (I.ok.noex b o e)⟩
theorem Inv.bk(I:Inv X pins σ H s):∀b o,X.base.get? b=some o->s.heap.get? b=some o:=fun b o e=>(I.bs b o e).1
theorem Inv.mod(I:Inv X pins σ H s):Mod X.K X.mg X.base:=I.ok.mod
theorem Inv.kIn(I:Inv X pins σ H s):X.K.In s.heap:=I.ok.mod.kin.keeps I.bk
theorem Inv.lt(I:Inv X pins σ H s):X.env.locals<s.heap.objs.size:=let ⟨_,hn,_⟩:=I.loc;hn.lt
theorem Inv.sz(I:Inv X pins σ H s):X.s₀.heap.objs.size<=s.heap.objs.size:=P6 I.ok.above (SU I.lt)
theorem Inv.nofs(I:Inv X pins σ H s){a:PK}(h:s.heap.objs.size<=a):a∉X.fs:=fun hb=>by
 obtain⟨_,o,ho,_⟩:=I.ok.funs.mem hb
 exact absurd (QD (Ql ho) (P6 I.sz h)) (RB _)
theorem Inv.cne(I:Inv X pins σ H s):∀x c,X.env.cells.lookup x=some c->c≠X.env.locals:=fun x c e z=>by
 obtain⟨v,o,ho,hd⟩:=I.cell x c e
 obtain⟨m,⟨o',es,ep,ho',hd',_⟩,_⟩:=I.loc
 rw[z,ho']at ho;cases ho;rw[hd']at hd;cases hd
theorem Inv.funs(I:Inv X pins σ H s):s.heap.FunFrames X.base X.outer:=by
 have all:∀(l:List Qq),(∀b∈Ay l,b∈X.fs)->X.s₀.heap.FunFrames X.base l->s.heap.FunFrames X.base l:=by
  intro l
  induction l with
  |nil=>intro _ _;trivial
  |cons env r ih=>
   intro hs hl
   obtain⟨hk,⟨L,o,hf,hn,ho,hd⟩,hr⟩:=hl
   have hL:L∈X.fs:=hs L (by unfold Ay;rw[Vx,hf];exact QH)
   obtain⟨sl,e⟩:=I.base.slot L o ho (I.ok.frf L hL) hL fun z=>I.ok.exfs L z hL
   exact⟨hk,⟨L,_,hf,hn,e,hd⟩,ih (fun b hb=>hs b (by unfold Ay;rw[Vx,hf];exact Qs _ hb)) hr⟩
 exact all X.outer (fun _ hb=>hb) I.ok.funs
theorem Inv.stack(I:Inv X pins σ H s):s.heap.FunFrames X.base X.stack:=by
 rcases I.ok.stk with e|⟨e,hf⟩
 ·rw[e];exact I.funs
 ·rw[e]
  obtain⟨m,hn,_⟩:=I.loc
  refine .cons (by rw[I.ok.kind];decide) hf hn ?_ I.funs
  exact Vd (P6 I.ok.bsz I.ok.above)
theorem Inv.stkSub(I:Inv X pins σ H s):∀b∈Ay X.stack,b∈X.env.locals::X.fs:=fun b hb=>by
 rcases I.ok.stk with e|⟨e,hf⟩
 ·rw[e]at hb;exact Qs _ hb
 ·rw[e]at hb
  unfold Ay at hb
  rw[Vx,hf]at hb
  exact hb
theorem Inv.stkFree(I:Inv X pins σ H s):∀b∈Ay X.stack,H b=none:=fun b hb=>by
 rcases Qb.mp (I.stkSub b hb)with e|hb
 ·rw[e];exact I.free
 ·obtain⟨_,o,ho,_⟩:=I.ok.funs.mem hb
  exact I.base.free b o ho (I.ok.frf b hb) fun z=>I.ok.exfs b z hb
theorem Inv.step{g':Array GenState}{t':Nat}{d':Drawn}{ch:List PK}(I:Inv X pins σ H s)
  (hch:∀b∈ch,(b∈X.ex\/X.s₀.heap.objs.size<=b)/\b≠X.env.locals/\(∀x c,X.env.cells.lookup x=some c->c≠b)/\∀p∈X.pn++pins,p.1≠b)
  (keep:∀b o,b≠X.env.locals->b∉X.fs->b∉ch->s.heap.get? b=some o->H b=none->h'.get? b=some o)
  (slot:∀b o,b≠X.env.locals->b∈X.fs->b∉ch->s.heap.get? b=some o->H b=none->∃sl,h'.get? b=some {o with slots:=sl}) (free:∀b o,b∉ch->s.heap.get? b=some o->H b=none->H' b=none)
  (there:∀b o,b∉ch->s.heap.get? b=some o->∃o',h'.get? b=some o')
  (tups:∀b xs,H b=some (.tup xs)->H' b=some (.tup xs)) (frzs:∀b o u,H b=some (.frz o u)->H' b=some (.frz o u)) (tbls:∀b ps,H b=some (.tbl ps)->∃more,H' b=some (.tbl (ps++more)))
  (ns:∀m,s.heap.Ns X.env.locals m->h'.Ns X.env.locals m) (hok:oy X.prog X.w H' h') (hg:R0 g'):
  Inv X pins σ H' {s with heap:=h',gens:=g',drawn:=d',toks:=t'}:=by
 have neL:∀b o,X.s₀.heap.get? b=some o->b≠X.env.locals:=fun b o e=>Qt (QD (Ql e) I.ok.above)
 have neC:∀b o,X.s₀.heap.get? b=some o->b∉X.ex->b∉ch:=fun b o e hx hb=>by
  rcases(hch b hb).1 with z|z
  ·exact hx z
  ·exact absurd (QD (Ql e) z) (RB _)
 have cellK:∀x c,X.env.cells.lookup x=some c->∀v,s.heap.IsCell c v->h'.IsCell c v:=fun x c e v ⟨o,ho,hd⟩=>by
  have nch:c∉ch:=fun z=>(hch c z).2.2.1 x c e rfl
  by_cases hc:c∈X.fs
  ·obtain⟨sl,q⟩:=slot c o (I.cne x c e) hc nch ho (I.freeC x c e)
   exact⟨_,q,hd⟩
  ·exact⟨o,keep c o (I.cne x c e) hc nch ho (I.freeC x c e),hd⟩
 refine⟨I.ok,I.os,hg,⟨fun b o e n hb hx=>?_,fun b o e n hb hx=>?_,fun b o e n hx=>?_,fun b o e hx=>?_,fun b xs e=>tups b xs (I.base.tups b xs e),fun b o xs e=>frzs b o xs (I.base.frzs b o xs e),fun b ps e=>?_⟩,?_,fun x c e=>?_,?_,fun x c e=>?_,fun p hp=>?_,hok,I.len⟩
 ·exact keep b o (neL b o e) hb (neC b o e hx) (I.base.keep b o e n hb hx) (I.base.free b o e n hx)
 ·obtain⟨sl,e1⟩:=I.base.slot b o e n hb hx
  obtain⟨sl',e2⟩:=slot b _ (neL b o e) hb (neC b o e hx) e1 (I.base.free b o e n hx)
  exact⟨sl',e2⟩
 ·obtain⟨o',e1⟩:=I.base.there b o e hx
  exact free b o' (neC b o e hx) e1 (I.base.free b o e n hx)
 ·obtain⟨o',e1⟩:=I.base.there b o e hx
  exact there b o' (neC b o e hx) e1
 ·obtain⟨m1,e1⟩:=I.base.tbls b ps e
  obtain⟨m2,e2⟩:=tbls b _ e1
  exact⟨m1++m2,by rw[e2,Array.append_assoc]⟩
 ·obtain⟨m,hn,hl⟩:=I.loc
  refine⟨m,ns m hn,fun i x v e1 e2 e3=>?_⟩
  obtain⟨u,r,l⟩:=hl i x v e1 e2 e3
  exists u,r
  rcases l with l|⟨k,c,e,z⟩
  ·exact .inl l
  ·exact .inr ⟨k,c,e,cellK x c e _ z⟩
 ·obtain⟨v,z⟩:=I.cell x c e
  exact⟨v,cellK x c e v z⟩
 ·obtain⟨m,⟨o,_,_,ho,_⟩,_⟩:=I.loc
  exact free _ o (fun z=>(hch _ z).2.1 rfl) ho I.free
 ·obtain⟨v,o,ho,hd⟩:=I.cell x c e
  exact free c o (fun z=>(hch c z).2.2.1 x c e rfl) ho (I.freeC x c e)
 ·obtain⟨e,n,ne,nf,d⟩:=I.pin p hp
  have nch:p.1∉ch:=fun z=>(hch p.1 z).2.2.2 p hp rfl
  exact⟨keep p.1 p.2 ne nf nch e n,free p.1 p.2 nch e n,ne,nf,d⟩
theorem Inv.un{t':Nat}(I:Inv X pins σ H s)(u:Un X.fs [] H H' s.heap h')(hok:oy X.prog X.w H' h'):Inv X pins σ H' {s with heap:=h',toks:=t'}:=by
 obtain⟨m,⟨o,es,ep,ho,r⟩,_⟩:=id I.loc
 obtain⟨sl,hL⟩:=u.any ho I.free (by simp)
 exact I.step (g':=s.gens) (d':=s.drawn) (ch:=[]) (fun _ z=>nomatch z) (fun b o _ hb _ e n=>u.keep b o e n hb (by simp)) (fun b o _ hb _ e n=>u.slot b o e n hb (by simp)) (fun b o _ e n=>u.free b o e n (by simp)) (fun b o _ e=>u.there b o e (by simp)) u.tups u.frzs u.tbls (fun m' hm=>by
  obtain⟨o',es',ep',ho',r'⟩:=hm
  rw[ho]at ho';cases ho'
  exact⟨_,es',ep',hL,r'⟩) hok I.bare
theorem Inv.call{g':Array GenState}{t':Nat}{d':Drawn}{ch:List PK}(I:Inv X pins σ H s)(u:Un (Ay X.stack) ch H H' s.heap h')(hok:oy X.prog X.w H' h')(hg:R0 g')
  (hch:∀b∈ch,(b∈X.ex\/X.s₀.heap.objs.size<=b)/\b≠X.env.locals/\(∀x c,X.env.cells.lookup x=some c->c≠b)/\∀p∈X.pn++pins,p.1≠b):
  Inv X pins σ H' {s with heap:=h',gens:=g',drawn:=d',toks:=t'}:=by
 obtain⟨m,⟨o,es,ep,ho,r⟩,_⟩:=id I.loc
 obtain⟨sl,hL⟩:=u.any ho I.free fun z=>(hch _ z).2.1 rfl
 exact I.step (ch:=ch) hch (fun b o hL hb hc e n=>u.keep b o e n (fun z=>(Qb.mp (I.stkSub b z)).elim hL hb) hc) (fun b o _ _ hc e n=>u.any e n hc) (fun b o hc e n=>u.free b o e n hc) (fun b o hc e=>u.there b o e hc) u.tups u.frzs u.tbls (fun m' hm=>by
  obtain⟨o',es',ep',ho',r'⟩:=hm
  rw[ho]at ho';cases ho'
  exact⟨_,es',ep',hL,r'⟩) hok hg
theorem Inv.turned{t':Nat}{it:PK}(I:Inv X pins σ H s)(k:∀b o,b≠it->s.heap.get? b=some o->h'.get? b=some o)(hn:H it=none)(hL:it≠X.env.locals)
  (h1:it∈X.ex\/X.s₀.heap.objs.size<=it) (h2:∀x c,X.env.cells.lookup x=some c->c≠it) (h3:∀p∈X.pn++pins,p.1≠it):Inv X pins σ H {s with heap:=h',toks:=t'}:=by
 have nit:∀b u,H b=some u->b≠it:=fun b u e z=>by rw[z,hn]at e;cases e
 refine I.step (g':=s.gens) (d':=s.drawn) (ch:=[it]) (fun b hb=>?_) (fun b o _ _ hc e _=>k b o (fun z=>hc (by simp[z])) e) (fun b o _ _ hc e _=>⟨o.slots,k b o (fun z=>hc (by simp[z])) e⟩) (fun _ _ _ _ n=>n)
  (fun b o hc e=>⟨o,k b o (fun z=>hc (by simp[z])) e⟩) (fun _ _ e=>e) (fun _ _ _ e=>e) (fun b ps e=>⟨#[],by rw[e];simp⟩) (fun m hm=>?_) (fun b u e=>?_) I.bare
 ·have e:b=it:=by simpa using hb
  subst e
  exact⟨h1,hL,h2,h3⟩
 ·obtain⟨o,es,ep,ho,r⟩:=hm
  exact⟨o,es,ep,k _ o (Qy hL) ho,r⟩
 ·refine(I.hok b u e).stay (fun c v hc q=>k c v ?_ q) (fun _ q=>q) fun _ _ q=>q
  rcases hc with z|z
  ·rw[z];exact nit b u e
  ·exact nit c _ z
theorem Inv.tok(I:Inv X pins σ H s)(t:Nat):Inv X pins σ H {s with toks:=t}:=I.un (h':=s.heap) (t':=t) Un.refl I.hok
theorem Inv.kept{t':Nat}(I:Inv X pins σ H s)(k:∀b u,s.heap.get? b=some u->h'.get? b=some u):Inv X pins σ H {s with heap:=h',toks:=t'}:=I.un (Un.kept k) (I.hok.kept k)
theorem Inv.laid{a:PK}{o:HO}{t':Nat}(I:Inv X pins σ H s)(k:∀b u,s.heap.get? b=some u->h'.get? b=some u)(hp:s.heap.objs.size<=a)(new:c9 X.prog X.w (upd H a o) h' a o):
  Inv X pins σ (upd H a o) {s with heap:=h',toks:=t'}:=I.un (Un.laid k hp (I.hok.fresh hp)) (I.hok.laid k hp new)
theorem Inv.write{x e:PK}{o:HO}{t':Nat}(I:Inv X pins σ H s)(mu:NO (H x))(he:e=x\/H e=some (.own x))(k:∀b u,b≠e->s.heap.get? b=some u->h'.get? b=some u)(heo:∃u,h'.get? e=some u)
  (new:c9 X.prog X.w (upd H x o) h' x o):Inv X pins σ (upd H x o) {s with heap:=h',toks:=t'}:=I.un (Un.write mu he k heo) (I.hok.write mu he k heo new)
theorem Inv.pins_of{pins':List (PK×PV)}(I:Inv X pins σ H s)(h:∀p∈pins',s.heap.get? p.1=some p.2/\H p.1=none/\p.1≠X.env.locals/\p.1∉X.fs/\∀v,p.2.data≠.cell v):Inv X pins' σ H s:=
 ⟨I.ok,I.os,I.bare,I.base,I.loc,I.cell,I.free,I.freeC,fun p hp=>(QC.mp hp).elim (fun z=>I.pin p (S6 _ z)) (h p),I.hok,I.len⟩
theorem vT{N:List PH}(hN:N.Nodup){i j:Nat}{x:PH}(a:N[i]?=some x)(b:N[j]?=some x):i=j:=by
 obtain⟨h1,e1⟩:=QN.mp a
 obtain⟨h2,e2⟩:=QN.mp b
 exact(List.getElem_inj hN).mp (e1.trans e2.symm)
theorem zm{M:Model}{A:Qg}{E:PL->PN->Prop}{i:Nat}{x:PH}{v:V}{u:PL}{Q:Unit->PN->Prop}(I:Inv X pins σ H s)(hN:X.N.Nodup)(hi:X.N[i]?=some x)(hx:Loc X.env.scope x)(r:RelV v u)
  (h:∀s',Inv X pins (σ.set i (some v)) H s'->(∃a,RY a s.heap s'.heap/\(a=X.env.locals\/X.env.cells.lookup x=some a))->Q () s') (hf:X.fn x=true\/X.env.scope.names.lookup x=some .local:=by first|exact .inl rfl|exact .inr rfl|assumption):PQ M A (storeName X.env x u) Q E s:=by
 obtain⟨m,hn,hl⟩:=id I.loc
 have hcls:(X.env.scope.kind==.class || (X.env.scope.kind==.module&&X.env.locals != X.env.globals))=false:=by rw[I.ok.kind];rfl
 have hiσ:i<σ.length:=by rw[I.len];exact(QN.mp hi).1
 have cne:=I.cne
 have tracked:∀{a:PK}{h':P0},(∃o,s.heap.get? a=some o/\H a=none)->RY a s.heap h'->oy X.prog X.w H h':=fun {a h'} ha hs b ob e=>by
  obtain⟨_,_,hfree⟩:=ha
  refine(I.hok b ob e).stay (fun c w' hc q=>(hs.2 c ?_).trans q) (fun _ q=>q) fun _ _ q=>q
  rintro rfl
  rcases hc with rfl|hc
  ·rw[hfree]at e;cases e
  ·rw[hfree]at hc;cases hc
 rcases hx with hk|hk
 ·refine wpAny_storeName_local hk hn (fun h' hn' hs=>?_) hcls
  obtain⟨oL,_,_,hoL,_⟩:=id hn
  refine h _ ⟨I.ok,I.os,I.bare,⟨fun b o e n hb hx=>?_,fun b o e n hb hx=>?_,I.base.free,fun b o e hx=>?_,I.base.tups,I.base.frzs,I.base.tbls⟩,⟨_,hn',fun j y v' e1 e2 e3=>?_⟩,fun y c e=>?_,I.free,I.freeC,fun p hp=>?_,tracked ⟨oL,hoL,I.free⟩ hs,by simpa using I.len⟩ ⟨_,hs,.inl rfl⟩
  ·exact(hs.2 b (Qt (QD (Ql e) I.ok.above))).trans (I.base.keep b o e n hb hx)
  ·obtain⟨sl,e1⟩:=I.base.slot b o e n hb hx
   exact⟨sl,(hs.2 b (Qt (QD (Ql e) I.ok.above))).trans e1⟩
  ·obtain⟨o',e1⟩:=I.base.there b o e hx
   exact⟨o',(hs.2 b (Qt (QD (Ql e) I.ok.above))).trans e1⟩
  ·by_cases hj:j=i
   ·subst hj
    rw[hi]at e1;cases e1
    rw[V7 hiσ]at e2
    cases e2
    exact⟨u,r,.inl ⟨hk,by simp⟩⟩
   ·rw[V8 (Qy hj)]at e2
    obtain⟨u',r',q⟩:=hl j y v' e1 e2 e3
    exists u',r'
    rcases q with⟨k,e⟩|⟨k,c,e,z⟩
    ·refine .inl ⟨k,?_⟩
     have:y≠x:=fun e=>hj (vT hN e1 (e▸hi))
     simp[this,e]
    ·exact .inr ⟨k,c,e,z.sameBut hs (cne y c e)⟩
  ·obtain⟨w',z⟩:=I.cell y c e
   exact⟨w',z.sameBut hs (cne y c e)⟩
  ·obtain⟨e,n,ne,nf,d⟩:=I.pin p hp
   exact⟨(hs.2 p.1 ne).trans e,n,ne,nf,d⟩
 ·have hfn:X.fn x=true:=by
   rcases hf with z|z
   ·exact z
   ·rw[z]at hk;cases hk
  obtain⟨c,hc⟩:=I.ok.has x (.inl hk)
  obtain⟨w',z⟩:=I.cell x c hc
  refine wpAny_storeName_cell I.ok.kind hk hc z (fun h' hc' hs=>?_)
  obtain⟨oc,hoc,hocd⟩:=id z
  refine h {s with heap:=h'} ⟨I.ok,I.os,I.bare,⟨fun b o e n hb hx=>?_,fun b o e n hb hx=>?_,I.base.free,fun b o e hx=>?_,I.base.tups,I.base.frzs,I.base.tbls⟩,⟨m,hn.sameBut hs (Qy (cne x c hc)),fun j y v' e1 e2 e3=>?_⟩,fun y c' e=>?_,I.free,I.freeC,fun p hp=>?_,tracked ⟨oc,hoc,I.freeC x c hc⟩ hs,by simpa using I.len⟩ ⟨c,hs,.inr hc⟩
  ·exact(hs.2 b (Qt (QD (Ql e) (I.ok.cab x c hfn hc)))).trans (I.base.keep b o e n hb hx)
  ·obtain⟨sl,e1⟩:=I.base.slot b o e n hb hx
   exact⟨sl,(hs.2 b (Qt (QD (Ql e) (I.ok.cab x c hfn hc)))).trans e1⟩
  ·obtain⟨o',e1⟩:=I.base.there b o e hx
   exact⟨o',(hs.2 b (Qt (QD (Ql e) (I.ok.cab x c hfn hc)))).trans e1⟩
  ·by_cases hj:j=i
   ·subst hj
    rw[hi]at e1;cases e1
    rw[V7 hiσ]at e2
    cases e2
    exact⟨u,r,.inr ⟨.inl hk,c,hc,hc'⟩⟩
   ·rw[V8 (Qy hj)]at e2
    obtain⟨u',r',q⟩:=hl j y v' e1 e2 e3
    exists u',r'
    rcases q with q|⟨k,c',e,z'⟩
    ·exact .inl q
    ·refine .inr ⟨k,c',e,z'.sameBut hs ?_⟩
     rintro rfl
     exact hj (vT hN e1 (I.ok.inj _ _ _ e hc▸hi))
  ·by_cases hcc:c'=c
   ·subst hcc;exact⟨_,hc'⟩
   ·obtain⟨w2,z2⟩:=I.cell y c' e
    exact⟨w2,z2.sameBut hs hcc⟩
  ·obtain⟨e,n,ne,nf,d⟩:=I.pin p hp
   refine⟨(hs.2 p.1 ?_).trans e,n,ne,nf,d⟩
   intro q
   rw[q,hoc]at e
   have q':oc=p.2:=QX e
   exact d w' (by rw[<-q'];exact hocd)
theorem mq{M:Model}{A:Qg}{E:PL->PN->Prop}{i:Nat}{x:PH}{v:V}{u:PL}{Q:Unit->PN->Prop}(I:Inv X pins σ H s)(hN:X.N.Nodup)(hi:X.N[i]?=some x)(hx:Loc X.env.scope x)(r:RelV v u)
  (h:∀s',Inv X pins (σ.set i (some v)) H s'->Q () s') (hf:X.fn x=true\/X.env.scope.names.lookup x=some .local:=by first|exact .inl rfl|exact .inr rfl|assumption):PQ M A (storeName X.env x u) Q E s:=
 zm I hN hi hx r (fun s' I' _=>h s' I') hf
theorem Inv.call'{s':PN}{ch:List PK}(I:Inv X pins σ H s)(ho:s'.os=s.os)(u:Un (Ay X.stack) ch H H' s.heap s'.heap)(hok:oy X.prog X.w H' s'.heap)(hg:R0 s'.gens)
  (hch:∀b∈ch,(b∈X.ex\/X.s₀.heap.objs.size<=b)/\b≠X.env.locals/\(∀x c,X.env.cells.lookup x=some c->c≠b)/\∀p∈X.pn++pins,p.1≠b):Inv X pins σ H' s':=by
 obtain⟨h',g',d',t',o'⟩:=s'
 have e:o'=s.os:=ho
 subst e
 exact I.call (g':=g') (t':=t') (d':=d') u hok hg hch
end
noncomputable abbrev XK:=PL->Option PK->Hp->Prop
noncomputable abbrev St:=List (Option V)
noncomputable abbrev VK:=V->Hp->Prop
noncomputable abbrev TE:=St->Hp->VK->Prop
noncomputable abbrev TT:=St->Hp->(Bool->Hp->Prop)->Prop
noncomputable abbrev TA:=St->Hp->(List V->Hp->Prop)->Prop
structure Ends where
 nx:St->Hp->Prop
 rt:VK
 bk:St->Hp->Prop:=fun _ _=>False
 ct:St->Hp->Prop:=fun _ _=>False
noncomputable abbrev TS:=Ends->St->Hp->Prop
noncomputable def EP(X:Cx)(pins:List (PK×PV))(σ:St)(Q:VK)(u:PL)(s':PN):Prop:=∃v H',Inv X pins σ H' s'/\RelV v u/\Q v H'
noncomputable def TP(X:Cx)(pins:List (PK×PV))(σ:St)(Q:Bool->Hp->Prop)(b:Bool)(s':PN):Prop:=∃H',Inv X pins σ H' s'/\Q b H'
noncomputable def AP(X:Cx)(pins:List (PK×PV))(σ:St)(Q:List V->Hp->Prop)(us:List PL)(s':PN):Prop:=∃vs H',Inv X pins σ H' s'/\bR vs us/\Q vs H'
noncomputable def SP(X:Cx)(pins:List (PK×PV))(D:Ends)(f:Flow)(s':PN):Prop:=
 match f with
 |.next=>∃σ' H',Inv X pins σ' H' s'/\D.nx σ' H'
 |.brk=>∃σ' H',Inv X pins σ' H' s'/\D.bk σ' H'
 |.cont=>∃σ' H',Inv X pins σ' H' s'/\D.ct σ' H'
 |.ret u=>∃v σ' H',Inv X pins σ' H' s'/\RelV v u/\D.rt v H'
noncomputable def PE(X:Cx)(e:PY)(t:TE):Prop:=
 ∀(pins:List (PK×PV))(s:PN)(σ:St)(H:Hp)(Q:VK),Inv X pins σ H s->t σ H Q->PQ (model X.prog X.w) X.A (eval e X.env) (EP X pins σ Q) X.xe s
noncomputable def PT(X:Cx)(e:PY)(t:TT):Prop:=
 ∀(pins:List (PK×PV))(s:PN)(σ:St)(H:Hp)(Q:Bool->Hp->Prop),Inv X pins σ H s->t σ H Q->PQ (model X.prog X.w) X.A (isTrue e X.env (eval e X.env)) (TP X pins σ Q) X.xe s
noncomputable def PW(X:Cx)(e:PY)(t:TT):Prop:=
 ∀(whole:Sem PL)(pins:List (PK×PV))(s:PN)(σ:St)(H:Hp)(Q:Bool->Hp->Prop),Inv X pins σ H s->t σ H Q->PQ (model X.prog X.w) X.A (isTrue e X.env whole) (TP X pins σ Q) X.xe s
theorem PW.pt{X:Cx}{e:PY}{t:TT}(h:PW X e t):PT X e t:=h _
noncomputable def PA(X:Cx)(es:List PY)(t:TA):Prop:=
 ∀(pos:Qi)(pins:List (PK×PV))(s:PN)(σ:St)(H:Hp)(Q:List V->Hp->Prop),Inv X pins σ H s->t σ H Q->PQ (model X.prog X.w) X.A (spliced (QF pos (Qf es X.env))) (AP X pins σ Q) X.xe s
noncomputable def PS(X:Cx)(st:P5)(t:TS):Prop:=
 ∀(pins:List (PK×PV))(s:PN)(σ:St)(H:Hp)(D:Ends),Inv X pins σ H s->t D σ H->PQ (model X.prog X.w) X.A (exec st X.env) (SP X pins D) X.xe s
noncomputable def xI(X:Cx)(st:List P5)(t:TS):Prop:=
 ∀(pins:List (PK×PV))(s:PN)(σ:St)(H:Hp)(D:Ends),Inv X pins σ H s->t D σ H->PQ (model X.prog X.w) X.A (execs st X.env) (SP X pins D) X.xe s
theorem cI{α:Type}{t:Sem α}{Q Q':α->PN->Prop}{M:Model}{A:Qg}{E:PL->PN->Prop}{s:PN}(h:PQ M A t Q E s)(hQ:∀a s,Q a s->Q' a s):PQ M A t Q' E s:=Q5 h hQ fun _ _ x=>x
section
variable {X:Cx}
theorem bin{a b:PY}{ta tb:TE}(ha:PE X a ta)(hb:PE X b tb){pins:List (PK×PV)}{s:PN}{σ:St}{H:Hp}{R:V->V->Hp->Prop}(I:Inv X pins σ H s)(h:ta σ H fun x H1=>tb σ H1 fun y H2=>R x y H2)
  {α:Type}{Q:α->PN->Prop}{f:PL->PL->Sem α}
  (hf:∀v u s2 x y H2,Inv X pins σ H2 s2->RelV x v->RelV y u->R x y H2->PQ (model X.prog X.w) X.A (f v u) Q X.xe s2):
  PQ (model X.prog X.w) X.A (eval a X.env) (fun v s₁=>PQ (model X.prog X.w) X.A (eval b X.env) (fun u s₂=>PQ (model X.prog X.w) X.A (f v u) Q X.xe s₂) X.xe s₁) X.xe s:=by
 refine cI (ha pins s σ H _ I h) fun v s1 ⟨x,H1,I1,r1,q1⟩=>?_
 refine cI (hb pins s1 σ H1 _ I1 q1) fun u s2 ⟨y,H2,I2,r2,q2⟩=>?_
 exact hf v u s2 x y H2 I2 r1 r2 q2
noncomputable def af(i:Nat):TE:=fun σ H Q=>∃v,σ[i]?=some (some v)/\Q v H
noncomputable def tC(v:V):TE:=fun _ H Q=>Q v H
theorem Ny{i:Nat}{x:PH}{pos:Qi}(hN:X.N[i]?=some x)(hv:Mf X.env.scope x)(hd:(x==("__debug__":PH))=false:=by decide)(hcd:(x==("__classdict__":PH))=false:=by decide):PE X (.Name x pos) (af i):=by
 intro pins s σ H Q I h
 obtain⟨v,e,h⟩:=h
 obtain⟨m,hn,hl⟩:=I.loc
 obtain⟨u,r,l⟩:=hl i x v hN e hv
 have fin:EP X pins σ Q u s:=⟨v,H,I,r,h⟩
 rcases l with⟨hk,hm⟩|⟨hk,c,hc,hcell⟩
 ·exact wpAny_Name (wpAny_loadName_local I.ok.kind hk hn hm fin) hd
 ·rcases hk with hk|hk
  ·exact wpAny_Name (wpAny_loadName_cell I.ok.kind hk hc hcell fin) hd
  ·exact wpAny_Name (wpAny_loadName_free I.ok.kind hk hc hcell fin hcd) hd
theorem ar{i j pos}:PE X (.Constant (.int i) j pos) (tC (.int i)):=fun _ _ _ H _ I h=>wpAny_Constant_int ⟨.int i,H,I.tok _,⟨_,rfl⟩,h⟩
theorem lM{b j pos}:PE X (.Constant (.bool b) j pos) (tC (.bl b)):=fun _ _ _ H _ I h=>Constant_bool ⟨.bl b,H,I,rfl,h⟩
theorem i4{j pos}:PE X (.Constant .none j pos) (tC .non):=fun _ _ _ H _ I h=>Constant_none ⟨.non,H,I,rfl,h⟩
theorem ay{x j pos}:PE X (.Constant (.str x) j pos) (tC (.str x)):=fun _ _ _ H _ I h=>Calls.Constant_str ⟨.str x,H,I.tok _,⟨_,rfl⟩,h⟩
noncomputable def Gl(X:Cx)(x:PH):Prop:=X.env.kindOf x=some .globalImplicit
theorem qE{E:PL->PN->Prop}{pins:List (PK×PV)}{s:PN}{σ:St}{H:Hp}{x:PH}{u:PL}{pos:Qi}{Q:PL->PN->Prop}(I:Inv X pins σ H s)(hg:Gl X x)(hm:X.mg x=some u)(h:Q u s)
  (hd:(x==("__debug__":PH))=false:=by decide):PQ (model X.prog X.w) X.A (eval (.Name x pos) X.env) Q E s:=
 Xb I.ok.kind hg (Calls.loadGlobal_global (by rw[I.ok.glob];exact I.mod.glob.keeps I.bk) hm h) hd
theorem jC{E:PL->PN->Prop}{pins:List (PK×PV)}{s:PN}{σ:St}{H:Hp}{x:PH}{u:PL}{pos:Qi}{Q:PL->PN->Prop}(I:Inv X pins σ H s)(hg:Gl X x)(hm:X.mg x=none)(hv:Tp x=some u)(h:Q u s)
  (hn:x≠"__name__":=by decide) (hd:(x==("__debug__":PH))=false:=by decide):PQ (model X.prog X.w) X.A (eval (.Name x pos) X.env) Q E s:=by
 obtain⟨mb,h1,h2⟩:=I.mod.blt
 exact Xb I.ok.kind hg (Calls.loadGlobal_builtin (by rw[I.ok.glob];exact I.mod.glob.keeps I.bk) hm (by rw[I.ok.blt];exact h1.keeps I.bk) ((h2 x hn).trans hv) h) hd
theorem Av{x:PH}{v:V}{u:PL}{pos:Qi}(hg:Gl X x)(hm:X.mg x=some u)(r:RelV v u)(hd:(x==("__debug__":PH))=false:=by decide):PE X (.Name x pos) (tC v):=
 fun _ _ _ H _ I h=>qE I hg hm ⟨v,H,I,r,h⟩ hd
theorem Lk{x:PH}{v:V}{u:PL}{pos:Qi}(hg:Gl X x)(hm:X.mg x=none)(hv:Tp x=some u)(r:RelV v u)(hn:x≠"__name__":=by decide)(hd:(x==("__debug__":PH))=false:=by decide):PE X (.Name x pos) (tC v):=
 fun _ _ _ H _ I h=>jC I hg hm hv ⟨v,H,I,r,h⟩ hn hd
variable {a b:PY}{ta tb:TE}{pos:Qi}
noncomputable def PC(X:Cx)(op:CmpOp)(a b:PY)(t:TE):Prop:=
 ∀(pins:List (PK×PV))(s:PN)(σ:St)(H:Hp)(Q:VK),Inv X pins σ H s->t σ H Q->
  PQ (model X.prog X.w) X.A (eval a X.env) (fun v s₁=>PQ (model X.prog X.w) X.A (eval b X.env) (fun u s₂=>PQ (model X.prog X.w) X.A (QO op v u) (EP X pins σ Q) X.xe s₂) X.xe s₁) X.xe s
noncomputable def tB(t:TE):TT:=fun σ H Q=>t σ H fun x H1=>∃c,x=.bl c/\Q c H1
theorem DL{op:CmpOp}{t:TE}(h:PC X op a b t)(h1:T8 op b=false:=by first|exact nobehind _ (by decide) (by decide)|rfl):PT X (.Compare a [op] [b] pos) (tB t):=by
 intro pins s σ H Q I hw
 refine wpAny_isTrue_Compare1 (cI (h pins s σ H _ I hw) fun v s1 h1=>cI h1 fun u s2 h2=>cI h2 fun c s3 ⟨x,H1,I1,r1,q1⟩=>?_) h1
 obtain⟨d,rfl,q⟩:=q1
 cases r1
 exact Tv ⟨H1,I1,q⟩
theorem Bp{e:PY}{t:TE}(h:PE X e t)(he:∀whole,isTrue e X.env whole=(do let v <-whole;standAt e.pos;holding [v] (truthy v)):=by intro _;rfl):PT X e (tB t):=by
 intro pins s σ H Q I hw
 refine isTrue_plain (cI (h pins s σ H _ I hw) fun v s1 ⟨x,H1,I1,r1,q1⟩=>?_) (he _)
 obtain⟨d,rfl,q⟩:=q1
 cases r1
 exact Tv ⟨H1,I1,q⟩
variable {tA tB':TT}{rest:List PY}
noncomputable def HR(t u:TT):TT:=fun σ H Q=>t σ H fun c H1=>if c=true then u σ H1 Q else Q false H1
noncomputable def Ou(t u:TT):TT:=fun σ H Q=>t σ H fun c H1=>if c=true then Q true H1 else u σ H1 Q
noncomputable def BN(t:TT):TT:=fun σ H Q=>t σ H fun c H1=>Q (!c) H1
theorem Fb(ha:PT X a tA):PW X (.BoolOp .And [a] pos) tA:=by
 intro wh pins s σ H Q I h
 refine isTrue_and (cI (ha pins s σ H Q I h) fun c s1 e=>?_)
 cases c with
 |true=>exact isTrue_and_nil e
 |false=>exact e
theorem D4(ha:PT X a tA):PW X (.BoolOp .Or [a] pos) tA:=by
 intro wh pins s σ H Q I h
 refine isTrue_or (cI (ha pins s σ H Q I h) fun c s1 e=>?_)
 cases c with
 |false=>exact isTrue_or_nil e
 |true=>exact e
theorem Eh(ha:PT X a tA)(hb:PW X (.BoolOp .And (b::rest) pos) tB'):PW X (.BoolOp .And (a::b::rest) pos) (HR tA tB'):=by
 intro wh pins s σ H Q I h
 refine isTrue_and (cI (ha pins s σ H _ I h) fun c s1 ⟨H1,I1,q1⟩=>?_)
 cases c with
 |true=>exact hb wh pins s1 σ H1 Q I1 q1
 |false=>exact⟨H1,I1,q1⟩
theorem HI(ha:PT X a tA)(hb:PW X (.BoolOp .Or (b::rest) pos) tB'):PW X (.BoolOp .Or (a::b::rest) pos) (Ou tA tB'):=by
 intro wh pins s σ H Q I h
 refine isTrue_or (cI (ha pins s σ H _ I h) fun c s1 ⟨H1,I1,q1⟩=>?_)
 cases c with
 |true=>exact⟨H1,I1,q1⟩
 |false=>exact hb wh pins s1 σ H1 Q I1 q1
theorem sD(ha:PT X a tA):PT X (.UnaryOp .Not a pos) (BN tA):=by
 intro pins s σ H Q I h
 exact isTrue_not (ha pins s σ H (fun c H1=>Q (!c) H1) I h)
noncomputable def Fs(ta tb:TE):TE:=fun σ H Q=>ta σ H fun x H1=>∃c,x=.bl c/\if c=true then tb σ H1 Q else Q (.bl false) H1
theorem Ik{op}{t:TE}(h:PE X a t):PE X (.BoolOp op [a] pos) t:=fun pins s σ H Q I hw=>BoolOp_one (h pins s σ H Q I hw)
theorem Kc(ha:PE X a ta)(hb:PE X (.BoolOp .And (b::rest) pos) tb):PE X (.BoolOp .And (a::b::rest) pos) (Fs ta tb):=by
 intro pins s σ H Q I h
 refine BoolOp_and (cI (ha pins s σ H _ I h) fun v s1 ⟨x,H1,I1,r1,q1⟩=>?_)
 obtain⟨c,rfl,q1⟩:=q1
 cases r1
 refine Tv ?_
 cases c with
 |true=>exact hb pins s1 σ H1 Q I1 q1
 |false=>exact⟨.bl false,H1,I1,rfl,q1⟩
noncomputable def OD(t:TT)(ta tb:TE):TE:=fun σ H Q=>t σ H fun c H1=>if c=true then ta σ H1 Q else tb σ H1 Q
theorem xv{c:PY}(hc:PT X c tA)(ha:PE X a ta)(hb:PE X b tb):PE X (.IfExp c a b pos) (OD tA ta tb):=by
 intro pins s σ H Q I h
 refine wpAny_IfExp (cI (hc pins s σ H _ I h) fun d s1 ⟨H1,I1,q1⟩=>?_)
 cases d with
 |true=>exact ha pins s1 σ H1 Q I1 q1
 |false=>exact hb pins s1 σ H1 Q I1 q1
end
noncomputable def aY(K:PM)(H:Hp)(a:PK)(xs:List V):Prop:=
 Rd H a (.lst xs)\/
  ∃(o:PV)(its:Array PL)(n:Nat),K.lookup a=some o/\o.cls=.type "list"/\o.dict=none/\o.data=.seq its n/\its.size<=PZ/\bR xs its.toList
noncomputable def kZ(K:PM)(H:Hp)(a:PK)(xs:List V):Prop:=
 Rd H a (.tup xs)\/
  ∃(o:PV)(its:Array PL)(n:Nat),K.lookup a=some o/\o.cls=.type "tuple"/\o.data=.seq its n/\its.size<=PZ/\bR xs its.toList
noncomputable def O9:PL->Option V
 |.none=>some .non
 |.bool b=>some (.bl b)
 |.int i _=>some (.int i)
 |.str x _=>some (.str x)
 |.bytes b _=>some (.byt b)
 |.float b _=>some (.flt b)
 |.ref a=>some (.ref a)
 |.type n=>some (.ty n)
 |_=>none
theorem RelV.abs{x:V}{u:PL}(r:RelV x u):O9 u=some x:=by
 cases x with
 |non=>cases r;rfl
 |bl _=>cases r;rfl
 |int _=>obtain⟨t,rfl⟩:=r;rfl
 |str _=>obtain⟨t,rfl⟩:=r;rfl
 |byt _=>obtain⟨t,rfl⟩:=r;rfl
 |flt _=>obtain⟨t,rfl⟩:=r;rfl
 |ref _=>cases r;rfl
 |ty _=>cases r;rfl
theorem RelV.inj{x y:V}{u:PL}(r:RelV x u)(q:RelV y u):x=y:=QX (r.abs.symm.trans q.abs)
theorem bR.inj:∀{xs ys:List V}{us:List PL},bR xs us->bR ys us->xs=ys
 |_,_,_,.nil,.nil=>rfl
 |_,_,_,.cons r t,.cons r' t'=>by rw[r.inj r',bR.inj t t']
section
variable {X:Cx}{pins:List (PK×PV)}{σ:St}{H:Hp}{s:PN}{a:PK}{xs ys:List V}
theorem aY.of{K:PM}(h:H a=some (.lst xs)):aY K H a xs:=.inl (.inl h)
theorem kZ.of{K:PM}(h:H a=some (.tup xs)):kZ K H a xs:=.inl (.inl h)
theorem Inv.list(I:Inv X pins σ H s)(h:aY X.K H a xs):∃its:List PL,bR xs its/\PlainL s.heap a its.toArray/\xs.length<=PZ:=by
 rcases h with h|⟨o,its,n,hk,hc,hd,hs,hz,r⟩
 ·obtain⟨z,its,n,r,e⟩:=h.ok I.hok
  exact⟨its,r,⟨_,n,e,rfl,rfl,rfl⟩,z⟩
 ·exists its.toList,r,⟨o,n,I.kIn a o hk,hc,hd,by simpa using hs⟩
  have e:=r.length
  simp only[UE]at e
  omega
theorem Inv.tuple(I:Inv X pins σ H s)(h:kZ X.K H a xs):∃its:List PL,bR xs its/\IsTup s.heap a its.toArray/\xs.length<=PZ:=by
 rcases h with h|⟨o,its,n,hk,hc,hs,hz,r⟩
 ·obtain⟨z,its,r,p⟩:=h.ok I.hok
  exact⟨its,r,p,z⟩
 ·exists its.toList,r,⟨o,I.kIn a o hk,hc,n,by simpa using hs⟩
  have e:=r.length
  simp only[UE]at e
  omega
theorem Inv.list_inj(I:Inv X pins σ H s)(h:aY X.K H a xs)(h':aY X.K H a ys):xs=ys:=by
 obtain⟨its,r,⟨o,n,e,_,_,d⟩,_⟩:=I.list h
 obtain⟨its',r',⟨o',n',e',_,_,d'⟩,_⟩:=I.list h'
 rw[e]at e';cases e'
 rw[d]at d'
 injection d' with d1 _
 have:its=its':=by simpa using congrArg XE d1
 subst this
 exact r.inj r'
end
noncomputable abbrev Cx.wish(X:Cx)(E:PL->PN->Prop):Cx:={X with xe:=E}
noncomputable abbrev Cx.nox(X:Cx):Cx:=X.wish fun _ _=>False
theorem Cx.Ok.wish{X:Cx}(ok:X.Ok)(E:PL->PN->Prop):(X.wish E).Ok:=
 ⟨ok.mod,ok.kind,ok.glob,ok.blt,ok.above,ok.inj,ok.has,ok.cab,ok.hd,ok.frames,ok.stk,ok.exf,ok.bs,ok.bsz,ok.noex,ok.exfs,ok.funs,ok.frf⟩
theorem Cx.Ok.unwish{X:Cx}{E:PL->PN->Prop}(ok:(X.wish E).Ok):X.Ok:=
 ⟨ok.mod,ok.kind,ok.glob,ok.blt,ok.above,ok.inj,ok.has,ok.cab,ok.hd,ok.frames,ok.stk,ok.exf,ok.bs,ok.bsz,ok.noex,ok.exfs,ok.funs,ok.frf⟩
section
variable {X:Cx}{pins:List (PK×PV)}{σ:St}{H:Hp}{s:PN}{E:PL->PN->Prop}
theorem Inv.wish(I:Inv X pins σ H s)(E:PL->PN->Prop):Inv (X.wish E) pins σ H s:=⟨I.ok.wish E,I.os,I.bare,I.base,I.loc,I.cell,I.free,I.freeC,I.pin,I.hok,I.len⟩
theorem Inv.unwish(I:Inv (X.wish E) pins σ H s):Inv X pins σ H s:=⟨I.ok.unwish,I.os,I.bare,I.base,I.loc,I.cell,I.free,I.freeC,I.pin,I.hok,I.len⟩
theorem SP.unwish{D:Ends}{f:Flow}{s':PN}(h:SP (X.wish E) pins D f s'):SP X pins D f s':=by
 cases f with
 |next=>obtain⟨σ',H',I,q⟩:=h;exact⟨σ',H',I.unwish,q⟩
 |brk=>obtain⟨σ',H',I,q⟩:=h;exact⟨σ',H',I.unwish,q⟩
 |cont=>obtain⟨σ',H',I,q⟩:=h;exact⟨σ',H',I.unwish,q⟩
 |ret u=>obtain⟨v,σ',H',I,r,q⟩:=h;exact⟨v,σ',H',I.unwish,r,q⟩
theorem xI.nox{st:List P5}{t:TS}(h:xI X.nox st t):xI X st t:=fun pins s σ H D I hw=>
 Q5 (h pins s σ H D (I.wish _) hw) (fun _ _ q=>q.unwish) fun _ _ z=>Rl z
end
section
variable {X:Cx}{st:P5}{rest:List P5}{t u:TS}{e:PY}{te:TE}{pos:Qi}
noncomputable def bS:TS:=fun D σ H=>D.nx σ H
noncomputable def aE(t u:TS):TS:=fun D σ H=>t {D with nx:=u D} σ H
theorem a9:xI X [] bS:=fun _ _ σ H _ I h=>To ⟨σ,H,I,h⟩
theorem ah(h1:PS X st t)(h2:xI X rest u):xI X (st::rest) (aE t u):=by
 intro pins s σ H D I h
 refine wpAny_execs_cons (cI (h1 pins s σ H {D with nx:=u D} I h) fun f s1 q=>?_)
 cases f with
 |next=>
  obtain⟨σ',H',I',q⟩:=q
  exact h2 pins s1 σ' H' D I' q
 |ret v=>exact q
 |brk=>exact q
 |cont=>exact q
theorem aj(h1:PS X st t):xI X [st] t:=by
 intro pins s σ H D I h
 refine wpAny_execs_cons (cI (h1 pins s σ H D I h) fun f s1 q=>?_)
 cases f with
 |next=>exact To q
 |ret v=>exact q
 |brk=>exact q
 |cont=>exact q
theorem Inv.quiet{pins:List (PK×PV)}{σ:St}{H:Hp}{s:PN}(I:Inv X pins σ H s):interactive X.env=false:=by simp[interactive,I.ok.kind]
noncomputable def cS(te:TE):TS:=fun D σ H=>te σ H fun _ H1=>D.nx σ H1
theorem bN(he:PE X e te)(hs:swapsWith e none pos.line X.env=pure false:=by rfl):PS X (.Expr e pos) (cS te):=by
 intro pins s σ H D I h
 exact wpAny_Expr_any (cI (he pins s σ H _ I h) fun v s1 ⟨x,H1,I1,r1,q1⟩=>⟨σ,H1,I1,q1⟩) I.quiet hs
noncomputable def bB(te:TE):TS:=fun D σ H=>te σ H D.rt
theorem aD(he:PE X e te):PS X (.Return (some e) pos) (bB te):=by
 intro pins s σ H D I h
 exact wpAny_Return_some (cI (he pins s σ H _ I h) fun v s1 ⟨x,H1,I1,r1,q1⟩=>⟨x,σ,H1,I1,r1,q1⟩)
noncomputable def cm(c:TT)(t u:TS):TS:=fun D σ H=>c σ H fun b H1=>if b=true then t D σ H1 else u D σ H1
theorem bH{c:PY}{a b:List P5}{tc:TT}(hc:PT X c tc)(ha:xI X a t)(hb:xI X b u):PS X (.If c a b pos) (cm tc t u):=by
 intro pins s σ H D I h
 refine wpAny_If (cI (hc pins s σ H _ I h) fun d s1 ⟨H1,I1,q1⟩=>?_)
 cases d with
 |true=>exact ha pins s1 σ H1 D I1 q1
 |false=>exact hb pins s1 σ H1 D I1 q1
end
noncomputable abbrev TG:=V->St->Hp->(St->Hp->Prop)->Prop
noncomputable abbrev Nw:=List V->St->Hp->(St->Hp->Prop)->Prop
noncomputable def PG(X:Cx)(target:PY)(t:TG):Prop:=
 ∀(pins:List (PK×PV))(s:PN)(σ:St)(H:Hp)(v:V)(u:PL)(Q:St->Hp->Prop),Inv X pins σ H s->RelV v u->t v σ H Q->
  PQ (model X.prog X.w) X.A (assign target X.env u) (fun _ s'=>∃σ' H',Inv X pins σ' H' s'/\Q σ' H') X.xe s
noncomputable def OO(X:Cx)(ts:List PY)(t:Nw):Prop:=
 ∀(pins:List (PK×PV))(s:PN)(σ:St)(H:Hp)(vs:List V)(us:List PL)(Q:St->Hp->Prop),Inv X pins σ H s->bR vs us->t vs σ H Q->
  PQ (model X.prog X.w) X.A (assignInOrder ((TR ts X.env).map (·.2)) us) (fun _ s'=>∃σ' H',Inv X pins σ' H' s'/\Q σ' H') X.xe s
noncomputable abbrev O1:=V->V->Hp->VK->Prop
noncomputable def Py(X:Cx)(op:Operator)(t:O1):Prop:=
 ∀(pins:List (PK×PV))(s:PN)(σ:St)(H:Hp)(x y:V)(v u:PL)(Q:VK),Inv X pins σ H s->RelV x v->RelV y u->t x y H Q->
  PQ (model X.prog X.w) X.A (R9 op v u) (EP X pins σ Q) X.xe s
section
variable {X:Cx}{pos:Qi}
noncomputable def au(i:Nat):TG:=fun v σ H Q=>Q (σ.set i (some v)) H
theorem aC{i:Nat}{x:PH}(hN:X.N.Nodup)(hi:X.N[i]?=some x)(hx:Loc X.env.scope x)(hf:X.fn x=true\/X.env.scope.names.lookup x=some .local:=by first|exact .inl rfl|exact .inr rfl|assumption):PG X (.Name x pos) (au i):=by
 intro pins s σ H v u Q I r h
 exact wpAny_assign_Name (mq I hN hi hx r (fun s' I'=>⟨_,H,I',h⟩) hf)
noncomputable def fS:Nw:=fun vs σ H Q=>vs=[]/\Q σ H
noncomputable def bz(t:TG)(u:Nw):Nw:=fun vs σ H Q=>∃v r,vs=v::r/\t v σ H fun σ' H'=>u r σ' H' Q
theorem cY:OO X [] fS:=by
 intro pins s σ H vs us Q I r h
 obtain⟨e,h⟩:=h
 subst e
 cases r
 exact assignInOrder_nil ⟨σ,H,I,h⟩
theorem aR{e:PY}{es:List PY}{t:TG}{u:Nw}(h1:PG X e t)(h2:OO X es u)
  (hs:(TR (e::es) X.env).map (·.2)=assign e X.env::(TR es X.env).map (·.2):=by rfl):OO X (e::es) (bz t u):=by
 intro pins s σ H vs us Q I r h
 obtain⟨v,vr,e1,h⟩:=h
 subst e1
 cases r with
 |cons r rr=>
  rw[hs]
  refine assignInOrder_cons (cI (h1 pins s σ H _ _ _ I r h) fun _ s1 ⟨σ1,H1,I1,q1⟩=>?_)
  exact h2 pins s1 σ1 H1 _ _ Q I1 rr q1
noncomputable def fZ(K:PM)(n:Nat)(t:Nw):TG:=fun v σ H Q=>∃a xs,v=.ref a/\kZ K H a xs/\xs.length=n/\t xs σ H Q
theorem dO{es:List PY}{k:Nat}{t:Nw}{n:Nat}(hc:X.calm=true)(h:OO X es t)
  (hn:(TR es X.env).length=n:=by rfl) (hst:(TR es X.env).findIdx? (·.1)=none:=by rfl):PG X (.Tuple es k pos) (fZ X.K n t):=by
 intro pins s σ H v u Q I r hw
 obtain⟨a,xs,e1,hq,hl,hw⟩:=hw
 subst e1
 cases r
 obtain⟨its,rv,ht,hz⟩:=I.tuple hq
 refine assign_Tuple_tuple (I.ok.hd hc) ht (by simp[hn,<-hl,rv.length]) hst fun h' hx=>?_
 have I1:Inv X pins σ H {s with heap:=h'}:=I.kept (t':=s.toks) fun b o e=>hx b o (Qt (Ql e)) e
 exact h pins _ σ H xs _ Q I1 (by simpa using rv) hw
noncomputable def bG(te:TE)(g:TG):TS:=fun D σ H=>te σ H fun x H1=>g x σ H1 D.nx
theorem aM{i:Nat}{x:PH}{e:PY}{te:TE}{pos':Qi}(hN:X.N.Nodup)(hi:X.N[i]?=some x)(hx:Loc X.env.scope x)(he:PE X e te)(hs:swapsWith e (some (.Name x pos')) pos.line X.env=pure false:=by rfl)(hf:X.fn x=true\/X.env.scope.names.lookup x=some .local:=by first|exact .inl rfl|exact .inr rfl|assumption):
  PS X (.Assign [.Name x pos'] e pos) (bG te (au i)):=by
 intro pins s σ H D I h
 refine wpAny_Assign_Name (cI (he pins s σ H _ I h) fun v s1 ⟨y,H1,I1,r1,q1⟩=>?_) hs
 exact mq I1 hN hi hx r1 (fun s2 I2=>⟨_,H1,I2,q1⟩) hf
noncomputable def Ef(i:Nat)(te:TE)(ti:O1):TS:=fun D σ H=>∃x,σ[i]?=some (some x)/\te σ H fun y H1=>ti x y H1 fun z H2=>D.nx (σ.set i (some z)) H2
theorem AS{i:Nat}{x:PH}{e:PY}{te:TE}{op:Operator}{ti:O1}{pos':Qi}(hN:X.N.Nodup)(hi:X.N[i]?=some x)(hx:Loc X.env.scope x)(he:PE X e te)(ho:Py X op ti)(hf:X.fn x=true\/X.env.scope.names.lookup x=some .local:=by first|exact .inl rfl|exact .inr rfl|assumption):
  PS X (.AugAssign (.Name x pos') op e pos) (Ef i te ti):=by
 intro pins s σ H D I h
 obtain⟨v,e1,h⟩:=h
 obtain⟨m,hn,hl⟩:=I.loc
 have vis:Mf X.env.scope x:=by rcases hx with k|k;exact .inl k;exact .inr (.inl k)
 obtain⟨u,r,l⟩:=hl i x v hi e1 vis
 refine wpAny_AugAssign_Name ?_
 have go:PQ (model X.prog X.w) X.A (eval e X.env) (fun w s₂=>PQ (model X.prog X.w) X.A (R9 op u w) (fun r s₃=>PQ (model X.prog X.w) X.A (storeName X.env x r) (fun _=>SP X pins D .next) X.xe s₃) X.xe s₂) X.xe s:=by
  refine cI (he pins s σ H _ I h) fun w s1 ⟨y,H1,I1,r1,q1⟩=>?_
  refine cI (ho pins s1 σ H1 v y u w _ I1 r r1 q1) fun z s2 ⟨zv,H2,I2,r2,q2⟩=>?_
  exact mq I2 hN hi hx r2 (fun s3 I3=>⟨_,H2,I3,q2⟩) hf
 rcases l with⟨hk,hm⟩|⟨hk,c,hc,hcell⟩
 ·exact wpAny_loadName_local I.ok.kind hk hn hm go
 ·rcases hk with hk|hk
  ·exact wpAny_loadName_cell I.ok.kind hk hc hcell go
  ·rcases hx with k|k
   ·have:X.env.scope.names.lookup x=some .free:=hk
    rw[k]at this;cases this
   ·have:X.env.scope.names.lookup x=some .free:=hk
    rw[k]at this;cases this
end
section
variable {X:Cx}{pos:Qi}
noncomputable def D5(c:TT)(tb:TS):TS:=fun D σ H=>∃W:Nat->St->Hp->Prop,(∃m,W m σ H)/\∀m σ H,W m σ H->
 c σ H fun b H1=>if b=true then ∃N:St->Hp->Prop,(∀σ' H',N σ' H'->∃m',m'<m/\W m' σ' H')/\tb {D with nx:=N,ct:=N,bk:=D.nx} σ H1 else D.nx σ H1
theorem BQ{c:PY}{body:List P5}{tc:TT}{tb:TS}(hp:PassesOwn (model X.prog X.w) X.A X.env X.xe)(hc:PT X c tc)(hb:xI X body tb):PS X (.While c body [] pos) (D5 tc tb):=by
 intro pins s σ H D I h
 obtain⟨W,⟨m0,w0⟩,turn⟩:=h
 refine wpAny_While (codeAny_whileLoop (fun n s'=>∃σ' H',Inv X pins σ' H' s'/\W n σ' H') ?_ m0 ⟨σ,H,I,w0⟩)
 rintro n s1 ⟨σ1,H1,I1,w1⟩
 refine SK hp (cI (hc pins s1 σ1 H1 _ I1 (turn n σ1 H1 w1)) fun b s2 ⟨H2,I2,q2⟩=>?_)
 cases b with
 |true=>
  obtain⟨N,hN,q2⟩:=q2
  rw[if_pos rfl]
  refine SK hp (cI (hb pins s2 σ1 H2 _ I2 q2) fun f s3 q3=>?_)
  cases f with
  |next=>
   obtain⟨σ3,H3,I3,n3⟩:=q3
   obtain⟨m',hm,w3⟩:=hN σ3 H3 n3
   exact⟨m',hm,σ3,H3,I3,w3⟩
  |cont=>
   obtain⟨σ3,H3,I3,n3⟩:=q3
   obtain⟨m',hm,w3⟩:=hN σ3 H3 n3
   exact⟨m',hm,σ3,H3,I3,w3⟩
  |brk=>exact q3
  |ret v=>exact q3
 |false=>
  rw[if_neg QM]
  exact To ⟨σ1,H2,I2,q2⟩
end
structure It where
 go:Nat->Hp->Prop
 yld:Nat->Hp->V->Hp->Prop
 stop:Nat->Hp->Prop
noncomputable def qM(X:Cx)(pins:List (PK×PV))(H:Hp)(b:PK):Prop:=
 H b=none/\b≠X.env.locals/\b∉X.fs/\(b∈X.ex\/X.s₀.heap.objs.size<=b)/\(∀x c,X.env.cells.lookup x=some c->c≠b)/\∀p∈X.pn++pins,p.1≠b
theorem Inv.fpOk{X:Cx}{pins:List (PK×PV)}{σ:St}{H H':Hp}{s:PN}{b:PK}(I:Inv X pins σ H s)(hb:s.heap.objs.size<=b)(hn:H' b=none):qM X pins H' b:=by
 refine⟨hn,Rp (QD I.lt hb),I.nofs hb,.inr (P6 I.sz hb),fun x c e z=>?_,fun p hp z=>?_⟩
 ·obtain⟨v,q⟩:=I.cell x c e
  exact absurd (QD q.lt (by rw[z];exact hb)) (RB _)
 ·exact absurd (QD (Ql (I.pin p hp).1) (by rw[z];exact hb)) (RB _)
structure Turn(P:Qc)(w:P8)(K:PM)(tg:PY)(J:It)(fp:List PK)(it:PK)(tn:Nat->P0->Prop):Prop where
 mem:it∈fp
 obj:∀i h,tn i h->∀b∈fp,∃o,h.get? b=some o/\∀v,o.data≠.cell v
 keep:∀i h h',tn i h->(∀b∈fp,∀o,h.get? b=some o->h'.get? b=some o)->tn i h'
 item:∀(X:Cx),X.prog=P->X.w=w->X.K=K->X.calm=true->∀(i:Nat)(pins:List (PK×PV))(s:PN)(σ:St)(H:Hp)(E:PL->PN->Prop),Inv X pins σ H s->(∀b∈fp,qM X pins H b)->tn i s.heap->J.go i H->
  PQ (model P w) X.A (Rg (.ref it)) (fun r s1=>∃u,r=some u/\
   PQ (model P w) X.A (letOwnedTupleGo tg (.ref it) u) (fun _ s2=>∃x H',Inv X pins σ H' s2/\RelV x u/\J.yld i H x H'/\tn (i+1) s2.heap/\∀b∈fp,H' b=none) E s1) E s
 done:∀(X:Cx),X.prog=P->X.w=w->X.K=K->X.calm=true->∀(i:Nat)(pins:List (PK×PV))(s:PN)(σ:St)(H:Hp)(E:PL->PN->Prop),Inv X pins σ H s->(∀b∈fp,qM X pins H b)->tn i s.heap->J.stop i H->
  PQ (model P w) X.A (Rg (.ref it)) (fun r s1=>r=none/\Inv X pins σ H s1) E s
 self:∀(A:Qg)(i:Nat)(s:PN)(Q:PL->PN->Prop)(E:PL->PN->Prop),tn i s.heap->Q (.ref it) s->PQ (model P w) A (pyIter (.ref it)) Q E s
noncomputable abbrev TI:=St->Hp->(It->Hp->Prop)->Prop
noncomputable def Pq(X:Cx)(pins:List (PK×PV))(σ:St)(tg:PY)(R:It->Hp->Prop)(itv:PL)(s2:PN):Prop:=
 ∃(it:PK)(fp:List PK)(tn:Nat->P0->Prop)(J:It)(H':Hp),itv=.ref it/\Inv X pins σ H' s2/\Turn X.prog X.w X.K tg J fp it tn/\tn 0 s2.heap/\(∀b∈fp,qM X pins H' b)/\R J H'
noncomputable def PI(X:Cx)(tg iter:PY)(wi:TI):Prop:=
 ∀(pins:List (PK×PV))(s:PN)(σ:St)(H:Hp)(R:It->Hp->Prop),Inv X pins σ H s->wi σ H R->
  PQ (model X.prog X.w) X.A (eval iter X.env) (fun v s1=>PQ (model X.prog X.w) X.A (pyIter v) (Pq X pins σ tg R) X.xe s1) X.xe s
theorem B8{M:Model}{A:Qg}{E:PL->PN->Prop}{s:PN}{tg:PY}{it:PK}{u:PL}{o:PV}{n:String}{vs:Array PL}{Q:Unit->PN->Prop}(ho:s.heap.get? it=some o)(hc:o.cls=.type n)(hd:o.data=.fields vs)
  (hn:["enumerate","zip","dict_itemiterator","dict_reverseitemiterator","odict_iterator","itertools.zip_longest","itertools.pairwise"].contains n=false) (hQ:Q () s):PQ M A (letOwnedTupleGo tg (.ref it) u) Q E s:=by
 unfold letOwnedTupleGo
 cases tg<;>first
  |exact Qh hQ
  |(cases u<;>first
    |exact Qh hQ
    | (refine PR (wpAny_load ho ?_)
       rw[hc,hd]
       show PQ M A (if(["enumerate","zip","dict_itemiterator","dict_reverseitemiterator","odict_iterator","itertools.zip_longest","itertools.pairwise"].contains n&&vs[0]?==some (QQ _))=true then _ else _) Q E s
       rw[if_neg (by intro h;rw[hn,SR]at h;cases h)]
       exact Qh hQ))
noncomputable def HA(K:PM)(a:PK):It:=
 ⟨fun i H=>∃xs x,aY K H a xs/\xs[i]?=some x,fun i H x H'=>H'=H/\∀xs,aY K H a xs->xs[i]?=some x,fun i H=>∃xs,aY K H a xs/\xs.length<=i⟩
noncomputable def Hy(lo:Int)(n:Nat):It:=⟨fun i _=>i<n,fun i H x H'=>H'=H/\x=.int (lo+i),fun i _=>n<=i⟩
theorem FX{P:Qc}{w:P8}{K:PM}{tg:PY}(a it:PK):Turn P w K tg (HA K a) [it] it (fun i h=>h.IsListIter it a i) where
 mem:=by simp
 obj:=fun i h st b hb=>by
  have e:b=it:=by simpa using hb
  subst e
  obtain⟨o,e,c,d⟩:=st
  exact⟨o,e,fun v z=>by rw[d]at z;cases z⟩
 keep:=fun i h h' st k=>st.at fun o e=>k it (by simp) o e
 item:=by
  intro X hP hw hK hc i pins s σ H E I hf st hg
  subst hP hw hK
  obtain⟨xs,x,hq,hx⟩:=hg
  obtain⟨its,rv,p,hz⟩:=I.list hq
  obtain⟨u,hu,ru⟩:=rv.get hx
  obtain⟨f0,f1,f2,f3,f4,f5⟩:=hf it (by simp)
  refine wpAny_pyNext_list_item st p.isList (x:=u) (by simpa using hu) fun h' st' sb=>?_
  have I1:Inv X pins σ H {s with heap:=h'}:=I.turned (t':=s.toks) (fun b o hb e=>(sb.2 b hb).trans e) f0 f1 f3 f4 f5
  obtain⟨o,e,c,d⟩:=id st'
  exact⟨u,rfl,B8 (s:={s with heap:=h'}) e c d (by decide) ⟨x,H,I1,ru,⟨rfl,fun ys hy=>by rw[I.list_inj hy hq];exact hx⟩,st',fun b hb=>(hf b hb).1⟩⟩
 done:=by
  intro X hP hw hK hc i pins s σ H E I hf st hg
  subst hP hw hK
  obtain⟨xs,hq,hx⟩:=hg
  obtain⟨its,rv,p,hz⟩:=I.list hq
  obtain⟨f0,f1,f2,f3,f4,f5⟩:=hf it (by simp)
  have hl:=rv.length
  exact wpAny_pyNext_list_end (I.ok.hd hc) st p.isList (by simp;omega) fun h' eb=>⟨rfl,I.turned (t':=s.toks) (fun b o hb e=>eb b o hb e) f0 f1 f3 f4 f5⟩
 self:=fun _ _ _ _ _ st h=>wpAny_pyIter_listiter st h
theorem DZ{P:Qc}{w:P8}{K:PM}{tg:PY}(it:PK)(lo:Int)(n:Nat):Turn P w K tg (Hy lo n) [it] it (fun i h=>IsRangeIter h it (lo+(i:Nat)*1) ((n:Int)-(i:Nat)) 1) where
 mem:=by simp
 obj:=fun i h st b hb=>by
  have e:b=it:=by simpa using hb
  subst e
  exact⟨_,st,fun v z=>by
   have z':TU _=SI v:=z
   cases z'⟩
 keep:=fun i h h' st k=>k it (by simp) _ st
 item:=by
  intro X hP hw hK hc i pins s σ H E I hf st hg
  subst hP hw hK
  obtain⟨f0,f1,f2,f3,f4,f5⟩:=hf it (by simp)
  have W:=Walks.range (prog:=X.prog) (w:=X.w) (I.ok.hd hc) it lo 1 n
  refine W.item i s _ _ hg st fun v h' tk hv st' kk=>?_
  obtain⟨t,rfl⟩:=hv
  have I1:Inv X pins σ H {s with heap:=h',toks:=tk}:=I.turned (fun b o hb e=>kk b o (by simpa using hb) e) f0 f1 f3 f4 f5
  refine⟨_,rfl,B8 (s:={s with heap:=h',toks:=tk}) (n:="range_iterator") st' rfl rfl (by decide) ⟨.int (lo+i),H,I1,⟨t,?_⟩,⟨rfl,rfl⟩,st',fun b hb=>(hf b hb).1⟩⟩
  rw[VM]
 done:=by
  intro X hP hw hK hc i pins s σ H E I hf st hg
  subst hP hw hK
  obtain⟨f0,f1,f2,f3,f4,f5⟩:=hf it (by simp)
  exact wpAny_pyNext_range_end (I.ok.hd hc) st (by have:n<=i:=hg;omega) fun h' eb=>⟨rfl,I.turned (t':=s.toks) (fun b o hb e=>eb b o hb e) f0 f1 f3 f4 f5⟩
 self:=fun _ _ _ _ _ st h=>wpAny_pyIter_rangeiter st h
section
variable {X:Cx}{tg:PY}
noncomputable def dv(K:PM)(tl:TE):TI:=fun σ H R=>tl σ H fun x H1=>∃a,x=.ref a/\(∃xs,aY K H1 a xs)/\R (HA K a) H1
theorem bX{l:PY}{tl:TE}(hl:PE X l tl):PI X tg l (dv X.K tl):=by
 intro pins s σ H R I h
 refine cI (hl pins s σ H _ I h) fun v s1 ⟨x,H1,I1,r1,q1⟩=>?_
 obtain⟨a,e,⟨xs,hq⟩,q⟩:=q1
 subst e
 cases r1
 obtain⟨its,rv,p,hz⟩:=I1.list hq
 refine U0 p.isList ?_
 refine⟨s1.heap.objs.size,[s1.heap.objs.size],_,_,H1,rfl,I1.kept (t':=s1.toks) fun b o e=>Qr _ e,FX a _,⟨_,Qz _ rfl,rfl,rfl⟩,fun b hb=>?_,q⟩
 have e:b=s1.heap.objs.size:=by simpa using hb
 subst e
 exact I1.fpOk (Qe _) (I1.hok.fresh (Qe _))
theorem B2{pins:List (PK×PV)}{σ:St}{H:Hp}{s:PN}{R:It->Hp->Prop}{E:PL->PN->Prop}{lo hi:Int}{t u v:Tok}{tk:Nat}(I:Inv X pins σ H s)(h1:-(2 ^ 62)<=lo)(h2:lo<2 ^ 62)(h3:-(2 ^ 62)<=hi)(h4:hi<2 ^ 62)
  (q:R (Hy lo (hi-lo).toNat) H):PQ (model X.prog X.w) X.A (pyIter (.ref s.heap.objs.size)) (Pq X pins σ tg R) E {s with heap:=s.heap.push {cls:=.type "range",data:=.fields #[.int lo t,.int hi u,.int 1 v]},toks:=tk}:=by
 refine wpAny_pyIter_range (ZD ..) (small_one h1 h2 h3 h4) ?_
 have I1:Inv X pins σ H {s with heap:=s.heap.push {cls:=.type "range",data:=.fields #[.int lo t,.int hi u,.int 1 v]},toks:=tk}:=I.kept fun b o e=>Qr _ e
 refine⟨(s.heap.push {cls:=.type "range",data:=.fields #[.int lo t,.int hi u,.int 1 v]}).objs.size,[(s.heap.push {cls:=.type "range",data:=.fields #[.int lo t,.int hi u,.int 1 v]}).objs.size],_,_,H,rfl,
  I1.kept (t':=tk) fun b o e=>Qr _ e,DZ _ lo (hi-lo).toNat,?_,fun b hb=>?_,q⟩
 ·have e1:lo+((0:Nat):Int)*1=lo:=by simp
  have e2:(((hi-lo).toNat:Nat):Int)-((0:Nat):Int)=aab lo hi 1:=by rw[rangeSize_one];split<;>omega
  show IsRangeIter _ _ (lo+((0:Nat):Int)*1) ((((hi-lo).toNat:Nat):Int)-((0:Nat):Int)) 1
  rw[e1,e2]
  exact Qz _ rfl
 ·have e:b=(s.heap.push {cls:=.type "range",data:=.fields #[.int lo t,.int hi u,.int 1 v]}).objs.size:=by simpa using hb
  subst e
  exact I1.fpOk (Qe _) (I1.hok.fresh (Qe _))
noncomputable def nK(ta:TA):TI:=fun σ H R=>ta σ H fun vs H1=>∃j:Int,vs=[.int j]/\-(2 ^ 62)<=j/\j<2 ^ 62/\R (Hy 0 j.toNat) H1
noncomputable def Fe(ta:TA):TI:=fun σ H R=>ta σ H fun vs H1=>∃i j:Int,vs=[.int i,.int j]/\(-(2 ^ 62)<=i/\i<2 ^ 62/\-(2 ^ 62)<=j/\j<2 ^ 62)/\R (Hy i (j-i).toNat) H1
theorem ed{a:PY}{ta:TA}{p pos:Qi}(hg:Gl X "range")(hm:X.mg "range"=none)(ha:PA X [a] ta)(hs:Qf [a] X.env=[(false,eval a X.env)]:=by rfl):PI X tg (.Call (.Name "range" p) [a] [] pos) (nK ta):=by
 intro pins s σ H R I h
 refine Call_ (jC I hg hm boot_range (Sy (cI (ha pos pins s σ H _ I h) fun us s1 ⟨vs,H1,I1,r1,q1⟩=>?_) hs rfl))
 obtain⟨j,e,q1,q2,q⟩:=q1
 subst e
 cases r1 with
 |cons r rr=>
  cases rr
  obtain⟨t,rfl⟩:=r
  exact call_range_1 (B2 I1 (by omega) (by omega) q1 q2 (by simpa using q))
theorem zG{a b:PY}{ta:TA}{p pos:Qi}(hg:Gl X "range")(hm:X.mg "range"=none)(ha:PA X [a,b] ta)(hs:Qf [a,b] X.env=[(false,eval a X.env),(false,eval b X.env)]:=by rfl)(hs2:Qf [b] X.env=[(false,eval b X.env)]:=by rfl):
  PI X tg (.Call (.Name "range" p) [a,b] [] pos) (Fe ta):=by
 intro pins s σ H R I h
 refine Call_ (jC I hg hm boot_range (Sy (cI (ha pos pins s σ H _ I h) fun us s1 ⟨vs,H1,I1,r1,q1⟩=>?_) (by rw[hs,hs2]) (by rw[hs2];rfl)))
 obtain⟨i,j,e,⟨q1,q2,q3,q4⟩,q⟩:=q1
 subst e
 cases r1 with
 |cons r rr=>
  cases rr with
  |cons r' rr=>
   cases rr
   obtain⟨t,rfl⟩:=r
   obtain⟨t',rfl⟩:=r'
   exact call_range_2 (B2 I1 q1 q2 q3 q4 q)
noncomputable def px(wi:TI)(g:TG)(tb:TS):TS:=fun D σ H=>wi σ H fun J H1=>∃W:Nat->Nat->St->Hp->Prop,(∃m,W 0 m σ H1)/\∀i m σ H,W i m σ H->
 (J.stop i H/\D.nx σ H)\/(J.go i H/\∃N:St->Hp->Prop,(∀σ' H',N σ' H'->∃m',m'<m/\W (i+1) m' σ' H')/\∀x H',J.yld i H x H'->g x σ H' fun σ2 H2=>tb {D with nx:=N,ct:=N,bk:=D.nx} σ2 H2)
noncomputable def xl(fp:List PK)(h:P0):List (PK×PV):=fp.filterMap fun b=>(h.get? b).map fun o=>(b,o)
theorem lG{fp:List PK}{h:P0}{b:PK}{o:PV}(hb:b∈fp)(e:h.get? b=some o):(b,o)∈xl fp h:=WX.mpr ⟨b,hb,by rw[e];rfl⟩
theorem Gb{fp:List PK}{h:P0}{p:PK×PV}(hp:p∈xl fp h):p.1∈fp/\h.get? p.1=some p.2:=by
 obtain⟨b,hb,e⟩:=WX.mp hp
 cases q:h.get? b with
 |none=>rw[q]at e;cases e
 |some o=>
  rw[q]at e
  have e':(b,o)=p:=QX e
  subst e'
  exact⟨hb,q⟩
theorem Inv.pinned{pins:List (PK×PV)}{σ:St}{H:Hp}{s:PN}{fp:List PK}(I:Inv X pins σ H s)(hf:∀b∈fp,qM X pins H b)(ho:∀b∈fp,∃o,s.heap.get? b=some o/\∀v,o.data≠.cell v):Inv X (pins++xl fp s.heap) σ H s:=
 I.pins_of fun p hp=>(QC.mp hp).elim (fun z=>I.pin p (Rk _ z)) fun z=>by
  obtain⟨hb,e⟩:=Gb z
  obtain⟨f0,f1,f2,_⟩:=hf p.1 hb
  obtain⟨o,e',d⟩:=ho p.1 hb
  rw[e]at e';cases e'
  exact⟨e,f0,f1,f2,d⟩
theorem Inv.unpinned{pins pl:List (PK×PV)}{σ:St}{H:Hp}{s:PN}(I:Inv X (pins++pl) σ H s):Inv X pins σ H s:=I.pins_of fun p hp=>I.pin p (Rk _ (S6 _ hp))
theorem gI{iter:PY}{body:List P5}{wi:TI}{g:TG}{tb:TS}{pos:Qi}(hp:PassesOwn (model X.prog X.w) X.A X.env X.xe)(hc:X.calm=true)(hi:PI X tg iter wi)(hg:PG X tg g)(hb:xI X body tb)
  (hs:∀x,foldedSetIterable iter X.env x=pure x:=by intro _;rfl):PS X (.For tg iter body [] pos) (px wi g tb):=by
 intro pins s σ H D I h
 refine wpAny_For (cI (hi pins s σ H _ I h) fun v s1 h1=>cI h1 fun itv s2 h2=>?_) hs
 obtain⟨it,fp,tn,J,H2,e,I2,T,st2,f2,W,⟨m0,w0⟩,turn⟩:=h2
 subst e
 have stat:∀{H':Hp},(∀b∈fp,H' b=none)->∀b∈fp,qM X pins H' b:=fun hn b hb=>⟨hn b hb,(f2 b hb).2⟩
 refine codeAny_forLoop_any (fun n s'=>∃i σ' H',Inv X pins σ' H' s'/\tn i s'.heap/\(∀b∈fp,H' b=none)/\W i n σ' H') ?_ m0 ⟨0,σ,H2,I2,st2,fun b hb=>(f2 b hb).1,w0⟩
 rintro n s3 ⟨i,σ3,H3,I3,st3,fr3,w3⟩
 rcases turn i n σ3 H3 w3 with⟨stop,qn⟩|⟨go,N,hN,step⟩
 ·refine SK hp (cI (T.done X rfl rfl rfl hc i pins s3 σ3 H3 X.xe I3 (stat fr3) st3 stop) fun r s4 ⟨hr,I4⟩=>?_)
  subst hr
  exact To ⟨σ3,H3,I4,qn⟩
 ·refine SK hp (cI (T.item X rfl rfl rfl hc i pins s3 σ3 H3 X.xe I3 (stat fr3) st3 go) fun r s4 ⟨u,hr,h4⟩=>?_)
  subst hr
  refine SK hp (cI h4 fun _ s5 ⟨x,H5,I5,r5,y5,st5,fr5⟩=>?_)
  have I5':=I5.pinned (stat fr5) (T.obj _ _ st5)
  refine SK hp (cI (hg _ s5 σ3 H5 x u _ I5' r5 (step x H5 y5)) fun _ s6 ⟨σ6,H6,I6,q6⟩=>?_)
  refine SK hp (cI (hb _ s6 σ6 H6 _ I6 q6) fun f s7 q7=>?_)
  have again:∀{σ7:St}{H7:Hp},Inv X (pins++xl fp s5.heap) σ7 H7 s7->N σ7 H7->∃m,m<n/\∃i σ' H',Inv X pins σ' H' s7/\tn i s7.heap/\(∀b∈fp,H' b=none)/\W i m σ' H':=fun {σ7 H7} I7 n7=>by
   obtain⟨m',hm,w7⟩:=hN σ7 H7 n7
   refine⟨m',hm,i+1,σ7,H7,I7.unpinned,T.keep _ _ _ st5 fun b hb o e=>(I7.pin (b,o) (Rk _ (Rk _ (lG hb e)))).1,fun b hb=>?_,w7⟩
   obtain⟨o,e,d⟩:=T.obj _ _ st5 b hb
   exact(I7.pin (b,o) (Rk _ (Rk _ (lG hb e)))).2.1
  cases f with
  |next=>obtain⟨σ7,H7,I7,n7⟩:=q7;exact again I7 n7
  |cont=>obtain⟨σ7,H7,I7,n7⟩:=q7;exact again I7 n7
  |brk=>obtain⟨σ7,H7,I7,q7⟩:=q7;exact⟨σ7,H7,I7.unpinned,q7⟩
  |ret v=>obtain⟨x7,σ7,H7,I7,r7,q7⟩:=q7;exact⟨x7,σ7,H7,I7.unpinned,r7,q7⟩
end
theorem Il{K:PM}{a:PK}{xs:List V}{g:TG}{tb:TS}{D:Ends}{σ:St}{H:Hp}(Pv:Nat->St->Hp->Prop)(h0:Pv 0 σ H)(hl:∀i σ H,i<=xs.length->Pv i σ H->aY K H a xs)
  (hs:∀i x σ H,xs[i]?=some x->Pv i σ H->g x σ H fun σ2 H2=>tb {D with nx:=Pv (i+1),ct:=Pv (i+1),bk:=D.nx} σ2 H2) (hd:∀σ H,Pv xs.length σ H->D.nx σ H):
  ∃W:Nat->Nat->St->Hp->Prop,(∃m,W 0 m σ H)/\∀i m σ H,W i m σ H->
   ((HA K a).stop i H/\D.nx σ H)\/((HA K a).go i H/\∃N:St->Hp->Prop,(∀σ' H',N σ' H'->∃m',m'<m/\W (i+1) m' σ' H')/\∀x H',(HA K a).yld i H x H'->g x σ H' fun σ2 H2=>tb {D with nx:=N,ct:=N,bk:=D.nx} σ2 H2):=by
 exists fun i m σ H=>m=xs.length-i/\i<=xs.length/\Pv i σ H,⟨xs.length,by simp,Q3 _,h0⟩
 rintro i m σ H ⟨rfl,hi,p⟩
 have q:=hl i σ H hi p
 by_cases hlt:i<xs.length
 ·refine .inr ⟨⟨xs,xs[i],q,by simp[hlt]⟩,Pv (i+1),fun σ' H' p'=>⟨xs.length-(i+1),by omega,rfl,hlt,p'⟩,fun x H' y=>?_⟩
  obtain⟨e,y⟩:=y
  subst e
  exact hs i x σ _ (y xs q) p
 ·have e:i=xs.length:=by omega
  subst e
  exact .inl ⟨⟨xs,q,Qe _⟩,hd σ H p⟩
theorem jU{lo:Int}{n:Nat}{g:TG}{tb:TS}{D:Ends}{σ:St}{H:Hp}(Pv:Nat->St->Hp->Prop)(h0:Pv 0 σ H)
  (hs:∀i σ H,i<n->Pv i σ H->g (.int (lo+i)) σ H fun σ2 H2=>tb {D with nx:=Pv (i+1),ct:=Pv (i+1),bk:=D.nx} σ2 H2) (hd:∀σ H,Pv n σ H->D.nx σ H):
  ∃W:Nat->Nat->St->Hp->Prop,(∃m,W 0 m σ H)/\∀i m σ H,W i m σ H->
   ((Hy lo n).stop i H/\D.nx σ H)\/((Hy lo n).go i H/\∃N:St->Hp->Prop,(∀σ' H',N σ' H'->∃m',m'<m/\W (i+1) m' σ' H')/\∀x H',(Hy lo n).yld i H x H'->g x σ H' fun σ2 H2=>tb {D with nx:=N,ct:=N,bk:=D.nx} σ2 H2):=by
 exists fun i m σ H=>m=n-i/\i<=n/\Pv i σ H,⟨n,by simp,Q3 _,h0⟩
 rintro i m σ H ⟨rfl,hi,p⟩
 by_cases hlt:i<n
 ·refine .inr ⟨hlt,Pv (i+1),fun σ' H' p'=>⟨n-(i+1),by omega,rfl,hlt,p'⟩,fun x H' y=>?_⟩
  obtain⟨e,y⟩:=y
  subst e y
  exact hs i σ _ hlt p
 ·have e:i=n:=by omega
  subst e
  exact .inl ⟨Qe _,hd σ H p⟩
noncomputable abbrev R2:=V->V->Hp->VK->Prop
noncomputable def iz(X:Cx)(f:PL->PL->Sem PL)(r:R2):Prop:=
 ∀(pins:List (PK×PV))(s:PN)(σ:St)(H:Hp)(x y:V)(v u:PL)(Q:VK),Inv X pins σ H s->RelV x v->RelV y u->r x y H Q->
  PQ (model X.prog X.w) X.A (f v u) (EP X pins σ Q) X.xe s
noncomputable def fw(X:Cx)(f:PL)(r:List V->Hp->VK->Prop):Prop:=
 ∀(pins:List (PK×PV))(s:PN)(σ:St)(H:Hp)(xs:List V)(us:List PL)(Q:VK),Inv X pins σ H s->bR xs us->r xs H Q->
  PQ (model X.prog X.w) X.A (call f us) (EP X pins σ Q) X.xe s
noncomputable def aN(r:R2)(ta tb:TE):TE:=fun σ H Q=>ta σ H fun x H1=>tb σ H1 fun y H2=>r x y H2 Q
noncomputable def rI(C:Int->Int->Prop)(g:Int->Int->V):R2:=fun x y H Q=>∃i j,x=.int i/\y=.int j/\C i j/\Q (g i j) H
noncomputable def Dl(g:Int->Int->V):R2:=fun x y H Q=>∃i j,x=.int i/\y=.int j/\Q (g i j) H
section
variable {X:Cx}{a b c:PY}{ta tb tc:TE}{pos:Qi}
theorem Mm(ha:PE X a ta)(hb:PE X b tb){pins:List (PK×PV)}{s:PN}{σ:St}{H:Hp}{R:V->V->Hp->Prop}(I:Inv X pins σ H s)
  (h:ta σ H fun x H1=>tb σ H1 fun y H2=>R x y H2) {Q:PL->PN->Prop}{f:PL->PL->Sem PL}
  (hf:∀v u s2 x y H2,Inv X pins σ H2 s2->RelV x v->RelV y u->R x y H2->PQ (model X.prog X.w) X.A (f v u) Q X.xe s2):
  PQ (model X.prog X.w) X.A (eval a X.env) (fun v s₁=>PQ (model X.prog X.w) X.A (eval b X.env) (fun u s₂=>PQ (model X.prog X.w) X.A (f v u) Q X.xe s₂) X.xe s₁) X.xe s:=by
 refine cI (ha pins s σ H _ I h) fun v s1 ⟨x,H1,I1,r1,q1⟩=>?_
 refine cI (hb pins s1 σ H1 _ I1 q1) fun u s2 ⟨y,H2,I2,r2,q2⟩=>?_
 exact hf v u s2 x y H2 I2 r1 r2 q2
theorem aA{op:Operator}{r:R2}(ho:iz X (Rr op) r)(ha:PE X a ta)(hb:PE X b tb):PE X (.BinOp a op b pos) (aN r ta tb):=by
 intro pins s σ H Q I h
 exact wpAny_BinOp (Mm ha hb I h fun v u s2 x y H2 I2 rx ry q=>ho pins s2 σ H2 x y v u Q I2 rx ry q)
theorem OS{f:PL->PL->Sem PL}{C:Int->Int->Prop}{g:Int->Int->Int}
  (rule:∀(i j:Int)(t u:Tok)(s:PN)(Q:PL->PN->Prop)(E:PL->PN->Prop),C i j->Q (.int (g i j) s.toks) {s with toks:=s.toks+1}->PQ (model X.prog X.w) X.A (f (.int i t) (.int j u)) Q E s):
  iz X f (rI C fun i j=>.int (g i j)):=by
 intro pins s σ H x y v u Q I rx ry h
 obtain⟨i,j,rfl,rfl,hc,q⟩:=h
 obtain⟨t,rfl⟩:=rx
 obtain⟨t',rfl⟩:=ry
 exact rule i j t t' s _ _ hc ⟨.int (g i j),H,I.tok _,⟨_,rfl⟩,q⟩
theorem Lw{f:PL->PL->Sem PL}{g:Int->Int->Int}
  (rule:∀(i j:Int)(t u:Tok)(s:PN)(Q:PL->PN->Prop)(E:PL->PN->Prop),Q (.int (g i j) s.toks) {s with toks:=s.toks+1}->PQ (model X.prog X.w) X.A (f (.int i t) (.int j u)) Q E s):
  iz X f (Dl fun i j=>.int (g i j)):=by
 intro pins s σ H x y v u Q I rx ry h
 obtain⟨i,j,rfl,rfl,q⟩:=h
 obtain⟨t,rfl⟩:=rx
 obtain⟨t',rfl⟩:=ry
 exact rule i j t t' s _ _ ⟨.int (g i j),H,I.tok _,⟨_,rfl⟩,q⟩
theorem Ld{f:PL->PL->Sem PL}{g:Int->Int->Bool}
  (rule:∀(i j:Int)(t u:Tok)(s:PN)(Q:PL->PN->Prop)(E:PL->PN->Prop),Q (.bool (g i j)) s->PQ (model X.prog X.w) X.A (f (.int i t) (.int j u)) Q E s):
  iz X f (Dl fun i j=>.bl (g i j)):=by
 intro pins s σ H x y v u Q I rx ry h
 obtain⟨i,j,rfl,rfl,q⟩:=h
 obtain⟨t,rfl⟩:=rx
 obtain⟨t',rfl⟩:=ry
 exact rule i j t t' s _ _ ⟨.bl (g i j),H,I,rfl,q⟩
noncomputable def Lz(i j:Int):Prop:=(-(2 ^ 64)<i/\i<2 ^ 64)\/(-(2 ^ 64)<j/\j<2 ^ 64)
theorem Lz.ok{i j:Int}(h:Lz i j):IntMulOk i j:=by
 rcases h with⟨h1,h2⟩|⟨h1,h2⟩
 ·exact .of_left (intBits_le_64 h1 h2)
 ·exact .of_right (intBits_le_64 h1 h2)
theorem Mb:iz X (Rr .Add) (Dl fun i j=>.int (i+j)):=Lw fun _ _ _ _ _ _ _ q=>add_int q
theorem M3:iz X (Rr .Sub) (Dl fun i j=>.int (i-j)):=Lw fun _ _ _ _ _ _ _ q=>sub_int q
theorem MY:iz X (Rr .Mod) (rI (fun _ j=>0<j) fun i j=>.int (i%j)):=OS fun i j _ _ _ _ _ hc q=>by
 have h1:(0:Int)<j:=hc
 exact mod_int' (by omega) (by rw[Int.fmod_eq_emod_of_nonneg i (by omega)];exact q)
theorem Lu:iz X (R9 .Add) (Dl fun i j=>.int (i+j)):=Lw fun _ _ _ _ _ _ _ q=>iadd_int q
theorem Ll:iz X (R9 .Sub) (Dl fun i j=>.int (i-j)):=Lw fun _ _ _ _ _ _ _ q=>isub_int q
end
noncomputable def OI:V->V->Bool
 |.non,.non=>true | .non,.int _=>true | .int _,.non=>true | .non,.bl _=>true | .bl _,.non=>true | .non,.str _=>true | .str _,.non=>true
 |.int _,.int _=>true | .bl _,.bl _=>true | .str _,.str _=>true | .byt _,.byt _=>true
 |.int _,.str _=>true | .str _,.int _=>true | .bl _,.str _=>true | .str _,.bl _=>true
 |_,_=>false
noncomputable def oC:R2:=fun x y H Q=>OI x y=true/\Q (.bl (decide (x=y))) H
noncomputable def LS:R2:=fun x y H Q=>OI x y=true/\Q (.bl (!decide (x=y))) H
theorem E7{i j:Int}:decide (V.int i=V.int j)=(i==j):=by
 rw[Rh]
 simp
theorem Jv{i j:Bool}:decide (V.bl i=V.bl j)=(i==j):=by
 rw[Rh]
 simp
theorem FK{i j:PH}:decide (V.str i=V.str j)=(i==j):=by
 rw[Rh]
 simp
theorem Fm{i j:Array UInt8}:decide (V.byt i=V.byt j)=(i.toList==j.toList):=by
 rw[Rh]
 cases i
 cases j
 simp
section
variable {X:Cx}{a b c:PY}{ta tb tc:TE}{pos:Qi}
theorem bV{pins:List (PK×PV)}{σ:St}{H:Hp}{s:PN}{Q:VK}{k k':Bool}(I:Inv X pins σ H s)(q:Q (.bl k) H)(e:k=k'):EP X pins σ Q (.bool k') s:=by
 subst e
 exact⟨.bl k,H,I,rfl,q⟩
theorem dc:iz X (QO .Eq) oC:=by
 intro pins s σ H x y v u Q I rx ry h
 obtain⟨hs,q⟩:=h
 cases x with
 |non=>
  cases rx
  cases y with
  |non=>cases ry;exact aaa (bV I q (by simp))
  |bl j=>cases ry;exact YY (bV I q (by simp))
  |int j=>obtain⟨t',rfl⟩:=ry;exact aax (bV I q (by simp))
  |str j=>obtain⟨t',rfl⟩:=ry;exact aaU (bV I q (by simp))
  |_=>exact absurd (show false=true from hs) QM
 |bl i=>
  cases rx
  cases y with
  |non=>cases ry;exact ZG (bV I q (by simp))
  |bl j=>cases ry;exact eq_bool (bV I q Jv)
  |str j=>obtain⟨t',rfl⟩:=ry;exact Zz (bV I q (by simp))
  |_=>exact absurd (show false=true from hs) QM
 |int i=>
  obtain⟨t,rfl⟩:=rx
  cases y with
  |non=>cases ry;exact aaB (bV I q (by simp))
  |int j=>obtain⟨t',rfl⟩:=ry;exact eq_int (bV I q E7)
  |str j=>obtain⟨t',rfl⟩:=ry;exact aaV (bV I q (by simp))
  |_=>exact absurd (show false=true from hs) QM
 |str i=>
  obtain⟨t,rfl⟩:=rx
  cases y with
  |non=>cases ry;exact Z1 (bV I q (by simp))
  |bl j=>cases ry;exact aaN (bV I q (by simp))
  |int j=>obtain⟨t',rfl⟩:=ry;exact Zw (bV I q (by simp))
  |str j=>obtain⟨t',rfl⟩:=ry;exact eq_str (bV I q FK)
  |_=>exact absurd (show false=true from hs) QM
 |byt i=>
  obtain⟨t,rfl⟩:=rx
  cases y with
  |byt j=>obtain⟨t',rfl⟩:=ry;exact aaq (bV I q Fm)
  |_=>exact absurd (show false=true from hs) QM
 |_=>cases y<;>exact absurd (show false=true from hs) QM
theorem Ft:iz X (QO .NotEq) LS:=by
 intro pins s σ H x y v u Q I rx ry h
 obtain⟨hs,q⟩:=h
 cases x with
 |non=>
  cases rx
  cases y with
  |non=>cases ry;exact aaC (bV I q (by simp))
  |bl j=>cases ry;exact YZ (bV I q (by simp))
  |int j=>obtain⟨t',rfl⟩:=ry;exact YX (bV I q (by simp))
  |str j=>obtain⟨t',rfl⟩:=ry;exact aaW (bV I q (by simp))
  |_=>exact absurd (show false=true from hs) QM
 |bl i=>
  cases rx
  cases y with
  |non=>cases ry;exact ZY (bV I q (by simp))
  |bl j=>cases ry;exact ne_bool (bV I q (congrArg not Jv))
  |str j=>obtain⟨t',rfl⟩:=ry;exact Y4 (bV I q (by simp))
  |_=>exact absurd (show false=true from hs) QM
 |int i=>
  obtain⟨t,rfl⟩:=rx
  cases y with
  |non=>cases ry;exact ZR (bV I q (by simp))
  |int j=>obtain⟨t',rfl⟩:=ry;exact ne_int (bV I q (congrArg not E7))
  |str j=>obtain⟨t',rfl⟩:=ry;exact ZI (bV I q (by simp))
  |_=>exact absurd (show false=true from hs) QM
 |str i=>
  obtain⟨t,rfl⟩:=rx
  cases y with
  |non=>cases ry;exact Z5 (bV I q (by simp))
  |bl j=>cases ry;exact Y0 (bV I q (by simp))
  |int j=>obtain⟨t',rfl⟩:=ry;exact aad (bV I q (by simp))
  |str j=>obtain⟨t',rfl⟩:=ry;exact ne_str (bV I q (congrArg not FK))
  |_=>exact absurd (show false=true from hs) QM
 |byt i=>
  obtain⟨t,rfl⟩:=rx
  cases y with
  |byt j=>obtain⟨t',rfl⟩:=ry;exact ZH (bV I q (congrArg not Fm))
  |_=>exact absurd (show false=true from hs) QM
 |_=>cases y<;>exact absurd (show false=true from hs) QM
theorem N5:iz X (QO .Lt) (Dl fun i j=>.bl (decide (i<j))):=Ld fun _ _ _ _ _ _ _ q=>lt_int q
theorem Ob:iz X (QO .LtE) (Dl fun i j=>.bl (decide (i<=j))):=Ld fun _ _ _ _ _ _ _ q=>le_int q
theorem N3:iz X (QO .Gt) (Dl fun i j=>.bl (decide (j<i))):=Ld fun _ _ _ _ _ _ _ q=>gt_int q
theorem OF:iz X (QO .GtE) (Dl fun i j=>.bl (decide (j<=i))):=Ld fun _ _ _ _ _ _ _ q=>ge_int q
theorem Ht:iz X (QO .In) (fun x y H Q=>∃i j,x=.str i/\y=.str j/\Q (.bl (!(Ua j i 0 j.length 1).isEmpty)) H):=by
 intro pins s σ H x y v u Q I rx ry h
 obtain⟨i,j,rfl,rfl,q⟩:=h
 obtain⟨t,rfl⟩:=rx
 obtain⟨t',rfl⟩:=ry
 exact in_str (bV I q rfl)
theorem EE:iz X (QO .Is) (fun x y H Q=>y=.non/\Q (.bl (decide (x=.non))) H):=by
 intro pins s σ H x y v u Q I rx ry h
 obtain⟨rfl,q⟩:=h
 cases ry
 refine is_none_gen (bV I q ?_)
 cases x<;>first
  |(cases rx;rfl)
  |(obtain⟨t,rfl⟩:=rx;rfl)
theorem FI:iz X (QO .IsNot) (fun x y H Q=>y=.non/\Q (.bl (!decide (x=.non))) H):=by
 intro pins s σ H x y v u Q I rx ry h
 obtain⟨rfl,q⟩:=h
 cases ry
 refine isnot_none_gen (bV I q ?_)
 cases x<;>first
  |(cases rx;rfl)
  |(obtain⟨t,rfl⟩:=rx;rfl)
theorem bg(b:PY){op:CmpOp}(h:op≠.In:=by decide)(h2:op≠.NotIn:=by decide):T8 op b=false:=by
 have e1:(op==CmpOp.In)=false:=by cases op<;>first|rfl|exact absurd rfl h
 have e2:(op==CmpOp.NotIn)=false:=by cases op<;>first|rfl|exact absurd rfl h2
 cases b<;>simp[T8,e1,e2]
theorem rL{op:CmpOp}{r:R2}(ho:iz X (QO op) r)(ha:PE X a ta)(hb:PE X b tb)(hm:T8 op b=false):PE X (.Compare a [op] [b] pos) (aN r ta tb):=by
 intro pins s σ H Q I h
 exact wpAny_Compare1 (Mm ha hb I h fun v u s2 x y H2 I2 rx ry q=>ho pins s2 σ H2 x y v u Q I2 rx ry q) hm
noncomputable def bA(t:TE):TT:=fun σ H Q=>t σ H fun x H'=>∃k,x=.bl k/\Q k H'
theorem aJ{op:CmpOp}{r:R2}(ho:iz X (QO op) r)(ha:PE X a ta)(hb:PE X b tb)(hm:T8 op b=false):PT X (.Compare a [op] [b] pos) (bA (aN r ta tb)):=by
 intro pins s σ H Q I h
 refine wpAny_isTrue_Compare1 (cI (ha pins s σ H _ I h) fun v s1 ⟨x,H1,I1,r1,q1⟩=>cI (hb pins s1 σ H1 _ I1 q1) fun u s2 ⟨y,H2,I2,r2,q2⟩=>
  cI (ho pins s2 σ H2 x y v u _ I2 r1 r2 q2) fun c s3 ⟨z,H3,I3,r3,k,e,q3⟩=>?_) hm
 subst e
 cases r3
 exact Tv ⟨H3,I3,q3⟩
noncomputable def Bi(r r':R2)(ta tb tc:TE):TE:=fun σ H Q=>ta σ H fun x H1=>tb σ H1 fun y H2=>r x y H2 fun z H3=>∃k,z=.bl k/\
 (if k=true then tc σ H3 fun w' H4=>r' y w' H4 Q else Q (.bl false) H3)
theorem CD{op op':CmpOp}{r r':R2}(ho:iz X (QO op) r)(ho':iz X (QO op') r')(ha:PE X a ta)(hb:PE X b tb)(hc:PE X c tc)
  (hm:lastMarks [op,op'] [b,c]=false:=by with_unfolding_all rfl):PE X (.Compare a [op,op'] [b,c] pos) (Bi r r' ta tb tc):=by
 intro pins s σ H Q I h
 refine Compare_chain (cI (ha pins s σ H _ I h) fun v s1 ⟨x,H1,I1,r1,q1⟩=>chain_link (cI (hb pins s1 σ H1 _ I1 q1) fun u s2 ⟨y,H2,I2,r2,q2⟩=>
  cI (ho pins s2 σ H2 x y v u _ I2 r1 r2 q2) fun d s3 ⟨z,H3,I3,r3,k,e,q3⟩=>?_)) hm
 subst e
 cases r3
 refine Tv ?_
 cases k with
 |false=>exact ite_ff ⟨.bl false,H3,I3,rfl,q3⟩
 |true=>exact ite_tt (chain_last (cI (hc pins s3 σ H3 _ I3 q3) fun w' s4 ⟨z',H4,I4,r4,q4⟩=>ho' pins s4 σ H4 y z' u w' Q I4 r2 r4 q4))
theorem wB:(PZ:Nat)<2 ^ 63:=by rw[sizeLine_eq];decide
theorem Ex:iz X (Rr .Add) (fun x y H Q=>∃i j,x=.str i/\y=.str j/\i.length+j.length<=PZ/\Q (.str (i++j)) H):=by
 intro pins s σ H x y v u Q I rx ry h
 obtain⟨i,j,rfl,rfl,hz,q⟩:=h
 obtain⟨t,rfl⟩:=rx
 obtain⟨t',rfl⟩:=ry
 exact add_str (fun t' tk=>⟨.str (i++j),H,I.tok _,⟨_,rfl⟩,q⟩) hz
theorem vals1{x:V}{us:List PL}(r:bR [x] us):∃u,us=[u]/\RelV x u:=by
 cases r with
 |cons r1 r2=>cases r2;exact⟨_,rfl,r1⟩
theorem vals2{x y:V}{us:List PL}(r:bR [x,y] us):∃u w',us=[u,w']/\RelV x u/\RelV y w':=by
 cases r with
 |cons r1 r2=>
  cases r2 with
  |cons r3 r4=>cases r4;exact⟨_,_,rfl,r1,r3⟩
theorem GB(hc:X.calm=true):fw X (.builtin "min") (fun xs H Q=>∃i j,xs=[.int i,.int j]/\Q (.int (if j<i then j else i)) H):=by
 intro pins s σ H xs us Q I r h
 obtain⟨i,j,rfl,q⟩:=h
 obtain⟨u,w',rfl,⟨t,rfl⟩,⟨t',rfl⟩⟩:=vals2 r
 refine min_two_ints (I.ok.hd hc) fun h' tk k=>⟨_,H,I.kept k,?_,q⟩
 by_cases hj:j<i
 ·rw[if_pos hj,if_pos hj];exact⟨_,rfl⟩
 ·rw[if_neg hj,if_neg hj];exact⟨_,rfl⟩
theorem A5:fw X (.type "str") (fun xs H Q=>∃i,xs=[.int i]/\i.natAbs.log2<1920/\Q (.str (toString i)) H):=by
 intro pins s σ H xs us Q I r h
 obtain⟨i,rfl,hz,q⟩:=h
 obtain⟨u,rfl,t,rfl⟩:=vals1 r
 exact aaj hz ⟨.str _,H,I.tok _,⟨_,rfl⟩,q⟩
end
structure DY(h:P0)(x dx C:PK)(mA:PH->Option PL):Prop where
 obj:h.get? x=some (SA C dx)
 ns:h.Ns1 dx mA
 ne:dx≠x
theorem Gi{h:P0}{dx:PK}{mA:PH->Option PL}(n:h.Ns1 dx mA):∃od,h.get? dx=some od/\∀name,Uy name od=some (mA name):=by
 obtain⟨o,es,ep,ho,hd,hk,_,hm⟩:=n
 refine⟨o,ho,fun name=>?_⟩
 have e:=hm name
 unfold nsFind findBy at e
 rw[<-Array.find?_toList]at e
 unfold Uy
 rw[hd]
 dsimp only
 split
 ·rename_i y q
  rw[q]at e
  exact congrArg some e
 ·rename_i q
  rw[q]at e
  have a:es.toList.any (·.refKey)=false:=by
   rw[List.any_eq_false]
   intro y hy
   obtain⟨z,t,hkey⟩:=hk y (Yn.mp hy)
   simp[aaL,hkey]
  have a':¬es.toList.any (·.refKey)=true:=by rw[a];exact QM
  rw[if_neg a']
  exact congrArg some e
theorem DY.look{h:P0}{x dx C:PK}{mA:PH->Option PL}(I:DY h x dx C mA):∃od,S3 h x (SA C dx) C (some od)/\∀name,Uy name od=some (mA name):=
 let ⟨od,ho,hl⟩:=Gi I.ns
 ⟨od,⟨I.obj,rfl,rfl,ho⟩,hl⟩
section
variable {prog:Qc}{w:P8}{A:Qg}{E:PL->PN->Prop}{s:PN}{K:PM}{x dx C f:PK}{mA:PH->Option PL}{name:PH}{v:PL}
theorem get_map{expr:Bool}{Q:PL->PN->Prop}(X:K.In s.heap)(I:DY s.heap x dx C mA)(hg:Ur K C name=true)(hh:U5 K C=true)
  (ha:Q7 K (.ref C) name=some none) (hv:mA name=some v) (hv':YE v=true) (h:Q v {s with toks:=s.toks+1}):
  PQ (model prog w) A (getAttr (.ref x) name expr) Q E s:=by
 obtain⟨od,J,hl⟩:=I.look
 exact Z2 X J (VU hg).1 (aau hh ha rfl (by rw[hl,hv])) hv' h
theorem HL{pl:Sem Bool}{Q:PL×List PL->PN->Prop}(X:K.In s.heap)(I:DY s.heap x dx C mA)(hg:Ur K C name=true)
  (hf:Q7 K (.ref C) name=some (some (.ref f))) (ht:UQ K (.ref f)=true) (hv:mA name=none) (h:Q (.ref f,[.ref x]) s):
  PQ (model prog w) A (RZ (.ref x) name pl) Q E s:=by
 obtain⟨od,J,hl⟩:=I.look
 exact Y1 X J (VU hg).1 (VU hg).2 hf (beq_iff_eq.mp ht) (by show(Uy name od).map (·.isSome)=some false;rw[hl,hv];rfl) h
theorem KH{ns:List PH}{Q:Unit->PN->Prop}(X:K.In s.heap)(I:DY s.heap x dx C mA)
  (hs:Q7 K (.ref C) "__setattr__"=some (some (.builtin "object.__setattr__"))) (hp:Vq K C=true) (ht:Vj K C name=some none) (hh:U5 K C=true)
  (hw:Vp mA ns) (hsz:ns.length<=PZ)
  (h:∀h',DY h' x dx C (fun y=>if y=name then some v else mA y)->RY dx s.heap h'->Q () {s with heap:=h',toks:=s.toks+2}):
  PQ (model prog w) A (setAttr (.ref x) name v) Q E s:=by
 obtain⟨od,J,hl⟩:=I.look
 refine aaI X J hs (aaA (s:={s with toks:=s.toks+1}) (r:=none) X J hp ht fun b=>?_)
 obtain⟨cd,hc,hd'⟩:=Y8 hh
 have hx:s.heap.get? x=some ⟨.ref C,some dx,.plain,#[]⟩:=I.obj
 refine PR (Qh (PR (PR (wpAny_loadPart hx (PR (aac (s:={s with toks:=s.toks+1}) (Zg X hc) ?_))))))
 rw[hd']
 refine Qh (a:=some dx) (PR (Qh (PR ?_)))
 refine wpAny_nsSet1 (s:={s with toks:=s.toks+1}) I.ns fun h' hn2 hs2=>?_
 obtain⟨oD,esD,epD,hoD,hdD,hcD⟩:=hn2.count (aaQ name v hw)
 refine PR (wpAny_lookBehind hoD (by rw[hdD];exact pastItsLine_dict (P6 hcD (by rw[QU];omega))) ?_)
 exact Qh (h _ ⟨(hs2.2 _ (Qy I.ne)).trans I.obj,hn2,I.ne⟩ hs2)
theorem IA{R:Result->PN->Prop}{vs:List PL}{kw:List (PH×PL)}(X:K.In s.heap)(hm:Vb K C=true)
  (hi:Q7 K (.ref C) "__init__"=some (some (.ref f))) (hf:Vi K (.ref f)=some (.type "function"))
  (h:RU (model prog w) (A.under (.builtin "type.__call__" ⟨.ref C::vs,kw⟩)) (.call (.ref f) ⟨.ref (s.heap.objs.size+1)::vs,kw⟩) (ZF (s.heap.objs.size+1) R)
   {s with heap:=(s.heap.push Si).push (SA C s.heap.objs.size)}):
  RU (model prog w) A (.call (.ref C) ⟨vs,kw⟩) R s:=by
 obtain⟨hh,g,d,t,os⟩:=s
 exact Za (Y7 X hm) (aaH X hi) (fun self=>aaJ X self hf) (.inl rfl) h
end
noncomputable def cj(f:PH)(v:V):List (PH×V)->List (PH×V)
 |[]=>[(f,v)]
 |(g,x)::r=>if g=f then(g,v)::r else(g,x)::cj f v r
theorem tz(f g:PH)(v:V):∀fs:List (PH×V),(cj f v fs).lookup g=if g=f then some v else fs.lookup g
 |[]=>by
  show Ri g [(f,v)]=_
  by_cases h:g=f
  ·have hb:(g==f)=true:=beq_iff_eq.mpr h
   simp only[Ri,hb,if_pos h]
  ·have hb:(g==f)=false:=beq_eq_false_iff_ne.mpr h
   simp only[Ri,hb,if_neg h]
 |(k,x)::r=>by
  have ih:=tz f g v r
  rw[show cj f v ((k,x)::r)=(if k=f then(k,v)::r else(k,x)::cj f v r)from rfl]
  by_cases hk:k=f
  ·rw[if_pos hk]
   by_cases h:g=k
   ·have hb:(g==k)=true:=beq_iff_eq.mpr h
    simp only[Ri,hb,if_pos (h.trans hk)]
   ·have hb:(g==k)=false:=beq_eq_false_iff_ne.mpr h
    simp only[Ri,hb,if_neg (fun e:g=f=>h (e.trans hk.symm))]
  ·rw[if_neg hk]
   by_cases h:g=k
   ·have hb:(g==k)=true:=beq_iff_eq.mpr h
    simp only[Ri,hb,if_neg (fun e:g=f=>hk (h.symm.trans e))]
   ·have hb:(g==k)=false:=beq_eq_false_iff_ne.mpr h
    simp only[Ri,hb]
    exact ih
theorem sL(f:PH)(v:V):∀fs:List (PH×V),f∈(cj f v fs).map (·.1)/\∀g,g∈fs.map (·.1)->g∈(cj f v fs).map (·.1)
 |[]=>⟨by simp[cj],fun g h=>by simp at h⟩
 |(k,x)::r=>by
  obtain⟨i1,i2⟩:=sL f v r
  rw[show cj f v ((k,x)::r)=(if k=f then(k,v)::r else(k,x)::cj f v r)from rfl]
  by_cases hk:k=f
  ·rw[if_pos hk]
   subst hk
   exact⟨by simp,fun g h=>by simpa using h⟩
  ·rw[if_neg hk]
   refine⟨?_,fun g h=>?_⟩
   ·rw[Qu]
    exact Qs _ i1
   ·rw[Qu]at h ⊢
    rcases Qb.mp h with e|e
    ·exact Qb.mpr (.inl e)
    ·exact Qs _ (i2 g e)
theorem tu(f:PH)(v:V):∀fs:List (PH×V),(cj f v fs).length<=fs.length+1
 |[]=>by simp[cj]
 |(k,x)::r=>by
  have ih:=tu f v r
  rw[show cj f v ((k,x)::r)=(if k=f then(k,v)::r else(k,x)::cj f v r)from rfl]
  by_cases hk:k=f
  ·rw[if_pos hk,QU,QU];omega
  ·rw[if_neg hk,QU,QU];omega
theorem mY.some_of{v:V}{o:Option PL}(r:mY (some v) o):∃u,o=some u/\RelV v u:=by
 cases o with
 |none=>exact(show False from r).elim
 |some u=>exact⟨u,rfl,r⟩
theorem mY.none_of{o:Option PL}(r:mY none o):o=none:=by
 cases o with
 |none=>rfl
 |some u=>exact(show False from r).elim
theorem G4{v:V}{u:PL}(r:RelV v u):YE u=true:=by
 cases v with
 |non=>cases(show u=Rf from r);rfl
 |bl b=>cases(show u=Sl b from r);rfl
 |int i=>obtain⟨t,e⟩:=(show ∃t,u=R4 i t from r);cases e;rfl
 |str x=>obtain⟨t,e⟩:=(show ∃t,u=S4 x t from r);cases e;rfl
 |byt b=>obtain⟨t,e⟩:=(show ∃t,u=XT b t from r);cases e;rfl
 |flt b=>obtain⟨t,e⟩:=(show ∃t,u=XC b t from r);cases e;rfl
 |ref a=>cases(show u=Qo a from r);rfl
 |ty n=>cases(show u=VF n from r);rfl
section
variable {P:Qc}{w:P8}{H H':Hp}{h h':P0}{a C dx:PK}{fs fs':List (PH×V)}
theorem A9(hok:oy P w H h)(e:H a=some (.ins C dx fs)):∃mA,DY h a dx C mA/\(∀f,mY (fs.lookup f) (mA f))/\Vp mA (fs.map (·.1))/\fs.length<=1000/\H dx=some (.own a):=by
 obtain⟨d,z,ne,ob,mA,n,r,q⟩:=(show c9 P w H h a (.ins C dx fs)from hok a _ e)
 exact⟨mA,⟨ob,n,ne⟩,r,q,z,d⟩
end
structure gT(K:PM)(C:PK):Prop where
 pg:Ur K C Qp=true
 hd:U5 K C=true
 po:Vq K C=true
 sa:Q7 K (.ref C) "__setattr__"=some (some (.builtin "object.__setattr__"))
theorem gT.get{K:PM}{C:PK}(c:gT K C)(f:PH):Ur K C f=true:=c.pg
noncomputable def df(K:PM)(C:PK)(f:PH):Prop:=Q7 K (.ref C) f=some none
theorem df.taker{K:PM}{C:PK}{f:PH}(n:df K C f):Vj K C f=some none:=by
 unfold Vj
 rw[show Q7 K (.ref C) f=some none from n]
 rfl
structure Gn(K:PM)(C:PK)(m:PH)(f:PK):Prop where
 at_:Q7 K (.ref C) m=some (some (.ref f))
 fn:UQ K (.ref f)=true
 kp:RW K (.ref f)=true
section
variable {X:Cx}{pins:List (PK×PV)}{σ:St}{H:Hp}{s:PN}{a C dx:PK}{fs:List (PH×V)}{f:PH}{v:V}{A:Qg}{E:PL->PN->Prop}
theorem xw{b:Bool}{Q:PL->PN->Prop}(I:Inv X pins σ H s)(e:H a=some (.ins C dx fs))(c:gT X.K C)(n:df X.K C f)(l:fs.lookup f=some v)
  (h:∀u s',Inv X pins σ H s'->RelV v u->Q u s'):PQ (model X.prog X.w) A (getAttr (.ref a) f b) Q E s:=by
 obtain⟨mA,O,r,_,_,_⟩:=A9 I.hok e
 obtain⟨u,hu,ru⟩:=mY.some_of (v:=v) (o:=mA f) (by rw[<-l];exact r f)
 exact get_map I.kIn O (c.get f) c.hd n hu (G4 ru) (h u _ (I.tok _) ru)
theorem kT{m:PH}{g:PK}{pl:Sem Bool}{Q:PL×List PL->PN->Prop}(I:Inv X pins σ H s)(e:H a=some (.ins C dx fs))(c:gT X.K C)(k:Gn X.K C m g)(l:fs.lookup m=none)
  (h:Q (.ref g,[.ref a]) s):PQ (model X.prog X.w) A (RZ (.ref a) m pl) Q E s:=by
 obtain⟨mA,O,r,_,_,_⟩:=A9 I.hok e
 have hn:mA m=none:=mY.none_of (by rw[<-l];exact r m)
 exact HL I.kIn O (c.get m) k.at_ k.fn hn h
theorem vN{y:V}{u:PL}{Q:Unit->PN->Prop}(I:Inv X pins σ H s)(e:H a=some (.ins C dx fs))(c:gT X.K C)(n:df X.K C f)(hl:fs.length<1000)(ry:RelV y u)
  (h:∀s',Inv X pins σ (upd H a (.ins C dx (cj f y fs))) s'->Q () s'):PQ (model X.prog X.w) A (setAttr (.ref a) f u) Q E s:=by
 obtain⟨mA,O,r,wi,_,ho⟩:=A9 I.hok e
 have hz:(fs.map (·.1)).length<=PZ:=by rw[P7,sizeLine_eq];omega
 refine KH I.kIn O c.sa c.po n.taker c.hd wi hz fun h' O' sb=>h _ ?_
 have hd:∃o,h'.get? dx=some o:=let ⟨o,_,_,e',_⟩:=O'.ns;⟨o,e'⟩
 refine I.write (x:=a) (e:=dx) (by rw[e];exact SE) (.inr ho) (fun b q hb z=>(sb.2 b hb).trans z) hd ?_
 refine⟨by rw[ak O.ne];exact ho,?_,O.ne,O'.obj,_,O'.ns,fun g=>?_,fun g hg=>?_⟩
 ·have:=tu f y fs;omega
 ·show mY ((cj f y fs).lookup g) (if g=f then some u else mA g)
  rw[tz]
  by_cases q:g=f
  ·rw[if_pos q,if_pos q];exact ry
  ·rw[if_neg q,if_neg q];exact r g
 ·by_cases q:g=f
  ·rw[q];exact(sL f y fs).1
  ·refine(sL f y fs).2 g (wi g fun z=>hg ?_)
   show(if g=f then some u else mA g)=none
   rw[if_neg q];exact z
theorem Inv.made(I:Inv X pins σ H s):Inv X pins σ (upd (upd H s.heap.objs.size (.own (s.heap.objs.size+1))) (s.heap.objs.size+1) (.ins C s.heap.objs.size []))
  {s with heap:=(s.heap.push Si).push (SA C s.heap.objs.size)}:=by
 have e1:(s.heap.push Si).get? s.heap.objs.size=some Si:=Qz s.heap rfl
 have e2:((s.heap.push Si).push (SA C s.heap.objs.size)).get? (s.heap.objs.size+1)=some (SA C s.heap.objs.size):=by
  have:=Qz (s.heap.push Si) (o:=SA C s.heap.objs.size) rfl
  rwa [Rx]at this
 have e3:(s.heap.push Si).Ns s.heap.objs.size (fun _=>none):=⟨Si,#[],_,e1,rfl,(fun e he=>absurd he (by simp)),fun _=>rfl⟩
 have I1:=I.laid (a:=s.heap.objs.size) (o:=.own (s.heap.objs.size+1)) (h':=s.heap.push Si) (t':=s.toks) (fun b u q=>Qr _ q) (Qe _) ⟨_,e1⟩
 refine I1.laid (a:=s.heap.objs.size+1) (o:=.ins C s.heap.objs.size []) (t':=s.toks) (fun b u q=>Qr _ q) (Th (Rx _ _)) ?_
 have ne:s.heap.objs.size≠s.heap.objs.size+1:=Qt (U9 _)
 refine⟨by rw[ak ne,ax],Q3 _,ne,e2,fun _=>none,(Zp e3).at fun o q=>Qr _ q,fun _=>SE,fun y hy=>absurd rfl hy⟩
theorem Ky{prog:Qc}{w:P8}{env:Qq}{e:PY}{f:PH}{pos:Qi}{s:PN}{Q:PL->PN->Prop}(hb:SO e f env (eval e env)=eval e env)
  (h:PQ (model prog w) A (eval e env) (fun o s₁=>PQ (model prog w) A (getAttr o f true) Q E s₁) E s):PQ (model prog w) A (eval (.Attribute e f pos) env) Q E s:=
 Attribute_any_ h (by rw[arm_eval_Attribute,hb])
end
noncomputable def c7(K:PM)(ta:TE)(f:PH):TE:=fun σ H Q=>ta σ H fun x H1=>∃a C dx fs v,x=.ref a/\H1 a=some (.ins C dx fs)/\gT K C/\df K C f/\fs.lookup f=some v/\Q v H1
noncomputable def rG(K:PM)(ta tv:TE)(f:PH):TS:=fun D σ H=>tv σ H fun y H1=>ta σ H1 fun x H2=>∃a C dx fs,x=.ref a/\H2 a=some (.ins C dx fs)/\gT K C/\df K C f/\fs.length<1000/\
 D.nx σ (upd H2 a (.ins C dx (cj f y fs)))
noncomputable def Mi(X:Cx)(op:Operator)(rd:V->V->Hp->VK->Prop):Prop:=
 ∀(pins:List (PK×PV))(s:PN)(σ:St)(H:Hp)(x y:V)(u v:PL)(Q:VK),Inv X pins σ H s->RelV x u->RelV y v->rd x y H Q->PQ (model X.prog X.w) X.A (R9 op u v) (EP X pins σ Q) X.xe s
noncomputable def ju(K:PM)(ta tv:TE)(rd:V->V->Hp->VK->Prop)(f:PH):TS:=fun D σ H=>ta σ H fun x H1=>∃a C dx fs v,x=.ref a/\H1 a=some (.ins C dx fs)/\gT K C/\df K C f/\fs.lookup f=some v/\
 tv σ H1 fun y H2=>rd v y H2 fun z H3=>∃dx' fs',H3 a=some (.ins C dx' fs')/\fs'.length<1000/\D.nx σ (upd H3 a (.ins C dx' (cj f z fs')))
section
variable {X:Cx}{o e value:PY}{f:PH}{pos pos' tpos:Qi}{ta tv:TE}
theorem bC(he:PE X e ta)(hb:SO e f X.env (eval e X.env)=eval e X.env):PE X (.Attribute e f pos) (c7 X.K ta f):=by
 intro pins s σ H Q I h
 refine Ky hb (cI (he pins s σ H _ I h) fun u s1 ⟨x,H1,I1,rx,a,C,dx,fs,v,ex,ea,c,n,l,q⟩=>?_)
 subst ex
 obtain rfl:u=Qo a:=rx
 exact xw I1 ea c n l fun u' s2 I2 ru=>⟨v,H1,I2,ru,q⟩
theorem gJ(ha:PE X o ta)(hv:PE X value tv)(hs:swapsWith value (some (.Attribute o f pos')) pos.line X.env=pure false):PS X (.Assign [.Attribute o f pos'] value pos) (rG X.K ta tv f):=by
 intro pins s σ H D I h
 refine plainObj_wpAny_Assign_Attribute (cI (hv pins s σ H _ I h) fun u s1 ⟨y,H1,I1,ry,q⟩=>cI (ha pins s1 σ H1 _ I1 q) fun ov s2 ⟨x,H2,I2,rx,a,C,dx,fs,ex,ea,c,n,l,q2⟩=>?_) hs
 subst ex
 obtain rfl:ov=Qo a:=rx
 exact vN I2 ea c n l ry fun s3 I3=>⟨σ,_,I3,q2⟩
theorem ig{op:Operator}{rd:V->V->Hp->VK->Prop}(ha:PE X o ta)(hv:PE X value tv)(hop:Mi X op rd):PS X (.AugAssign (.Attribute o f tpos) op value pos) (ju X.K ta tv rd f):=by
 intro pins s σ H D I h
 refine wpAny_AugAssign_AttributeAny (cI (ha pins s σ H _ I h) fun ov s1 ⟨x,H1,I1,rx,a,C,dx,fs,v,ex,ea,c,n,l,q⟩=>?_)
 subst ex
 obtain rfl:ov=Qo a:=rx
 refine xw I1 ea c n l fun u s2 I2 ru=>cI (hv pins s2 σ H1 _ I2 q) fun w3 s3 ⟨y,H2,I3,ry,q3⟩=>cI (hop pins s3 σ H2 v y u w3 _ I3 ru ry q3) fun w4 s4 ⟨z,H3,I4,rz,dx',fs',ea',l',q4⟩=>?_
 exact vN I4 ea' c n l' rz fun s5 I5=>⟨σ,_,I5,q4⟩
noncomputable def F4:V->V->Hp->VK->Prop:=fun x y H Q=>∃i j,x=.int i/\y=.int j/\Q (.int (i+j)) H
noncomputable def NL:V->V->Hp->VK->Prop:=fun x y H Q=>∃i j,x=.int i/\y=.int j/\Q (.int (i-j)) H
theorem xH:Mi X .Add F4:=by
 rintro pins s σ H x y u v Q I rx ry ⟨i,j,rfl,rfl,q⟩
 obtain⟨t,rfl⟩:=(show ∃t,u=R4 i t from rx)
 obtain⟨t',rfl⟩:=(show ∃t',v=R4 j t' from ry)
 exact ZN ⟨.int (i+j),H,I.tok _,⟨_,rfl⟩,q⟩
theorem Nh:Mi X .Sub NL:=by
 rintro pins s σ H x y u v Q I rx ry ⟨i,j,rfl,rfl,q⟩
 obtain⟨t,rfl⟩:=(show ∃t,u=R4 i t from rx)
 obtain⟨t',rfl⟩:=(show ∃t',v=R4 j t' from ry)
 exact Zv ⟨.int (i-j),H,I.tok _,⟨_,rfl⟩,q⟩
theorem LW{pl:Sem Bool}{m:PH}{apos:Qi}{args:List PY}{pins:List (PK×PV)}{s:PN}{σ:St}{H:Hp}{Q:PL->PN->Prop}{te:TE}(he:PE X e te)(I:Inv X pins σ H s)
  (h:te σ H fun x H1=>∃a C dx fs g,x=.ref a/\H1 a=some (.ins C dx fs)/\gT X.K C/\Gn X.K C m g/\fs.lookup m=none/\
   ∀s1,Inv X pins σ H1 s1->PQ (model X.prog X.w) X.A (callWith pos (.ref g) [.ref a] (QF pos (Qf args X.env)) (RO pos (RT [] X.env))) Q X.xe s1)
  (ht:eval (.Call (.Attribute e m apos) args [] pos) X.env=(do
   let ov <-eval e X.env
   standAt apos.atName
   let (f,first) <-holding [ov] (RZ ov m pl)
   callWith pos f first (QF pos (Qf args X.env)) (RO pos (RT [] X.env)))):
  PQ (model X.prog X.w) X.A (eval (.Call (.Attribute e m apos) args [] pos) X.env) Q X.xe s:=by
 refine Va (pl:=pl) (cI (he pins s σ H _ I h) fun u s1 ⟨x,H1,I1,rx,a,C,dx,fs,g,ex,ea,c,k,l,q⟩=>?_) ht
 subst ex
 obtain rfl:u=Qo a:=rx
 exact kT I1 ea c k l (q s1 I1)
end
section
variable {X:Cx}{pins:List (PK×PV)}{σ:St}{H:Hp}{s:PN}{A:Qg}{E:PL->PN->Prop}{Q:PL->PN->Prop}{c:PL}{b:Bool}
end
structure di(k:Nat)(A:Qg):Prop where
 hd:A.handled=none
 dp:A.depth+3*k+5<recursionLimit
 un:A.units+16*k+200<cLine
theorem di.mono{j k:Nat}{A:Qg}(r:di k A)(h:j<=k):di j A:=⟨r.hd,by have:=r.dp;omega,by have:=r.un;omega⟩
theorem di.deeper{k:Nat}{A:Qg}(r:di (k+1) A)(env:Qq):di k (A.deeper env):=
 ⟨r.hd,by have:=r.dp;show A.depth+1+3*k+5<_;omega,by have:=r.un;show A.units+3+16*k+200<_;omega⟩
theorem DB{A:Qg}{C:PK}{us:List PL}{kw:List (PH×PL)}:(A.under (.builtin "type.__call__" ⟨.ref C::us,kw⟩)).depth=A.depth+1:=by
 first|rfl|simp[Vw,Code.weight,Code.isCreation,Code.isGuard,Code.isCaller,WT,Vv,guardIds]
theorem Dv{A:Qg}{C:PK}{us:List PL}{kw:List (PH×PL)}:(A.under (.builtin "type.__call__" ⟨.ref C::us,kw⟩)).units=A.units+1:=by
 first|rfl|simp[Vw,Code.cUnits,WT,Vv]
theorem di.make{k:Nat}{A:Qg}(r:di (k+1) A)(C:PK)(us:List PL)(kw:List (PH×PL)):di k (A.under (.builtin "type.__call__" ⟨.ref C::us,kw⟩)):=
 ⟨r.hd,by have:=r.dp;rw[DB];omega,by have:=r.un;rw[Dv];omega⟩
theorem di.depth{k:Nat}{A:Qg}(r:di k A):A.depth<recursionLimit:=by have:=r.dp;omega
theorem di.units{k:Nat}{A:Qg}(r:di k A):A.units+64<cLine:=by have:=r.un;omega
noncomputable def az:TA:=fun _ H Q=>Q [] H
noncomputable def ae(ta:TE)(tr:TA):TA:=fun σ H Q=>ta σ H fun x H1=>tr σ H1 fun xs H2=>Q (x::xs) H2
section
variable {X:Cx}{e:PY}{es:List PY}{te:TE}{t:TA}{pos:Qi}
theorem ag:PA X [] az:=fun _ _ _ _ H Q I h=>Vy ⟨[],H,I,.nil,h⟩
theorem aa(ha:PE X e te)(hr:PA X es t)(hs:Qf (e::es) X.env=(false,eval e X.env)::Qf es X.env:=by rfl):PA X (e::es) (ae te t):=by
 intro pos pins s σ H Q I h
 rw[hs]
 show PQ _ _ (spliced ((false,eval e X.env)::QF pos (Qf es X.env))) _ _ s
 refine Wc (cI (ha pins s σ H _ I h) fun u s1 ⟨x,H1,I1,r1,q1⟩=>?_)
 exact cI (hr pos pins s1 σ H1 _ I1 q1) fun us s2 ⟨xs,H2,I2,r2,q2⟩=>⟨x::xs,H2,I2,.cons r1 r2,q2⟩
noncomputable def om(t:TA):TE:=fun σ H Q=>t σ H fun xs H1=>xs.length<=PZ/\∀p,H1 p=none->Q (.ref p) (upd H1 p (.tup xs))
noncomputable def cH(t:TA):TE:=fun σ H Q=>t σ H fun xs H1=>xs.length<=PZ/\∀p,H1 p=none->Q (.ref p) (upd H1 p (.lst xs))
theorem fB{x1}(h:PA X es t):PE X (.Tuple es x1 pos) (om t):=by
 intro pins s σ H Q I hq
 refine wpAny_Tuple_spliced (cI (h pos pins s σ H _ I hq) fun us s1 ⟨xs,H1,I1,r,z,q⟩=>⟨by rw[<-r.length];exact z,?_⟩)
 have hf:H1 s1.heap.objs.size=none:=I1.hok.fresh (Qe _)
 refine⟨.ref s1.heap.objs.size,upd H1 s1.heap.objs.size (.tup xs),I1.laid (t':=s1.toks) (fun b u e=>Qr _ e) (Qe _) ?_,rfl,q _ hf⟩
 exact⟨z,us,r,⟨_,Qz _ rfl,rfl,_,rfl⟩⟩
theorem bh(h:PA X es t):PE X (.List es pos) (cH t):=by
 intro pins s σ H Q I hq
 refine wpAny_List_spliced (cI (h pos pins s σ H _ I hq) fun us s1 ⟨xs,H1,I1,r,z,q⟩=>⟨by rw[<-r.length];exact z,?_⟩)
 have hf:H1 s1.heap.objs.size=none:=I1.hok.fresh (Qe _)
 refine⟨.ref s1.heap.objs.size,upd H1 s1.heap.objs.size (.lst xs),I1.laid (t':=s1.toks) (fun b u e=>Qr _ e) (Qe _) ?_,rfl,q _ hf⟩
 exact⟨z,us,0,r,Qz _ rfl⟩
end
noncomputable abbrev Sp:=List V->Hp->VK->XK->Prop
noncomputable abbrev Gu:=List Qq->Hp->PN->XK->PL->PN->Prop
structure Ee(P:Qc)(w:P8)(K:PM)(mg:PH->Option PL)(base:P0)(A:Qg)(outer:List Qq)(s:PN)(H:Hp):Prop where
 frames:A.frames=some outer
 mod:Mod K mg base
 bs:∀b o,base.get? b=some o->s.heap.get? b=some o/\H b=none
 bsz:base.objs.size<=s.heap.objs.size
 funs:s.heap.FunFrames base outer
 frf:∀b∈Ay outer,H b=none
 hok:oy P w H s.heap
 bare:R0 s.gens
noncomputable def CE(outer:List Qq)(P:Qc)(w:P8)(H:Hp)(s:PN)(Q:VK)(u:PL)(s':PN):Prop:=
 ∃v H',s'.os=s.os/\R0 s'.gens/\Un (Ay outer) [] H H' s.heap s'.heap/\oy P w H' s'.heap/\RelV v u/\Q v H'
noncomputable def CR(CX:Gu)(outer:List Qq)(P:Qc)(w:P8)(H:Hp)(s:PN)(Q:VK)(E:XK)(r:Result)(s':PN):Prop:=
 match r with
 |.ok (.ret u)=>CE outer P w H s Q u s'
 |.ok _=>False
 |.error e=>CX outer H s E e s'
structure mw(P:Qc)(w:P8)(K:PM)(mg:PH->Option PL)(base:P0)(CX:Gu)(k:Nat)(f:PK)(fd:RF)(ps:List PH)(sp:Sp):Prop where
 len:∀vs H Q E,sp vs H Q E->vs.length=ps.length
 run:∀(A:Qg)(outer:List Qq)(s:PN)(H:Hp)(args:Args)(us:List PL)(vs:List V)(Q:VK)(E:XK),di k A->Ee P w K mg base A outer s H->BindsTo s fd args (ps.zip us)->bR vs us->sp vs H Q E->
  RU (model P w) A (.call (.ref f) args) (CR CX outer P w H s Q E) s
theorem Ee.make{P:Qc}{w:P8}{K:PM}{mg:PH->Option PL}{base:P0}{A:Qg}{outer:List Qq}{s:PN}{H:Hp}(e:Ee P w K mg base A outer s H)(C:PK)(us:List PL)(kw:List (PH×PL)):
  Ee P w K mg base (A.under (.builtin "type.__call__" ⟨.ref C::us,kw⟩)) outer s H:=⟨by first|exact e.frames|(simpa[Vw,Code.envs,Vv,pushEnvs]using e.frames),e.mod,e.bs,e.bsz,e.funs,e.frf,e.hok,e.bare⟩
section
variable {X:Cx}{pins:List (PK×PV)}{σ:St}{H:Hp}{s s':PN}
theorem Inv.env0(I:Inv X pins σ H s):Ee X.prog X.w X.K X.mg X.base X.A X.stack s H:=
 ⟨I.ok.frames,I.ok.mod,I.bs,P6 I.ok.bsz I.sz,I.stack,I.stkFree,I.hok,I.bare⟩
theorem Inv.after{Q:VK}{u:PL}(I:Inv X pins σ H s)(h:CE X.stack X.prog X.w H s Q u s'):EP X pins σ Q u s':=by
 obtain⟨v,H',os,bare,un,hok,r,q⟩:=h
 obtain⟨hh,g,d,t,os'⟩:=s'
 obtain rfl:os'=s.os:=os
 exact⟨v,H',I.call (h':=hh) (g':=g) (d':=d) (t':=t) (ch:=[]) un hok bare (fun b z=>absurd z (by simp)),r,q⟩
end
noncomputable def bf(sp:Sp)(dvs:List V)(E:XK)(t:TA):TE:=fun σ H Q=>t σ H fun vs H1=>sp (vs++dvs) H1 Q E
noncomputable def cD(C:PK)(m:PH)(sp:Sp)(dvs:List V)(E:XK)(ta:TE)(t:TA):TE:=fun σ H Q=>ta σ H fun x H1=>∃a dx fs,x=.ref a/\H1 a=some (.ins C dx fs)/\fs.lookup m=none/\
 t σ H1 fun vs H2=>sp (x::(vs++dvs)) H2 Q E
noncomputable def yW(C:PK)(sp:Sp)(dvs:List V)(E:XK)(t:TA):TE:=fun σ H Q=>t σ H fun vs H1=>∀x dx,H1 x=none->H1 dx=none->dx≠x->
 sp (.ref x::(vs++dvs)) (upd (upd H1 dx (.own x)) x (.ins C dx [])) (fun v H2=>v=.non/\Q (.ref x) H2) E
noncomputable def Binds(K:PM)(fd:RF)(ps:List PH)(ds:List PL):Prop:=
 ∀(s:PN)(us:List PL),K.In s.heap->(us++ds).length=ps.length->BindsTo s fd ⟨us,[]⟩ (ps.zip (us++ds))
theorem Binds.all{K:PM}{fd:RF}{ps:List PH}(h:∀us:List PL,us.length=ps.length->bindArgs fd ⟨us,[]⟩=pure (ps.zip us)):Binds K fd ps []:=fun s us _ hl=>by
 rw[Um]at hl ⊢
 exact .of_eq (h us hl)
noncomputable def lx(CX:Gu)(X:Cx)(E:XK):Prop:=∀(pins:List (PK×PV))(σ:St)(H:Hp)(s:PN)(e:PL)(s':PN),Inv X pins σ H s->CX X.stack H s E e s'->X.xe e s'
section
variable {X:Cx}{CX:Gu}{k:Nat}{f C:PK}{fd:RF}{ps:List PH}{sp:Sp}{dvs:List V}{ds:List PL}{E:XK}{x m:PH}{p pos apos:Qi}{e o:PY}{es:List PY}{ta:TE}{t:TA}
theorem ET{pins:List (PK×PV)}{σ:St}{H:Hp}{s:PN}{Q:VK}{us:List PL}{vs:List V}(F:mw X.prog X.w X.K X.mg X.base CX k f fd ps sp)(hr:di k X.A)(hb:Binds X.K fd ps ds)(hd:bR dvs ds)(hx:lx CX X E)
  (I:Inv X pins σ H s) (r:bR vs us) (h:sp (vs++dvs) H Q E):PQ (model X.prog X.w) X.A (call (.ref f) us) (EP X pins σ Q) X.xe s:=by
 have r2:bR (vs++dvs) (us++ds):=r.append hd
 have hl:(us++ds).length=ps.length:=by rw[<-r2.length];exact F.len _ _ _ _ h
 refine wpAny_call (codeAny_mono (F.run X.A X.stack s H ⟨us,[]⟩ (us++ds) (vs++dvs) Q E hr I.env0 (hb s us I.kIn hl) r2 h) fun r s' hq=>?_)
 cases r with
 |error e=>exact hx pins σ H s e s' I hq
 |ok fl=>
  cases fl with
  |ret u=>exact I.after hq
  |next=>exact Rl hq
  |brk=>exact Rl hq
  |cont=>exact Rl hq
theorem FF(F:mw X.prog X.w X.K X.mg X.base CX k f fd ps sp)(hr:di k X.A)(hg:Gl X x)(hm:X.mg x=some (.ref f))(hk:RW X.K (.ref f)=true)(hb:Binds X.K fd ps ds)(hd:bR dvs ds)(hx:lx CX X E)
  (ha:PA X (e::es) t) (hdb:(x==("__debug__":PH))=false:=by decide) (he:Qf (e::es) X.env=(false,eval e X.env)::Qf es X.env:=by rfl) (hpl:(QF pos (Qf es X.env)).any (·.1)=false:=by rfl):
  PE X (.Call (.Name x p) (e::es) [] pos) (bf sp dvs E t):=by
 intro pins s σ H Q I h
 refine US (qE I hg hm ?_ hdb)
 refine VC (h₀:=X.base) I.ok.mod.kin hk (cI (ha pos pins s σ H _ I h) fun us s1 ⟨vs,H1,I1,r,q⟩=>⟨I1.kIn,?_⟩) he hpl
 exact ET F hr hb hd hx I1 r q
theorem AB{pl:Sem Bool}(he:PE X o ta)(c:gT X.K C)(hm:Gn X.K C m f)(F:mw X.prog X.w X.K X.mg X.base CX k f fd ps sp)(hr:di k X.A)(hb:Binds X.K fd ps ds)(hd:bR dvs ds)(hx:lx CX X E)(ha:PA X (e::es) t)
  (hst:Qf (e::es) X.env=(false,eval e X.env)::Qf es X.env:=by rfl) (hpl:(QF pos (Qf es X.env)).any (·.1)=false:=by rfl)
  (ht:eval (.Call (.Attribute o m apos) (e::es) [] pos) X.env=(do
   let ov <-eval o X.env
   standAt apos.atName
   let (f,first) <-holding [ov] (RZ ov m pl)
   callWith pos f first (QF pos (Qf (e::es) X.env)) (RO pos (RT [] X.env))):=by rfl):
  PE X (.Call (.Attribute o m apos) (e::es) [] pos) (cD C m sp dvs E ta t):=by
 intro pins s σ H Q I h
 refine Va (pl:=pl) (cI (he pins s σ H _ I h) fun u s1 ⟨x,H1,I1,rx,a,dx,fs,ex,ea,l,q⟩=>?_) ht
 subst ex
 obtain rfl:u=Qo a:=rx
 refine kT I1 ea c hm l ?_
 refine VC (first:=[.ref a]) (h₀:=X.base) I.ok.mod.kin hm.kp (cI (ha pos pins s1 σ H1 _ I1 q) fun us s2 ⟨vs,H2,I2,r,q2⟩=>⟨I2.kIn,?_⟩) hst hpl
 exact ET (us:=.ref a::us) (vs:=.ref a::vs) F hr hb hd hx I2 (.cons rfl r) q2
theorem Iv{pl:Sem Bool}(he:PE X o ta)(c:gT X.K C)(hm:Gn X.K C m f)(F:mw X.prog X.w X.K X.mg X.base CX k f fd ps sp)(hr:di k X.A)(hb:Binds X.K fd ps ds)(hd:bR dvs ds)(hx:lx CX X E)
  (ht:eval (.Call (.Attribute o m apos) [] [] pos) X.env=(do
   let ov <-eval o X.env
   standAt apos.atName
   let (f,first) <-holding [ov] (RZ ov m pl)
   callWith pos f first (QF pos (Qf [] X.env)) (RO pos (RT [] X.env))):=by rfl):
  PE X (.Call (.Attribute o m apos) [] [] pos) (cD C m sp dvs E ta az):=by
 intro pins s σ H Q I h
 refine Va (pl:=pl) (cI (he pins s σ H _ I h) fun u s1 ⟨x,H1,I1,rx,a,dx,fs,ex,ea,l,q⟩=>?_) ht
 subst ex
 obtain rfl:u=Qo a:=rx
 refine kT I1 ea c hm l ?_
 exact Ww (first:=[.ref a]) I1.kIn hm.kp (ET (us:=[.ref a]) (vs:=[.ref a]) F hr hb hd hx I1 (.cons rfl .nil) q)
structure Mk(K:PM)(C f:PK):Prop where
 makes:Vb K C=true
 init:Q7 K (.ref C) "__init__"=some (some (.ref f))
 fn:UQ K (.ref f)=true
 kp:RW K (.ref C)=true
theorem J9{pins:List (PK×PV)}{σ:St}{H:Hp}{s:PN}{Q:VK}{us:List PL}{vs:List V}(M:Mk X.K C f)(F:mw X.prog X.w X.K X.mg X.base CX k f fd ps sp)(hr:di (k+1) X.A)(hb:Binds X.K fd ps ds)(hd:bR dvs ds)
  (hx:lx CX X E) (I:Inv X pins σ H s) (r:bR vs us)
  (h:∀x dx,H x=none->H dx=none->dx≠x->sp (.ref x::(vs++dvs)) (upd (upd H dx (.own x)) x (.ins C dx [])) (fun v H2=>v=.non/\Q (.ref x) H2) E):
  PQ (model X.prog X.w) X.A (call (.ref C) us) (EP X pins σ Q) X.xe s:=by
 have hq:=h (s.heap.objs.size+1) s.heap.objs.size (I.hok.fresh (RC _)) (I.hok.fresh (Qe _)) (Qt (U9 _))
 have I2:=Inv.made (C:=C) I
 have r2:bR (V.ref (s.heap.objs.size+1)::(vs++dvs)) (Qo (s.heap.objs.size+1)::(us++ds)):=.cons rfl (r.append hd)
 have hl:(Qo (s.heap.objs.size+1)::us++ds).length=ps.length:=by
  have e:=r2.length
  rw[F.len _ _ _ _ hq]at e
  exact e.symm
 refine wpAny_call (IA (f:=f) I.kIn M.makes M.init (beq_iff_eq.mp M.fn) (codeAny_mono (F.run _ X.stack _ _ ⟨Qo (s.heap.objs.size+1)::us,[]⟩ (Qo (s.heap.objs.size+1)::(us++ds)) _ _ E (hr.make C us [])
  (I2.env0.make C us []) (hb _ (Qo (s.heap.objs.size+1)::us) I2.kIn hl) r2 hq) fun r s' hq'=>?_))
 cases r with
 |error e=>exact hx pins σ _ _ e s' I2 hq'
 |ok fl=>
  cases fl with
  |ret u=>
   obtain⟨v,H',I3,rv,ev,q3⟩:=I2.after hq'
   subst ev
   exact⟨rv,⟨V.ref (s.heap.objs.size+1),H',I3,rfl,q3⟩⟩
  |next=>exact Rl hq'
  |brk=>exact Rl hq'
  |cont=>exact Rl hq'
theorem Jw(M:Mk X.K C f)(F:mw X.prog X.w X.K X.mg X.base CX k f fd ps sp)(hr:di (k+1) X.A)(hg:Gl X x)(hm:X.mg x=some (.ref C))(hb:Binds X.K fd ps ds)(hd:bR dvs ds)(hx:lx CX X E)
  (hdb:(x==("__debug__":PH))=false:=by decide):PE X (.Call (.Name x p) [] [] pos) (yW C sp dvs E az):=by
 intro pins s σ H Q I h
 refine US (qE I hg hm ?_ hdb)
 exact Ww I.kIn M.kp (J9 (us:=[]) M F hr hb hd hx I .nil h)
end
section
variable {X:Cx}{CX:Gu}{k:Nat}{f C:PK}{fd:RF}{ps ks:List PH}{sp:Sp}{E:XK}{x m:PH}{p pos apos kpos:Qi}{e o:PY}{es:List PY}{kws:List Keyword}{te ta:TE}{t tk:TA}{nm:Option PH}
variable {g:List PL->List PL->List PL}{gV:List V->List V->List V}
end
structure aB(N P:List PH)(sc:QS):Prop where
 kind:sc.kind=.function
 co:sc.isCoroutine=false
 gen:sc.isGenerator=false
 nd:N.Nodup
 pre:N.take P.length=P
 par:∀x∈P,sc.names.lookup x=some .local\/sc.names.lookup x=some .cell
 nofree:∀y∈sc.names,y.2≠.free
theorem zp{Ru:PH->Option Q8}{x:PH}:∀{binds:List (PH×PL)}{m:PH->Option PL},(∀v,(x,v)∉binds)->bindL Ru binds m x=m x
 |[],_,_=>rfl
 |(n,v)::r,m,h=>by
  unfold bindL
  rw[zp fun w hw=>h w (Qs _ hw)]
  split
  ·have:x≠n:=by rintro rfl;exact h v QH
   simp[this]
  ·rfl
theorem zj{Ru:PH->Option Q8}{x:PH}:∀{binds:List (PH×PL)}{m:PH->Option PL},(∀v,(x,v)∉binds)->bindC Ru binds m x=m x
 |[],_,_=>rfl
 |(n,v)::r,m,h=>by
  unfold bindC
  rw[zj fun w hw=>h w (Qs _ hw)]
  split
  ·rfl
  ·have:x≠n:=by rintro rfl;exact h v QH
   simp[this]
theorem za{Ru:PH->Option Q8}{x:PH}{v:PL}:∀{P:List PH}{vs:List PL}{i:Nat}{m:PH->Option PL},P.Nodup->P[i]?=some x->vs[i]?=some v->Ru x=some .local->
  bindL Ru (P.zip vs) m x=some v
 |[],_,_,_,_,h,_,_=>by simp at h
 |_::_,[],_,_,_,_,h,_=>by simp at h
 |p::P,w::vs,0,m,nd,h1,h2,hk=>by
  simp at h1 h2;subst h1;subst h2
  show bindL Ru ((p,w)::P.zip vs) m p=_
  unfold bindL
  rw[zp fun v hv=>(RM.mp nd).1 (Uk hv).1,if_pos hk]
  simp
 |p::P,w::vs,i+1,m,nd,h1,h2,hk=>by
  show bindL Ru ((p,w)::P.zip vs) m x=_
  unfold bindL
  exact za (i:=i) (RM.mp nd).2 (by simpa using h1) (by simpa using h2) hk
theorem zt{Ru:PH->Option Q8}{x:PH}{v:PL}:∀{P:List PH}{vs:List PL}{i:Nat}{m:PH->Option PL},P.Nodup->P[i]?=some x->vs[i]?=some v->Ru x≠some .local->
  bindC Ru (P.zip vs) m x=some v
 |[],_,_,_,_,h,_,_=>by simp at h
 |_::_,[],_,_,_,_,h,_=>by simp at h
 |p::P,w::vs,0,m,nd,h1,h2,hk=>by
  simp at h1 h2;subst h1;subst h2
  show bindC Ru ((p,w)::P.zip vs) m p=_
  unfold bindC
  rw[zj fun v hv=>(RM.mp nd).1 (Uk hv).1,if_neg hk]
  simp
 |p::P,w::vs,i+1,m,nd,h1,h2,hk=>by
  show bindC Ru ((p,w)::P.zip vs) m x=_
  unfold bindC
  exact zt (i:=i) (RM.mp nd).2 (by simpa using h1) (by simpa using h2) hk
noncomputable def start(N:List PH)(vs:List V):St:=vs.map some++QT (N.length-vs.length) none
noncomputable def cv(CX:Gu)(P:Qc)(w:P8)(K:PM)(mg:PH->Option PL)(base:P0)(N:List PH)(qual:PH)(scope:QS)(f:PK)(cd:PL)(A:Qg)(outer:List Qq)(s:PN)(H:Hp)(E:XK):Cx where
 prog:=P
 w:=w
 K:=K
 mg:=mg
 base:=base
 A:=A.deeper (Q9 qual scope s.heap.objs.size f cd)
 N:=N
 s₀:=s
 H₀:=H
 env:=Q9 qual scope s.heap.objs.size f cd
 outer:=outer
 stack:=Q9 qual scope s.heap.objs.size f cd::outer
 ex:=[]
 calm:=true
 fn:=fun _=>true
 pn:=[]
 xe:=fun e s'=>PQ (model P w) (A.deeper (Q9 qual scope s.heap.objs.size f cd)) (leaving (Q9 qual scope s.heap.objs.size f cd) e) (fun _ s''=>CX outer H s E e s'') (fun e' s''=>CX outer H s E e' s'') s'
theorem B5{sc:QS}{n:Nat}{x:PH}(h:sc.names.lookup x=some .cell):∃c,(Q0 n sc.names []).lookup x=some c:=by
 have q:=Xl sc.names n [] (.inl h)
 exact Vm.mp q
theorem GO{CX:Gu}{P:Qc}{w:P8}{K:PM}{mg:PH->Option PL}{base:P0}{N ps:List PH}{qual:PH}{scope:QS}{f:PK}{cd:PL}{A:Qg}{outer:List Qq}{s s1:PN}{H:Hp}{E:XK}{us:List PL}{vs:List V}
  (S:aB N ps scope) (hd:A.handled=none) (e0:Ee P w K mg base A outer s H) (hl:vs.length=ps.length) (r:bR vs us)
  (x:InCallC s s.heap.objs.size (bindL (Q9 qual scope s.heap.objs.size f cd).kindOf (ps.zip us) fun _=>none) (Q0 (s.heap.objs.size+1) scope.names []) (bindC (Q9 qual scope s.heap.objs.size f cd).kindOf (ps.zip us) fun _=>none) s1):
  Inv (cv CX P w K mg base N qual scope f cd A outer s H E) [] (start N vs) H s1:=by
 have hpl:ps.length<=N.length:=by have:=congrArg Ts S.pre;rw[QY]at this;omega
 obtain⟨h1,tk,rfl,hk⟩:=x.done
 have noA:∀b:PK,b∉(cv CX P w K mg base N qual scope f cd A outer s H E).ex:=fun b z=>absurd (show b∈([]:List PK)from z) (by simp)
 refine⟨⟨e0.mod,S.kind,rfl,rfl,Qe _,fun y z c h1 h2=>?_,fun y hy=>?_,fun y c _ h=>?_,fun _=>hd,Around.frames_deeper e0.frames,.inr ⟨rfl,rfl⟩,fun b z=>absurd z (noA b),e0.bs,e0.bsz,fun b _ _=>noA b,fun b z=>absurd z (noA b),e0.funs,e0.frf⟩,
  rfl,e0.bare,Un.kept hk,⟨_,x.toInCall.ns,fun i y v h1 h2 h3=>?_⟩,fun y c h=>⟨_,x.cell y c h⟩,e0.hok.fresh (Qe _),fun y c h=>?_,fun p hp=>absurd (show p∈([]:List (PK×PV))from hp) (by simp),e0.hok.kept hk,?_⟩
 ·exact name_of_addr x.apart (Ue h1) (Ue h2)
 ·have hy:scope.names.lookup y=some .cell\/scope.names.lookup y=some .free:=hy
  rcases hy with hy|hy
  ·exact B5 hy
  ·exact absurd rfl (S.nofree _ (Ue hy))
 ·exact SU (x.above y c (Ue h))
 ·have hi:i<vs.length:=by
   unfold start at h2
   by_cases hi:i<vs.length
   ·exact hi
   ·rw[Tn (by simpa using hi)]at h2
    rw[List.getElem?_replicate]at h2
    split at h2<;>cases h2
  have ha:vs[i]?=some v:=by
   unfold start at h2
   rw[Sj (by simpa using hi),Sg]at h2
   cases e:vs[i]? with
   |none=>rw[e]at h2;cases h2
   |some a=>rw[e]at h2;cases h2;rfl
  obtain⟨u,hu,rv⟩:=r.get ha
  have hp:ps[i]?=some y:=by
   rw[<-S.pre,List.getElem?_take_of_lt (by omega)];exact h1
  have ndP:ps.Nodup:=by rw[<-S.pre];exact S.nd.sublist (List.take_sublist _ _)
  exists u,rv
  rcases S.par y (Tg hp)with k|k
  ·exact .inl ⟨k,za ndP hp hu k⟩
  ·obtain⟨c,e⟩:=B5 (n:=s.heap.objs.size+1) k
   refine .inr ⟨.inl k,c,e,?_⟩
   have q:=x.cell y c e
   rw[zt ndP hp hu (by show scope.names.lookup y≠_;rw[k];decide)]at q
   exact q
 ·exact e0.hok.fresh (SU (x.above y c (Ue h)))
 ·unfold start
  show _=N.length
  rw[QV,P7,Xj]
  omega
theorem LU{CX:Gu}{P:Qc}{w:P8}{K:PM}{mg:PH->Option PL}{base:P0}{k:Nat}{f:PK}{name qual:PH}{params:Arguments}{body:List P5}{scope:QS}{dV kV doc pm cdv ct oc:PL}{an od:Option PK}
  {osl:Array (Option PL)}{N ps:List PH}{sp:Sp} (lk:K.lookup f=some ⟨oc,od,.func (Sa name qual params body scope dV kV doc pm an cdv ct),osl⟩) (hcd:TL K cdv qual=true) (S:aB N ps scope)
  (len:∀vs H Q E,sp vs H Q E->vs.length=ps.length)
  (hbody:∀(A:Qg)(outer:List Qq)(s:PN)(H:Hp)(vs:List V)(Q:VK)(E:XK),di k (A.deeper (Q9 qual scope s.heap.objs.size f cdv))->sp vs H Q E->
   ∃t,xI (cv CX P w K mg base N qual scope f cdv A outer s H E) body t/\t {nx:=fun _ H'=>Q .non H',rt:=Q} (start N vs) H):
  mw P w K mg base CX (k+1) f (Sa name qual params body scope dV kV doc pm an cdv ct) ps sp:=by
 refine⟨len,fun A outer s H args us vs Q E hr e0 hb r hsp=>?_⟩
 have hl:=len _ _ _ _ hsp
 have KX:K.In s.heap:=e0.mod.kin.keeps fun b o e=>(e0.bs b o e).1
 have lim:s.heap.NoLimit:=e0.mod.nolimit.keeps fun b o e=>(e0.bs b o e).1
 have hkind:∀y∈ps.zip us,scope.names.lookup y.1=some .local\/(scope.names.lookup y.1=some .cell/\((Q0 (s.heap.objs.size+1) scope.names []).lookup y.1).isSome=true):=fun ⟨n,v⟩ hy=>by
  rcases S.par n (Uk hy).1 with q|q
  ·exact .inl q
  ·exact .inr ⟨q,Xl _ _ _ (.inl q)⟩
 refine codeAny_call_function hr.depth (KX _ _ lk) rfl S.co S.gen rfl (aap KX hcd) (hb _ _ _ _ ?_)
 refine wpAny_newFunctionEnv_cells S.kind hkind fun env he s1 x=>?_
 subst he
 refine⟨lim.keeps x.toInCall.keep,codeAny_func ?_⟩
 obtain⟨t,ht,hq⟩:=hbody A outer s H vs Q E (hr.deeper _) hsp
 have I:Inv (cv CX P w K mg base N qual scope f cdv A outer s H E) [] (start N vs) H s1:=GO S hr.hd e0 hl r x
 refine Q5 (ht [] s1 (start N vs) H _ I hq) (fun fl s' hs=>?_) fun e s' hs=>hs
 have fin:∀{σ':St}{H':Hp}{v:V}{u:PL},Inv (cv CX P w K mg base N qual scope f cdv A outer s H E) [] σ' H' s'->RelV v u->Q v H'->CE outer P w H s Q u s':=
  fun {σ' H' v u} J rv q=>⟨v,H',J.os,J.bare,J.base,J.hok,rv,q⟩
 cases fl with
 |ret u=>
  obtain⟨v,σ',H',J,rv,q⟩:=hs
  exact fin J rv q
 |next=>
  obtain⟨σ',H',J,q⟩:=hs
  exact fin (v:=V.non) (u:=Rf) J rfl q
 |brk=>
  obtain⟨_,_,_,q⟩:=hs
  exact Rl q
 |cont=>
  obtain⟨_,_,_,q⟩:=hs
  exact Rl q
section
variable {X:Cx}{x:PH}{p pos:Qi}{e:PY}{es:List PY}{t:TA}{id T:String}{r:List V->Hp->VK->Prop}
noncomputable def gr(r:List V->Hp->VK->Prop)(t:TA):TE:=fun σ H Q=>t σ H fun vs H1=>r vs H1 Q
theorem aU(hc:fw X (.builtin id) r)(hg:Gl X x)(hm:X.mg x=none)(hv:Tp x=some (.builtin id))(ha:PA X (e::es) t)(hn:x≠"__name__":=by decide)(hdb:(x==("__debug__":PH))=false:=by decide)
  (he:Qf (e::es) X.env=(false,eval e X.env)::Qf es X.env:=by rfl) (hpl:(QF pos (Qf es X.env)).any (·.1)=false:=by rfl):PE X (.Call (.Name x p) (e::es) [] pos) (gr r t):=by
 intro pins s σ H Q I h
 refine US (jC I hg hm hv ?_ hn hdb)
 exact Zl (cI (ha pos pins s σ H _ I h) fun us s1 ⟨vs,H1,I1,r1,q1⟩=>hc pins s1 σ H1 vs us Q I1 r1 q1) he hpl
theorem dN(hc:fw X (.type T) r)(hg:Gl X x)(hm:X.mg x=none)(hv:Tp x=some (.type T))(ha:PA X (e::es) t)(hn:x≠"__name__":=by decide)(hdb:(x==("__debug__":PH))=false:=by decide)
  (he:Qf (e::es) X.env=(false,eval e X.env)::Qf es X.env:=by rfl) (hpl:(QF pos (Qf es X.env)).any (·.1)=false:=by rfl):PE X (.Call (.Name x p) (e::es) [] pos) (gr r t):=by
 intro pins s σ H Q I h
 refine US (jC I hg hm hv ?_ hn hdb)
 exact Sy (cI (ha pos pins s σ H _ I h) fun us s1 ⟨vs,H1,I1,r1,q1⟩=>hc pins s1 σ H1 vs us Q I1 r1 q1) he hpl
end
end L2
namespace HT
open PySem PyProof.Rows
section
open PySem.SeqAt
open PySem.AutoSeq1 (wpAny_loadPart')
open PySem.MeetsSeq PySem.MeetsSeq2 PySem.MeetsSeq3
end
section
variable {prog:Qc}{w:P8}{A:Qg}{E:PL->PN->Prop}{s:PN}
noncomputable def zc(n d:Nat):Option Int->Nat
 |none=>d
 |some v=>if v<0 then(v+(n:Int)).toNat else min v.toNat n
theorem rM(n d:Nat):zc n d none=d:=rfl
theorem og(n d k:Nat):zc n d (some (k:Int))=min k n:=by
 show(if(k:Int)<0 then((k:Int)+(n:Int)).toNat else min (k:Int).toNat n)=min k n
 rw[if_neg (by omega),VA]
end
end HT
namespace L2
open PySem PySem.Spec PyProof.Rows
noncomputable abbrev TO:=St->Hp->(Option Int->Hp->Prop)->Prop
noncomputable def PO(X:Cx)(e:Option PY)(t:TO):Prop:=
 ∀(pins:List (PK×PV))(s:PN)(σ:St)(H:Hp)(Q:Option Int->Hp->Prop),Inv X pins σ H s->t σ H Q->
  PQ (model X.prog X.w) X.A (evalPart e X.env) (fun u s'=>∃o H',Inv X pins σ H' s'/\IsPart u o/\Q o H') X.xe s
noncomputable def cy:TO:=fun _ H Q=>Q none H
noncomputable def dz(t:TE):TO:=fun σ H Q=>t σ H fun x H1=>∃i,x=.int i/\Q (some i) H1
theorem intsAre_of{ns:List Int}:∀{us:List PL},bR (ns.map V.int) us->SH us ns:=by
 induction ns with
 |nil=>intro us r;rw[S7]at r;cases r;exact .nil
 |cons n ns ih=>
  intro us r
  rw[Qu]at r
  cases r with
  |cons r1 r2=>
   obtain⟨t,e⟩:=r1
   subst e
   exact .cons n t (ih r2)
section
variable {X:Cx}{e:PY}{te:TE}{lo hi:Option PY}{tl th:TO}{pos p2:Qi}
theorem cK:PO X none cy:=by
 intro pins s σ H Q I h
 rw[evalPart_none]
 exact Qh ⟨none,H,I,.none,h⟩
theorem ck(h:PE X e te):PO X (some e) (dz te):=by
 intro pins s σ H Q I hw
 rw[evalPart_some]
 refine cI (h pins s σ H _ I hw) fun u s1 ⟨x,H1,I1,r1,q1⟩=>?_
 obtain⟨i,rfl,q⟩:=q1
 obtain⟨t,rfl⟩:=r1
 exact⟨some i,H1,I1,.int i t,q⟩
noncomputable def Po(X:Cx)(r:V->Option Int->Option Int->Hp->VK->Prop):Prop:=
 ∀(pins:List (PK×PV))(s:PN)(σ:St)(H:Hp)(x:V)(v vl vu:PL)(lo hi:Option Int)(sl:PK)(Q:VK),Inv X pins σ H s->RelV x v->s.heap.IsSliceOf sl vl vu .none->IsPart vl lo->IsPart vu hi->r x lo hi H Q->
  ∃T id,TY (.type T) "__getitem__"=pure (some (.builtin id))/\s.TypeIs v T/\PQ (model X.prog X.w) X.A (getItem v (.ref sl)) (EP X pins σ Q) X.xe s
noncomputable def uX(r:V->Option Int->Option Int->Hp->VK->Prop)(te:TE)(tl th:TO):TE:=fun σ H Q=>te σ H fun x H1=>tl σ H1 fun l H2=>th σ H2 fun u H3=>r x l u H3 Q
theorem bU{r:V->Option Int->Option Int->Hp->VK->Prop}(hr:Po X r)(he:PE X e te)(hl:PO X lo tl)(hu:PO X hi th):PE X (.Subscript e (.Slice lo hi none p2) pos) (uX r te tl th):=by
 intro pins s σ H Q I h
 refine Subscript_ (cI (he pins s σ H _ I h) fun v s1 ⟨x,H1,I1,r1,q1⟩=>?_)
 refine wpAny_Slice (cI (hl pins s1 σ H1 _ I1 q1) fun vl s2 ⟨l,H2,I2,pl,q2⟩=>cI (hu pins s2 σ H2 _ I2 q2) fun vu s3 ⟨u,H3,I3,pu,q3⟩=>?_)
 rw[evalPart_none]
 refine Qh ?_
 have I4:Inv X pins σ H3 {s3 with heap:=s3.heap.push {cls:=.type "slice",data:=.fields #[vl,vu,.none]}}:=I3.kept (t':=s3.toks) fun b ob q=>Qr _ q
 obtain⟨T,id,hT,ht,hg⟩:=hr pins {s3 with heap:=s3.heap.push {cls:=.type "slice",data:=.fields #[vl,vu,.none]}} σ H3 x v vl vu l u s3.heap.objs.size Q I4 r1 (Zd ..) pl pu q3
 show PQ (model X.prog X.w) X.A (subscriptTail e (.Slice lo hi none p2) v (.ref s3.heap.objs.size)) (EP X pins σ Q) X.xe {s3 with heap:=s3.heap.push {cls:=.type "slice",data:=.fields #[vl,vu,.none]}}
 exact tail_any (ops:=[.ref s3.heap.objs.size,v]) ht hT hg (by with_unfolding_all rfl)
noncomputable def iU(xs:List V)(lo hi:Option Int):List V:=(xs.drop (HT.zc xs.length 0 lo)).take (HT.zc xs.length xs.length hi-HT.zc xs.length 0 lo)
theorem B6(xs:List V)(lo hi:Option Int):(iU xs lo hi).length<=xs.length:=by
 unfold iU
 rw[QY,Rq]
 omega
end
noncomputable def NH(n:Nat)(i:Int):Option Nat:=if 0<=i then(if i<n then some i.toNat else none)else if -(n:Int)<=i then some (i+n).toNat else none
noncomputable def xW{α:Type}(xs:List α)(i:Int):Option α:=(NH xs.length i).bind fun j=>xs[j]?
theorem LC{n:Nat}{i:Int}{j:Nat}(h:NH n i=some j):seqIndex? i n=some j/\j<n/\-(n:Int)<=i/\i<n:=by
 unfold NH at h
 by_cases h0:0<=i
 ·rw[if_pos h0]at h
  by_cases h1:i<n
  ·rw[if_pos h1]at h
   have e:i.toNat=j:=QX h
   exact⟨by rw[seqIndex_of h0 h1,e],by omega,by omega,h1⟩
  ·rw[if_neg h1]at h;cases h
 ·rw[if_neg h0]at h
  by_cases h1:-(n:Int)<=i
  ·rw[if_pos h1]at h
   have e:(i+n).toNat=j:=QX h
   exact⟨by rw[seqIndex_neg (by omega) h1,e],by omega,h1,by omega⟩
  ·rw[if_neg h1]at h;cases h
theorem AD{α:Type}{xs:List α}{i:Int}{v:α}(h:xW xs i=some v):∃j,seqIndex? i xs.length=some j/\xs[j]?=some v/\j<xs.length/\-(xs.length:Int)<=i/\i<xs.length:=by
 unfold xW at h
 cases e:NH xs.length i with
 |none=>rw[e]at h;cases h
 |some j=>
  rw[e]at h
  obtain⟨h1,h2,h3,h4⟩:=LC e
  exact⟨j,h1,h,h2,h3,h4⟩
theorem bM{α:Type}{xs:List α}{j:Nat}{v:α}(h:xs[j]?=some v):xW xs (j:Int)=some v:=by
 have hj:j<xs.length:=(QN.mp h).1
 have e:NH xs.length (j:Int)=some j:=by
  unfold NH
  rw[if_pos (by omega),if_pos (by omega)];simp
 unfold xW;rw[e];exact h
noncomputable def Km(b:PY):Prop:=∀o i,subscripted b false o i=operate [o,i] (getItem o i)
noncomputable def OW(X:Cx)(r:R2):Prop:=
 ∀(value slice:PY)(pins:List (PK×PV))(s:PN)(σ:St)(H:Hp)(x y:V)(v u:PL)(Q:VK),Inv X pins σ H s->RelV x v->RelV y u->r x y H Q->
  subscripted slice false v u=operate [v,u] (getItem v u)->PQ (model X.prog X.w) X.A (subscriptTail value slice v u) (EP X pins σ Q) X.xe s
noncomputable def Pk(X:Cx)(id:String)(r:V->List V->Hp->VK->Prop):Prop:=
 ∀(pins:List (PK×PV))(s:PN)(σ:St)(H:Hp)(x:V)(xs:List V)(v:PL)(us:List PL)(Q:VK),Inv X pins σ H s->RelV x v->bR xs us->r x xs H Q->
  PQ (model X.prog X.w) X.A (call (.builtin id) (v::us)) (EP X pins σ Q) X.xe s
section
variable {X:Cx}{a b:PY}{ta tb:TE}{pos:Qi}
theorem bj{r:R2}(hr:OW X r)(ha:PE X a ta)(hb:PE X b tb)(hs:Km b):PE X (.Subscript a b pos) (aN r ta tb):=by
 intro pins s σ H Q I h
 exact Subscript_ (Mm ha hb I h fun v u s2 x y H2 I2 rx ry q=>hr a b pins s2 σ H2 x y v u Q I2 rx ry q (hs _ _))
noncomputable def cu(K:PM):R2:=fun x y H Q=>∃p xs i v,x=.ref p/\y=.int i/\aY K H p xs/\xW xs i=some v/\Q v H
noncomputable def Lo(K:PM):R2:=fun x y H Q=>∃p xs i v,x=.ref p/\y=.int i/\kZ K H p xs/\xW xs i=some v/\Q v H
noncomputable def uP:R2:=fun x y H Q=>∃z i c,x=.str z/\y=.int i/\z.length<=PZ/\xW z.cps.toList i=some c/\Q (.str ⟨#[c]⟩) H
theorem aL:OW X (cu X.K):=by
 intro value slice pins s σ H x y v u Q I rx ry h hs
 obtain⟨p,xs,i,z,rfl,rfl,hq,he,q⟩:=h
 cases rx
 obtain⟨t,rfl⟩:=ry
 obtain⟨its,r,pl,hz⟩:=I.list hq
 obtain⟨j,h1,h2,h3,h4,h5⟩:=AD he
 obtain⟨w,ew,rw'⟩:=r.get h2
 have hl:=r.length
 have hn:=wB
 have fin:EP X pins σ Q w s:=⟨z,H,I,rw',q⟩
 by_cases h0:0<=i
 ·have hj:i.toNat=j:=by
   rw[seqIndex_of h0 h5]at h1
   exact QX h1
  exact item_listR pl.isList h0 (by omega) (by rw[hj];simpa using ew) fin hs
 ·have hj:(i+(its.toArray.size:Int)).toNat=j:=by
   rw[seqIndex_neg (by omega) h4]at h1
   rw[Q4,<-hl]
   exact QX h1
  exact subscriptTail_builtinR (x:=w) pl.isList.typeIs slot_list_getitem.lookup
   (wpAny_getItem_list_neg (Q:=fun r s'=>r=w/\EP X pins σ Q r s') pl.isList (by omega) (by rw[Q4]<;>omega) (by omega) (by rw[hj];simpa using ew) ⟨rfl,fin⟩) hs
theorem HE:OW X (Lo X.K):=by
 intro value slice pins s σ H x y v u Q I rx ry h hs
 obtain⟨p,xs,i,z,rfl,rfl,hq,he,q⟩:=h
 cases rx
 obtain⟨t,rfl⟩:=ry
 obtain⟨its,r,pl,hz⟩:=I.tuple hq
 obtain⟨j,h1,h2,h3,h4,h5⟩:=AD he
 obtain⟨w,ew,rw'⟩:=r.get h2
 have hl:=r.length
 have hn:=wB
 have fin:EP X pins σ Q w s:=⟨z,H,I,rw',q⟩
 exact subscriptTail_builtinR (x:=w) pl.typeIs slot_tuple_getitem.lookup
  (getItem_tuple (j:=j) (Q:=fun r s'=>r=w/\EP X pins σ Q r s') pl (by omega) (by omega) (by rw[Q4,<-hl];exact h1) (by simpa using ew) ⟨rfl,fin⟩) hs
theorem ki:OW X uP:=by
 intro value slice pins s σ H x y v u Q I rx ry h hs
 obtain⟨z,i,c,rfl,rfl,hz,he,q⟩:=h
 obtain⟨t,rfl⟩:=rx
 obtain⟨t',rfl⟩:=ry
 obtain⟨j,h1,h2,h3,h4,h5⟩:=AD he
 have hl:z.cps.toList.length=z.length:=by simp[UP]
 rw[hl]at h1 h4 h5
 have hn:=wB
 exact tail_any (typeIs_str s z t) slot_str_getitem.lookup (getItem_str (c:=c) (by
  have e1:decide (i < -(2 ^ 63:Int))=false:=decide_eq_false (by omega)
  have e2:decide (i≥2 ^ 63)=false:=decide_eq_false (by omega)
  rw[e1,e2,Bool.or_false]) (by rw[h1];simpa using h2) ⟨.str ⟨#[c]⟩,H,I.tok _,⟨_,rfl⟩,q⟩) hs
theorem zX(lo hi:Option Int)(n:Nat):(SN lo hi none n).1=((HT.zc n 0 lo:Nat):Int)/\(SN lo hi none n).2.1=((HT.zc n n hi:Nat):Int)/\(SN lo hi none n).2.2=1:=by
 refine⟨?_,?_,rfl⟩
 ·cases lo with
  |none=>simp[SN,HT.zc]
  |some i=>
   simp only[SN,HT.zc,Yq,show(1:Int)>0 by decide,if_true]
   by_cases h:i<0
   ·simp only[h,if_true]<;>omega
   ·simp only[h,if_false]<;>omega
 ·cases hi with
  |none=>simp[SN,HT.zc]
  |some i=>
   simp only[SN,HT.zc,Yq,show(1:Int)>0 by decide,if_true]
   by_cases h:i<0
   ·simp only[h,if_true]<;>omega
   ·simp only[h,if_false]<;>omega
theorem yG(its:List PL)(lo hi:Option Int):slicePick its.toArray lo hi none=((its.drop (HT.zc its.length 0 lo)).take (HT.zc its.length its.length hi-HT.zc its.length 0 lo)).toArray:=by
 obtain⟨h1,h2,h3⟩:=zX lo hi its.toArray.size
 unfold slicePick
 rw[h1,h2,h3]
 simp only[sliceRange_one,pick_run,Q4]<;>rfl
noncomputable def qp(K:PM):V->Option Int->Option Int->Hp->VK->Prop:=fun x lo hi H Q=>∃a xs,x=.ref a/\aY K H a xs/\∀p,H p=none->Q (.ref p) (upd H p (.lst (iU xs lo hi)))
theorem fM:Po X (qp X.K):=by
 intro pins s σ H x v vl vu lo hi sl Q I rx hs pl pu h
 obtain⟨a,xs,rfl,hx,q⟩:=h
 cases rx
 obtain⟨its,r,ht,hz⟩:=I.list hx
 have hlen:=r.length
 refine⟨"list",_,slot_list_getitem.lookup,ht.isList.typeIs,?_⟩
 refine wpAny_getItem_list_slice ht.isList hs pl pu .none (by simp) ?_ (by rw[Q4]<;>omega)
 rw[yG,<-hlen]
 refine⟨.ref s.heap.objs.size,_,I.laid (t':=s.toks) (o:=.lst (iU xs lo hi)) (fun b ob q=>Qr _ q) (Qe _) ?_,rfl,q _ (I.hok.fresh (Qe _))⟩
 exact⟨P6 (B6 xs lo hi) hz,_,0,(r.drop (HT.zc xs.length 0 lo)).take (HT.zc xs.length xs.length hi-HT.zc xs.length 0 lo),Qz _ rfl⟩
noncomputable def pb:V->Bool
 |.non=>true
 |.bl _=>true
 |.int _=>true
 |.str _=>true
 |_=>false
noncomputable def L9:V->V->Bool
 |.non,.non=>true
 |.bl a,.bl b=>a==b
 |.bl a,.int b=>(if a then 1 else 0)==b
 |.int a,.bl b=>a==(if b then 1 else 0)
 |.int a,.int b=>a==b
 |.str a,.str b=>a==b
 |_,_=>false
theorem Ml{A:Qg}{s:PN}{y x:V}{u v:PL}(ry:RelV y u)(rx:RelV x v)(fy:pb y=true)(fx:pb x=true):Yb A s u v (L9 y x):=by
 cases y with
 |non=>
  cases ry
  cases x with
  |non=>cases rx;exact Y9 _
  |bl b=>cases rx;exact ZL b
  |int b=>obtain⟨t,rfl⟩:=rx;exact Z3 b t
  |str b=>obtain⟨t,rfl⟩:=rx;exact Zi b t
  |_=>exact absurd (show false=true from fx) QM
 |bl a=>
  cases ry
  cases x with
  |non=>cases rx;exact aat a
  |bl b=>cases rx;exact aaz a b
  |int b=>obtain⟨t,rfl⟩:=rx;exact aah a b t
  |str b=>obtain⟨t,rfl⟩:=rx;exact aaF a b t
  |_=>exact absurd (show false=true from fx) QM
 |int a=>
  obtain⟨t',rfl⟩:=ry
  cases x with
  |non=>cases rx;exact aaM a t'
  |bl b=>cases rx;exact YO a t' b
  |int b=>obtain⟨t,rfl⟩:=rx;exact Zq a t' b t
  |str b=>obtain⟨t,rfl⟩:=rx;exact XH a t' b t
  |_=>exact absurd (show false=true from fx) QM
 |str a=>
  obtain⟨t',rfl⟩:=ry
  cases x with
  |non=>cases rx;exact aag a t'
  |bl b=>cases rx;exact ZU a t' b
  |int b=>obtain⟨t,rfl⟩:=rx;exact Yx a t' b t
  |str b=>obtain⟨t,rfl⟩:=rx;exact Ze a t' b t
  |_=>exact absurd (show false=true from fx) QM
 |_=>exact absurd (show false=true from fy) QM
noncomputable def DN(x:V)(u:PL):Bool:=match u with
 |.none=>L9 .non x
 |.bool b=>L9 (.bl b) x
 |.int i _=>L9 (.int i) x
 |.str z _=>L9 (.str z) x
 |_=>false
theorem JF{x y:V}{u:PL}(r:RelV y u)(f:pb y=true):DN x u=L9 y x:=by
 cases y with
 |non=>cases r;rfl
 |bl b=>cases r;rfl
 |int i=>obtain⟨t,rfl⟩:=r;rfl
 |str z=>obtain⟨t,rfl⟩:=r;rfl
 |_=>exact absurd (show false=true from f) QM
theorem rh{x:V}:∀{xs:List V}{us:List PL},bR xs us->xs.all pb=true->us.any (DN x)=xs.any fun y=>L9 y x
 |_,_,.nil,_=>rfl
 |y::xs,u::us,.cons r t,f=>by
  rw[Xw,QW]at f
  rw[Sb,Sb,JF r f.1,rh t f.2]
theorem mV{A:Qg}{s:PN}{x:V}{v:PL}(rx:RelV x v)(fx:pb x=true):∀{xs:List V}{us:List PL},bR xs us->xs.all pb=true->∀u∈us,Yb A s u v (DN x u)
 |_,_,.nil,_=>fun u hu=>by cases hu
 |y::xs,u::us,.cons r t,f=>fun u' hu=>by
  rw[Xw,QW]at f
  rcases Qb.mp hu with rfl|hu
  ·rw[JF r f.1];exact Ml r rx f.1 fx
  ·exact mV rx fx t f.2 u' hu
noncomputable def NC(x:V)(xs:List V):Bool:=xs.any fun y=>L9 y x
noncomputable def Hw(K:PM)(neg:Bool):R2:=fun x y H Q=>∃p xs,y=.ref p/\(aY K H p xs\/kZ K H p xs)/\pb x=true/\xs.all pb=true/\Q (.bl (if neg then !NC x xs else NC x xs)) H
theorem jW:iz X (QO .In) (Hw X.K false):=by
 intro pins s σ H x y v u Q I rx ry h
 obtain⟨p,xs,rfl,hq,fx,fs,q⟩:=h
 cases ry
 rcases hq with hq|hq
 ·obtain⟨its,r,pl,hz⟩:=I.list hq
  refine SeqAt.in_listAt (DN x) pl.isList (fun w hw=>mV rx fx r fs w (by simpa using hw)) ⟨.bl _,H,I,rfl,?_⟩
  rw[show its.toArray.any (DN x)=its.any (DN x) by simp,rh r fs]
  exact q
 ·obtain⟨its,r,pl,hz⟩:=I.tuple hq
  refine SeqAt.in_tupleAt (DN x) pl (fun w hw=>mV rx fx r fs w (by simpa using hw)) ⟨.bl _,H,I,rfl,?_⟩
  rw[show its.toArray.any (DN x)=its.any (DN x) by simp,rh r fs]
  exact q
theorem Bd:iz X (QO .NotIn) (Hw X.K true):=by
 intro pins s σ H x y v u Q I rx ry h
 obtain⟨p,xs,rfl,hq,fx,fs,q⟩:=h
 cases ry
 rcases hq with hq|hq
 ·obtain⟨its,r,pl,hz⟩:=I.list hq
  refine SeqAt.notIn_listAt (DN x) pl.isList (fun w hw=>mV rx fx r fs w (by simpa using hw)) ⟨.bl _,H,I,rfl,?_⟩
  rw[show its.toArray.any (DN x)=its.any (DN x) by simp,rh r fs]
  exact q
 ·obtain⟨its,r,pl,hz⟩:=I.tuple hq
  refine SeqAt.notIn_tupleAt (DN x) pl (fun w hw=>mV rx fx r fs w (by simpa using hw)) ⟨.bl _,H,I,rfl,?_⟩
  rw[show its.toArray.any (DN x)=its.any (DN x) by simp,rh r fs]
  exact q
theorem bT:fw X (.builtin "len") (fun xs H Q=>∃p ys,xs=[.ref p]/\(aY X.K H p ys\/kZ X.K H p ys)/\Q (.int ys.length) H):=by
 intro pins s σ H xs us Q I r h
 obtain⟨p,ys,rfl,hq,q⟩:=h
 obtain⟨u,rfl,rx⟩:=vals1 r
 cases rx
 have hn:=wB
 rcases hq with hq|hq
 ·obtain⟨its,r',pl,hz⟩:=I.list hq
  have hlen:=r'.length
  exact Calls.call_len_list pl.isList (by simp only[Q4]<;>omega) ⟨.int ys.length,H,I.tok _,⟨s.toks+1,by rw[Q4,hlen]⟩,q⟩
 ·obtain⟨its,r',pl,hz⟩:=I.tuple hq
  have hlen:=r'.length
  exact len_tuple pl (by simp only[Q4]<;>omega) ⟨.int ys.length,H,I.tok _,⟨s.toks+1,by rw[Q4,hlen]⟩,q⟩
theorem AV:fw X (.builtin "len") (fun xs H Q=>∃z,xs=[.str z]/\z.length<=PZ/\Q (.int z.length) H):=by
 intro pins s σ H xs us Q I r h
 obtain⟨z,rfl,hz,q⟩:=h
 obtain⟨u,rfl,t,rfl⟩:=vals1 r
 have hn:=wB
 exact len_str (by omega) ⟨.int z.length,H,I.tok _,⟨_,rfl⟩,q⟩
noncomputable def L5(K:PM)(T:String)(x:V)(H:Hp):Prop:=match x with
 |.str _=>T="str"
 |.int _=>T="int"
 |.ref p=>(T="list"/\∃xs,aY K H p xs)\/(T="tuple"/\∃o,K.lookup p=some o/\o.cls=.type "tuple"/\o.dict=none)\/
   (T="dict"/\((∃kvs,H p=some (.dK kvs))\/∃kvs,H p=some (.dT kvs)))\/(T="set"/\∃S n,H p=some (.set S n))
 |_=>False
theorem JG{pins:List (PK×PV)}{σ:St}{H:Hp}{s:PN}{T:String}{x:V}{v:PL}(I:Inv X pins σ H s)(r:RelV x v)(ty:L5 X.K T x H):
  s.TypeIs v T/\∀a,v=.ref a->∃ob,s.heap.get? a=some ob/\ob.dict=none:=by
 cases x with
 |str z=>
  obtain⟨t,rfl⟩:=r
  cases(show T="str" from ty)
  exact⟨typeIs_str s z t,fun _ e=>nomatch e⟩
 |int i=>
  obtain⟨t,rfl⟩:=r
  cases(show T="int" from ty)
  exact⟨typeIs_int s i t,fun _ e=>nomatch e⟩
 |ref p=>
  cases r
  rcases ty with⟨rfl,xs,hq⟩|⟨rfl,o,hk,hc,hd⟩|⟨rfl,hk⟩|⟨rfl,S,n,hk⟩
  ·obtain⟨its,_,pl,_⟩:=I.list hq
   refine⟨pl.isList.typeIs,fun a e=>?_⟩
   cases e
   obtain⟨o,n,e,c,hd,_⟩:=pl
   exact⟨o,e,hd⟩
  ·refine⟨⟨o,I.kIn p o hk,hc⟩,fun a e=>?_⟩
   cases e
   exact⟨o,I.kIn _ o hk,hd⟩
  ·have z:∃o,s.heap.get? p=some o/\o.ExactDict:=by
    rcases hk with⟨kvs,hk⟩|⟨kvs,hk⟩
    ·obtain⟨_,_,_,_,o,_,_,e,ex,_⟩:=I.hok p _ hk
     exact⟨o,e,ex⟩
    ·obtain⟨_,_,_,_,o,_,_,e,ex,_⟩:=I.hok p _ hk
     exact⟨o,e,ex⟩
   obtain⟨o,e,ex⟩:=z
   refine⟨⟨o,e,ex.1⟩,fun a e2=>?_⟩
   cases e2
   exact⟨o,e,ex.2.1⟩
  ·obtain⟨o,_,_,_,e,ex,_⟩:=I.hok p _ hk
   refine⟨⟨o,e,ex.1⟩,fun a e2=>?_⟩
   cases e2
   exact⟨o,e,ex.2.1⟩
 |_=>exact Rl ty
noncomputable def JE(K:PM)(T:String)(r:V->List V->Hp->VK->Prop)(to:TE):TE:=fun σ H Q=>to σ H fun x H1=>L5 K T x H1/\r x [] H1 Q
noncomputable def Dk(K:PM)(T:String)(r:V->List V->Hp->VK->Prop)(to:TE)(t:TA):TE:=fun σ H Q=>to σ H fun x H1=>L5 K T x H1/\t σ H1 fun xs H2=>r x xs H2 Q
variable {o e:PY}{es:List PY}{to:TE}{t:TA}{name:PH}{apos cpos:Qi}{T id:String}{r:V->List V->Hp->VK->Prop}
theorem Dx(pa:PlainAttrs T)(slot:Slot T name id)(hty:typeOf (.builtin id)=pure (.type "method_descriptor"))(hm:Pk X id r)(ho:PE X o to)
  (hbase:SO o name X.env (eval o X.env)=eval o X.env:=by rfl) (hline:(apos.endLine==cpos.line)=true:=by rfl):PE X (.Call (.Attribute o name apos) [] [] cpos) (JE X.K T r to):=by
 intro pins s σ H Q I h
 refine wpAny_Call_method0_late hbase hline (cI (ho pins s σ H _ I h) fun v s1 ⟨x,H1,I1,r1,ty,q1⟩=>?_)
 obtain⟨h1,h2⟩:=JG I1 r1 ty
 exact⟨T,id,pa,slot,hty,h1,h2,TQ rfl (VI (hm pins s1 σ H1 x [] v [] Q I1 r1 .nil q1))⟩
theorem jv(pa:PlainAttrs T)(slot:Slot T name id)(hty:typeOf (.builtin id)=pure (.type "method_descriptor"))(hm:Pk X id r)(ho:PE X o to)(ha:PA X (e::es) t)
  (hbase:SO o name X.env (eval o X.env)=eval o X.env:=by rfl)
  (hfew:((QF cpos (Qf (e::es) X.env)).all (fun x=>!x.1)&&(RO cpos (RT [] X.env)).all (fun x=>x.1.isSome)
   && decide ((e::es).length+([]:List Keyword).length+(if([]:List Keyword).isEmpty then 0 else 1)<30))=true:=by rfl)
  (hline:(apos.endLine==cpos.line)=true:=by rfl) (hs:Qf (e::es) X.env=(false,eval e X.env)::Qf es X.env:=by rfl) (hplain:(QF cpos (Qf es X.env)).any (·.1)=false:=by rfl):
  PE X (.Call (.Attribute o name apos) (e::es) [] cpos) (Dk X.K T r to t):=by
 intro pins s σ H Q I h
 refine wpAny_Call_method_late hbase hfew hline rfl (cI (ho pins s σ H _ I h) fun v s1 ⟨x,H1,I1,r1,ty,q1⟩=>?_)
 obtain⟨h1,h2⟩:=JG I1 r1 ty
 exists T,id,pa,slot,hty,h1,h2
 have hA:=ha cpos pins s1 σ H1 _ I1 q1
 rw[hs]at hA ⊢
 refine TQ (by show(false || (QF cpos (Qf es X.env)).any (·.1))=false;rw[hplain]<;>rfl) (V2 ?_)
 exact cI hA fun us s2 ⟨vs,H2,I2,r2,q2⟩=>hm pins s2 σ H2 x vs v us Q I2 r1 r2 q2
end
noncomputable def NJ(X:Cx)(id:String)(r:V->List V->Hp->VK->Prop):Prop:=
 ∀(pins:List (PK×PV))(s:PN)(σ:St)(H:Hp)(x:V)(xs:List V)(v:PL)(us:List PL)(Q:VK),Inv X pins σ H s->RelV x v->bR xs us->r x xs H Q->
  PQ (model X.prog X.w) X.A (call (.builtin id) (v::us)) (EP X pins σ Q) X.xe s
theorem bR.one:∀{x:V}{us:List PL},bR [x] us->∃u,us=[u]/\RelV x u
 |_,_,.cons r .nil=>⟨_,rfl,r⟩
theorem bR.rep{xs:List V}{us:List PL}(h:bR xs us):∀k:Nat,bR (QT k xs).flatten (QT k us).flatten
 |0=>.nil
 |k+1=>by
  rw[SJ,SJ,TB,TB]
  exact bR.append h (bR.rep h k)
theorem foldl_rep(its:List PL):∀(k:Nat)(acc:List PL),
  Vt (fun x1 x2=>x1++x2) acc.toArray (QT k its.toArray)=(acc++(QT k its).flatten).toArray
 |0,acc=>by simp
 |k+1,acc=>by
  have e:acc.toArray++its.toArray=(acc++its).toArray:=by simp
  have e2:(acc++its)++(QT k its).flatten=acc++(QT (k+1) its).flatten:=by
   rw[SJ,TB,VZ]
  rw[<-e2,<-foldl_rep its k (acc++its),<-e,SJ,Ym]
section
variable {X:Cx}{pins:List (PK×PV)}{σ:St}{H:Hp}{s:PN}{l b:PK}{xs ys zs:List V}
theorem Inv.lset{its its':List PL}{n:Nat}{f:Array PL->Array PL}{t':Nat}(I:Inv X pins σ H s)(hH:H l=some (.lst xs))
  (e:s.heap.get? l=some {cls:=.type "list",data:=.seq its.toArray n}) (hf:f its.toArray=its'.toArray) (hv:bR ys its') (hz:ys.length<=PZ):
  Inv X pins σ (upd H l (.lst ys)) {s with heap:=s.heap.update l (Wq f),toks:=t'}:=by
 have q:=Z4 e f
 rw[hf]at q
 refine I.write (x:=l) (e:=l) (by rw[hH];exact trivial) (.inl rfl) (fun b' u hb hu=>(Sz s.heap (Wq f) (Qy hb)).trans hu) ⟨_,q⟩ ?_
 exact⟨hz,its',_,hv,q⟩
theorem Inv.lnew{its:List PL}{t':Nat}(I:Inv X pins σ H s)(hv:bR ys its)(hz:ys.length<=PZ):
  Inv X pins σ (upd H s.heap.objs.size (.lst ys)) {s with heap:=s.heap.push {cls:=.type "list",data:=.seq its.toArray},toks:=t'}:=
 I.laid (fun _ _ q=>Qr _ q) (Qe _) ⟨hz,its,0,hv,Qz _ rfl⟩
theorem Inv.fresh(I:Inv X pins σ H s):H s.heap.objs.size=none:=I.hok.fresh (Qe _)
theorem Inv.lstM(I:Inv X pins σ H s)(hH:H l=some (.lst xs)):xs.length<=PZ/\∃(its:List PL)(n:Nat),bR xs its/\xs.length=its.length/\s.heap.get? l=some {cls:=.type "list",data:=.seq its.toArray n}:=by
 obtain⟨z,its,n,r,e⟩:=I.hok l _ hH
 exact⟨z,its,n,r,r.length,e⟩
theorem BR{n:Nat}(h:n<=PZ):Ux n=false:=by
 unfold Ux
 exact decide_eq_false (by omega)
end
section
variable {X:Cx}
noncomputable def lD:V->List V->Hp->VK->Prop:=fun x vs H Q=>∃l xs y,x=.ref l/\vs=[y]/\H l=some (.lst xs)/\xs.length<PZ/\Q .non (upd H l (.lst (xs++[y])))
theorem ia:NJ X "list.append" lD:=by
 intro pins s σ H x vs v us Q I rx rv h
 obtain⟨l,xs,y,rfl,rfl,hH,hz,q⟩:=h
 cases rx
 obtain⟨u,rfl,ru⟩:=rv.one
 obtain⟨z,its,n,r,hl,e⟩:=I.lstM hH
 refine RL Tf ⟨_,e,rfl⟩ F.entry_list_append (F.args_list_append_2 _ _) (PySem.list_append l its.toArray n u (by rw[Q4];omega)) ⟨e,?_⟩
 refine⟨.non,_,I.lset (its':=its++[u]) hH e (by simp) (r.append (.cons ru .nil)) ?_,rfl,q⟩
 rw[QV,R8]
 omega
noncomputable def KZ:V->List V->Hp->VK->Prop:=fun x vs H Q=>∃l b xs zs,x=.ref l/\vs=[.ref b]/\H l=some (.lst xs)/\H b=some (.lst zs)/\xs.length+zs.length<=PZ/\Q .non (upd H l (.lst (xs++zs)))
theorem ND:NJ X "list.extend" KZ:=by
 intro pins s σ H x vs v us Q I rx rv h
 obtain⟨l,b,xs,zs,rfl,rfl,hH,hB,hz,q⟩:=h
 cases rx
 obtain⟨u,rfl,ru⟩:=rv.one
 cases ru
 obtain⟨z,its,n,r,hl,e⟩:=I.lstM hH
 obtain⟨z2,its2,n2,r2,hl2,e2⟩:=I.lstM hB
 have hsz:its.toArray.size+its2.toArray.size<=PZ:=by rw[Q4,Q4];omega
 have hlong:¬(!its.toArray.isEmpty&&Ux (its.toArray.size+its2.toArray.size))=true:=by
  rw[BR hsz,Vo]
  exact QM
 refine RL F.slot_list_extend ⟨_,e,rfl⟩ F.entry_list_extend (F.args_list_extend_2 _ _)
  (aan l its.toArray n b its2.toArray n2 hlong (by rw[Q4];omega) (by omega)) ⟨e,e2,?_⟩
 refine⟨.non,_,I.lset (its':=its++its2) hH e (by simp) (r.append r2) ?_,rfl,q⟩
 rw[QV]
 omega
noncomputable def g9:R2:=fun x y H Q=>∃l b xs zs,x=.ref l/\y=.ref b/\H l=some (.lst xs)/\H b=some (.lst zs)/\xs.length+zs.length<=PZ/\∀p,H p=none->Q (.ref p) (upd H p (.lst (xs++zs)))
theorem c6:iz X (Rr .Add) g9:=by
 intro pins s σ H x y v u Q I rx ry h
 obtain⟨l,b,xs,zs,rfl,rfl,hH,hB,hz,q⟩:=h
 cases rx
 cases ry
 obtain⟨z,its,n,r,hl,e⟩:=I.lstM hH
 obtain⟨z2,its2,n2,r2,hl2,e2⟩:=I.lstM hB
 refine Zx e e2 ?_ (by rw[Q4,Q4];omega)
 have ea:its.toArray++its2.toArray=(its++its2).toArray:=by simp
 rw[ea]
 exact⟨.ref _,_,I.lnew (t':=s.toks) (r.append r2) (by rw[QV];omega),rfl,q _ I.fresh⟩
noncomputable def IB:R2:=fun x y H Q=>∃l k xs,x=.ref l/\y=.int k/\H l=some (.lst xs)/\-(2 ^ 63)<=k/\k<2 ^ 63/\xs.length*k.toNat<=PZ/\
 ∀p,H p=none->Q (.ref p) (upd H p (.lst (QT k.toNat xs).flatten))
theorem len_rep{α:Type}(xs:List α)(k:Nat):(QT k xs).flatten.length=k*xs.length:=by
 induction k with
 |zero=>simp
 |succ k ih=>rw[SJ,TB,QV,ih,Nat.succ_mul,Nat.add_comm]
theorem Ei:iz X (Rr .Mult) IB:=by
 intro pins s σ H x y v u Q I rx ry h
 obtain⟨l,k,xs,rfl,rfl,hH,h1,h2,hz,q⟩:=h
 cases rx
 obtain⟨t,rfl⟩:=ry
 obtain⟨z,its,n,r,hl,e⟩:=I.lstM hH
 have hlen:its.toArray.size*k.toNat<=PZ:=by rw[Q4,<-hl];exact hz
 have hcap:¬its.toArray.size*k.toNat>(2 ^ 63-1)/8:=by
  have:(PZ:Nat)<=(2 ^ 63-1)/8:=by decide
  omega
 have hfit:¬(!Builtin.List.listFitsIndex k)=true:=by
  rw[fitsIndex_both h1 h2]
  exact QM
 have hlong:¬Ux (its.toArray.size*k.toNat)=true:=by
  rw[BR hlen]
  exact QM
 have hnew:Vt (fun x1 x2=>x1++x2) #[] (QT (if its.toArray.isEmpty=true then 0 else k.toNat) its.toArray)=(QT k.toNat its).flatten.toArray:=by
  have f0:∀m:Nat,Vt (fun x1 x2=>x1++x2) #[] (QT m its.toArray)=(QT m its).flatten.toArray:=fun m=>by
   have:=foldl_rep its m []
   rw[List.nil_append]at this
   exact this
  rw[f0]
  cases its with
  |nil=>simp
  |cons a r'=>rw[if_neg (by simp)]
 refine wpAny_binaryOp_repeat_ref (T:="list") (U:="int") (by decide) ⟨_,e,rfl⟩ (fun s'=>typeIs_int s' k t) noFill_list_mul F.fills_int_mul X0 repeat_list F.slot_int_index.lookup
  (RL X0 (typeIs_int s k t) F.entry_int_rmul (F.args_int_rmul_2 _ _) (int___rmul___int_list k t l its.toArray n)
   ⟨e,rfl,⟨_,e,rfl⟩,RL F.slot_list_mul ⟨_,e,rfl⟩ F.entry_list_mul (F.args_list_mul_2 _ _) (Y5 l its.toArray n k t hfit hcap hlong) ⟨e,?_⟩⟩)
 rw[hnew]
 exact⟨.ref _,_,I.lnew (t':=s.toks) (r.rep k.toNat) (by rw[len_rep,Yv];exact hz),rfl,q _ I.fresh⟩
end
section
variable {prog:Qc}{w:P8}{A:Qg}{E:PL->PN->Prop}{s:PN}
end
section
variable {X:Cx}
end
end L2
namespace Att
open PySem PySem.W PySem.Calls PyProof.Rows
theorem ux{P:Params}{h:P0}:∀(ns:List Int)(vs:List PL),WellAll P h vs (ns.map XI)->SH vs ns:=by
 intro ns
 induction ns with
 |nil=>
  intro vs w
  rw[S7]at w
  cases w
  exact .nil
 |cons n ns ih=>
  intro vs w
  rw[Qu]at w
  cases w with
  |cons a b=>
   cases a
   exact .cons _ _ (ih _ b)
theorem GS{l:OpenLaw}{n:Nat}(hn:l.most=some n){P:Params}{h:P0}{args:List WData}{vals:List PL}
  (hpre:l.row.toRowW.claim.pre args=true) (hwl:WellAll P h vals args):
  ∃a vs ns,vals=[Qo a]/\args=[WData.list (ns.map XI)]/\h.get? a=some {cls:=.type "list",data:=.seq vs.toArray}/\SH vs ns/\ns.length<=n:=by
 have hsh:WShape.hasAll [] args [.list .int]=true:=(pre_splitW hpre).1
 have hc:l.pre.holds [] {args:=args}=true:=(pre_splitW hpre).2
 obtain⟨d,r,rfl,h1,h2⟩:=hasAllW_cons hsh
 obtain rfl:=hasAllW_nil h2
 obtain⟨xs,rfl,h3⟩:=hasW_list h1
 obtain⟨ns,rfl⟩:=items_int h3
 have hlen:ns.length<=n:=by
  unfold Zo at hc
  have h4:(WTm.not (.lt (.lit (.int (n:Int))) (.len (.arg 0)))).holds [] {args:=[.list (ns.map .int)]}=true:=by
   have h4:=(holds_andW hc).1
   rw[hn]at h4
   exact h4
  have h5:=condW_of h4 (w_not (w_lt w_lit (w_len_list (w_arg rfl))))
  rw[P7]at h5
  refine Vr fun q=>?_
  have q':(n:Int)<((ns.length:Nat):Int):=by omega
  first
   |(rw[decide_eq_true q']at h5;exact absurd h5 (by decide))
   |(simp at h5;omega)
 cases hwl with
 |cons w1 w2=>
  cases w2
  cases w1 with
  |list ho hall=>exact⟨_,_,ns,rfl,rfl,ho,ux ns _ hall,hlen⟩
theorem Gv(l:OpenLaw)(args:List WData):l.row.toRowW.claim.post args (.bool true) args=true:=
 postW_of (r:=l.row.toRowW) (X:=(true==true))
  (show YG [] (.bool true) .bool=true by first|rfl|decide|simp[YG,WShape.arms,WShape.armsAll])
  (show(WTm.eq .res (.lit (.bool true))).value [] {args:=args,res:=some (.bool true),after:=args}=some (.bool (true==true))from w_eq_bool (w_res rfl) w_lit) rfl
theorem Dj{l:OpenLaw}{n:Nat}{q:Qc}{loose:List PH}{XP:(PH->Option PL)->P0->Prop}{YP:P8->P0->Prop}{d:DefRec}
  (hn:l.most=some n) (hdf:d.params.defaults=[])
  (call:∀(w:P8)(s₀ s₁:PN)(mg mb:PH->Option PL)(fa:PK)(o:PV)(pm cd doc:PL)(a:PK)(vs:List PL)(ns:List Int),
   Ground q loose [] XP w s₀ mg mb s₁.heap->YP w s₁.heap->
   s₁.heap.get? fa=some o->o.data=.func (docDef d.name d.params d.body d.scope pm cd doc)->s₁.heap.CodeRec cd d.name->mg d.name=some (.ref fa)->
   s₁.heap.get? a=some {cls:=.type "list",data:=.seq vs.toArray}->SH vs ns->ns.length<=n->s₁.gens=#[]->
   RU (model l.prog w) callerA (.call (.ref fa) ⟨[.ref a],[]⟩) (fun r s'=>r=.ok (.ret (.bool true))/\OldK s₁.heap s'.heap/\s'.os=s₁.os/\R0 s'.gens) s₁):
  WalkO q loose XP YP l.row.toRowW d [] (fun f vs=>V3 f vs):=by
 intro w s₀ s₁ mg mb G Y fa o pm cd doc dV kV ho hd hcd hD hmg hg args vals as hpre hlay hrd hwl hlo
 obtain rfl:dV=.none:=Dflts.none hD hdf
 obtain rfl:kV=.none:=Dflts.noKw hD
 obtain⟨a,vs,ns,rfl,rfl,hobj,hints,hlen⟩:=GS hn hpre hwl
 refine enter_call (codeAny_mono (call w s₀ s₁ mg mb fa o pm cd doc a vs ns G Y ho (fd_plain hd) hcd hmg hobj hints hlen hg) fun r s' hq=>?_)
 obtain⟨rfl,h2,h3,h4⟩:=hq
 exact⟨.inl ⟨.bool true,.bool true,[],rfl,fun _=>rfl,.bool true,Gv l _,fun _=>⟨aaP,fun _ hm=>(nomatch hm)⟩⟩,h2,h3,h4⟩
section
variable {prog:Qc}{w:P8}{A:Qg}{E:PL->PN->Prop}{s:PN}{K:Frag}
end
end Att
namespace L2
open PySem PySem.Spec PyProof.Rows
theorem rS:∀{vs:List PL}{ns:List Int},SH vs ns->bR (ns.map V.int) vs
 |_,_,.nil=>.nil
 |_,_,.cons n t h=>.cons ⟨t,rfl⟩ (rS h)
noncomputable def Mg(H:Hp):Prop:=∀b,H b=none\/∃o xs,H b=some (.frz o (.lst xs))
theorem HY{P:Qc}{w:P8}{K:PM}{mg mb:PH->Option PL}{CX:Gu}{k:Nat}{fa a:PK}{fd:RF}{x:PH}{sp:Sp}{s₁:PN}{vs:List PL}{ns:List Int}
  (KX:K.In s₁.heap) (hns:s₁.heap.Ns QI mg) (hb:s₁.heap.Ns builtinsNs mb) (hbb:∀x:PH,x≠"__name__"->mb x=Tp x) (hlim:s₁.heap.NoLimit) (hg:s₁.gens=#[])
  (ha:s₁.heap.get? a=some {cls:=.type "list",data:=.seq vs.toArray}) (hi:SH vs ns) (hl:ns.length<=PZ) (hr:di k callerA)
  (F:∀base:P0,K.In base->base.Ns QI mg->mw P w K mg base CX k fa fd [x] sp) (hbind:∀(s:PN)(u:PL),BindsTo s fd ⟨[u],[]⟩ [(x,u)])
  (hsp:∀H:Hp,Mg H->aY K H a (ns.map V.int)->sp [.ref a] H (fun v _=>v=.bl true) fun _ _ _=>False)
  (hCX:∀H e s',CX [] H s₁ (fun _ _ _=>False) e s'->False):
  RU (model P w) callerA (.call (.ref fa) ⟨[.ref a],[]⟩) (fun r s'=>r=.ok (.ret (.bool true))/\OldK s₁.heap s'.heap/\s'.os=s₁.os/\R0 s'.gens) s₁:=by
 have rv:=rS hi
 have lenV:=hi.length
 have core:∀H:Hp,Mg H->aY K H a (ns.map V.int)->oy P w H s₁.heap->(∀b,H b≠none->b=a)->(H a≠none->K.lookup a=none)->
   RU (model P w) callerA (.call (.ref fa) ⟨[.ref a],[]⟩) (fun r s'=>r=.ok (.ret (.bool true))/\OldK s₁.heap s'.heap/\s'.os=s₁.os/\R0 s'.gens) s₁:=by
  intro H hO hS hok hA hK
  have base_of:∀{b:PK}{o:PV},s₁.heap.get? b=some o->H b=none->(zS s₁.heap H).get? b=some o:=fun e n=>IY e n
  have noA:∀{b:PK}{o:PV}{es:Array RQ}{ep:Nat},s₁.heap.get? b=some o->o.data=.dict es ep->H b=none:=fun {b o es ep} e d=>by
   cases q:H b with
   |none=>rfl
   |some u=>
    have e':b=a:=hA b (by rw[q];simp)
    subst e'
    rw[ha]at e;cases e
    have d':V0 vs.toArray _=Data.dict es ep:=d
    cases d'
  have nsK:∀{b:PK}{m:PH->Option PL},s₁.heap.Ns b m->(zS s₁.heap H).Ns b m:=fun {b m} ⟨o,es,ep,e,d,r⟩=>⟨o,es,ep,base_of e (noA e d),d,r⟩
  have hKb:K.In (zS s₁.heap H):=fun b o e=>base_of (KX b o e) (by
   cases q:H b with
   |none=>rfl
   |some u=>
    have e':b=a:=hA b (by rw[q];simp)
    subst e'
    rw[hK (by rw[q];simp)]at e;cases e)
  have hM:Mod K mg (zS s₁.heap H):=⟨hKb,nsK hns,⟨mb,nsK hb,hbb⟩,let ⟨mc,h1,h2⟩:=hlim;⟨mc,nsK h1,h2⟩⟩
  have e0:Ee P w K mg (zS s₁.heap H) callerA [] s₁ H:=⟨rfl,hM,fun b o e=>KA e,Th (GI _ _),trivial,fun b hb=>absurd (show b∈([]:List PK)from hb) (by simp),hok,.of_eq hg⟩
  refine codeAny_mono ((F _ hKb (nsK hns)).run callerA [] s₁ H ⟨[.ref a],[]⟩ [.ref a] [.ref a] _ _ hr e0 (hbind s₁ (.ref a)) (.cons rfl .nil) (hsp H hO hS)) fun r s' h=>?_
  cases r with
  |error e=>exact(hCX H e s' h).elim
  |ok fl=>
   cases fl with
   |next=>exact Rl h
   |brk=>exact Rl h
   |cont=>exact Rl h
   |ret u=>
    obtain⟨v,H',os,bare,un,hok',r',q⟩:=h
    have q':v=.bl true:=q
    subst q'
    obtain rfl:u=Sl true:=r'
    refine⟨rfl,OldK.of_keep fun b o e=>?_,os,bare⟩
    cases q:H b with
    |none=>exact un.keep b o e q (by intro z;exact absurd (show b∈([]:List PK)from z) (by simp)) (by simp)
    |some u=>
     rcases hO b with z|⟨ob,xs,z⟩
     ·rw[q]at z;cases z
     ·have z2:=un.frzs b ob _ z
      obtain⟨e1,_⟩:=hok b _ z
      obtain⟨e2,_⟩:=hok' b _ z2
      rw[e]at e1;cases e1
      exact e2
 cases hk:K.lookup a with
 |some o=>
  have e:=KX a o hk
  rw[ha]at e
  cases e
  refine core (fun _=>none) (fun _=>.inl rfl) (.inr ⟨_,vs.toArray,_,hk,rfl,rfl,rfl,by rw[Q4,lenV];exact hl,by simpa using rv⟩) (fun b u z=>by have z':(none:Option HO)=some u:=z;cases z') (fun b z=>absurd rfl z) fun z=>absurd rfl z
 |none=>
  refine core (fun b=>if b=a then some (.frz {cls:=.type "list",data:=.seq vs.toArray} (.lst (ns.map V.int)))else none) (fun b=>?_) (.inl (.inr ⟨{cls:=.type "list",data:=.seq vs.toArray},if_pos rfl⟩)) (fun b u z=>?_) (fun b z=>?_) fun _=>hk
  ·by_cases hb:b=a
   ·exact .inr ⟨_,_,if_pos hb⟩
   ·exact .inl (if_neg hb)
  ·by_cases hb:b=a
   ·have z':=(if_pos hb).symm.trans z
    cases z'
    subst hb
    exact⟨ha,by rw[P7];exact hl,vs,_,rv,ha⟩
   ·have z':=(if_neg hb).symm.trans z
    cases z'
  ·by_cases hb:b=a
   ·exact hb
   ·exact absurd (if_neg hb) z
noncomputable abbrev x9{K:PM}{h:P0}(_:K.In h):PM:=K
theorem Kw{l:XN}{n k:Nat}{q:Qc}{loose:List PH}{XP:(PH->Option PL)->P0->Prop}{YP:P8->P0->Prop}{d:DefRec}{K:Params->PM}{CX:P8->Gu}{sp:P8->Sp}{x:PH}
  (hn:l.most=some n) (hn2:n<=PZ) (hdf:d.params.defaults=[]) (hr:di k callerA)
  (hY:∀(w:P8)(h:P0),YP w h->(K w.params).In h)
  (F:∀(w:P8)(mg:PH->Option PL)(fa:PK)(h:P0),(K w.params).In h->h.Ns QI mg->mg d.name=some (.ref fa)->
   ∃fd:RF,(∀(s:PN)(u:PL),BindsTo s fd ⟨[u],[]⟩ [(x,u)])/\
    ∀base:P0,(K w.params).In base->base.Ns QI mg->mw l.prog w (K w.params) mg base (CX w) k fa fd [x] (sp w))
  (hsp:∀(w:P8)(H:Hp)(a:PK)(ns:List Int),ns.length<=n->Mg H->aY (K w.params) H a (ns.map V.int)->sp w [.ref a] H (fun v _=>v=.bl true) fun _ _ _=>False)
  (hCX:∀(w:P8)(H:Hp)(s:PN)(e:PL)(s':PN),CX w [] H s (fun _ _ _=>False) e s'->False):
  Yr q loose XP YP l.row.toRowW d [] (fun f vs=>V3 f vs):=by
 refine Att.Dj hn hdf fun w s₀ s₁ mg mb fa o pm cd doc a vs ns G Y ho hd hcd hmg hobj hints hlen hg=>?_
 have KX:=hY w _ Y
 obtain⟨fd,hb,hF⟩:=F w mg fa _ KX G.T.g hmg
 exact HY KX G.T.g G.T.b G.T.builtins G.T.nolimit hg hobj hints (P6 hlen hn2) hr hF hb (fun H hO hS=>hsp w H a ns hlen hO hS) fun H e s'=>hCX w H s₁ e s'
noncomputable def inClass(s:P5)(j:Nat):P5:=match s with
 |.ClassDef _ _ _ body _ _ _ _ _ _ _=>body.getD j (.Pass ⟨0,0,0,0⟩)
 |_=>.Pass ⟨0,0,0,0⟩
noncomputable def ky(s:P5):Arguments:=match s with
 |.FunctionDef _ a _ _ _ _ _ _ _ _=>a
 |_=>{posonlyargs:=[],args:=[],vararg:=none,kwonlyargs:=[],kw_defaults:=[],kwarg:=none,defaults:=[]}
noncomputable def dH(s:P5):List P5:=match s with
 |.FunctionDef _ _ b _ _ _ _ _ _ _=>b
 |_=>[]
noncomputable def aq(s:P5):QS:=match s with
 |.FunctionDef _ _ _ _ _ _ sc _ _ _=>sc
 |_=>{kind:=.function,names:=[],isGenerator:=false,isCoroutine:=false}
noncomputable abbrev sR:Gu:=fun _ _ _ _ _ _=>False
noncomputable abbrev E0:XK:=fun _ _ _=>False
theorem Fy{X:Cx}:lx sR X E0:=fun _ _ _ _ _ _ _ h=>h.elim
structure Mz(K:PM)(x qual:PH)(st:P5)(f:PK)(fd:RF):Prop where
 ex:∃(oc:PL)(od:Option PK)(kV doc pm:PL)(an:Option PK)(cdv ct:PL)(osl:Array (Option PL)),
  fd=Sa x qual (ky st) (dH st) (aq st) .none kV doc pm an cdv ct/\K.lookup f=some ⟨oc,od,.func fd,osl⟩/\TL K cdv qual=true
 kp:RW K (.ref f)=true
section
variable {P:Qc}{w:P8}{K:PM}{mg:PH->Option PL}{base:P0}
theorem Mz.ok{x qual:PH}{st:P5}{f:PK}{fd:RF}{N ps:List PH}{k:Nat}{sp:Sp}(F:Mz K x qual st f fd)(S:aB N ps (aq st))(len:∀vs H Q E,sp vs H Q E->vs.length=ps.length)
  (hbody:∀(cdv:PL)(A:Qg)(outer:List Qq)(s:PN)(H:Hp)(vs:List V)(Q:VK)(E:XK),di k (A.deeper (Q9 qual (aq st) s.heap.objs.size f cdv))->sp vs H Q E->
   ∃t,xI (cv sR P w K mg base N qual (aq st) f cdv A outer s H E).nox (dH st) t/\t {nx:=fun _ H'=>Q .non H',rt:=Q} (start N vs) H):mw P w K mg base sR (k+1) f fd ps sp:=by
 obtain⟨oc,od,kV,doc,pm,an,cdv,ct,osl,rfl,lk,hcd⟩:=F.ex
 refine LU lk hcd S len fun A outer s H vs Q E hr hsp=>?_
 obtain⟨t,h,q⟩:=hbody cdv A outer s H vs Q E hr hsp
 exact⟨t,h.nox,q⟩
theorem IT{x qual:PH}{st:P5}{f:PK}{oc:PL}{od an:Option PK}{osl:Array (Option PL)}{kV doc pm cdv ct:PL}(l:K.lookup f=some ⟨oc,od,.func (Sa x qual (ky st) (dH st) (aq st) .none kV doc pm an cdv ct),osl⟩)
  (c:TL K cdv qual=true) (k:RW K (.ref f)=true):Mz K x qual st f (Sa x qual (ky st) (dH st) (aq st) .none kV doc pm an cdv ct):=⟨⟨oc,od,kV,doc,pm,an,cdv,ct,osl,rfl,l,c⟩,k⟩
end
theorem xB{A:Qg}{k:Nat}(hr:di k A):A.units+1<cLine:=VN (Nat.add_le_add_left (by decide:1<=64) _) hr.units
theorem Gc{n:Nat}(h:n<=1000):n<PZ:=VN h (by decide)
section
variable {X:Cx}
theorem pv(i:Nat){x:PH}{pos:Qi}(hN:X.N[i]?=some x:=by rfl)(hv:Mf X.env.scope x:=by first|exact PU rfl|exact RX (PU rfl)|exact RX (RX rfl))(hd:(x==("__debug__":PH))=false:=by decide)
  (hcd:(x==("__classdict__":PH))=false:=by decide):PE X (.Name x pos) (af i):=Ny hN hv hd hcd
end
theorem HM{A B:Prop}(h:B):if false=true then A else B:=by
 rw[if_neg QM]
 exact h
theorem F7{A B:Prop}(h:A):if true=true then A else B:=by
 rw[if_pos rfl]
 exact h
theorem LA{c A B:Prop}[Decidable c](h1:c->A)(h2:¬c->B):if c then A else B:=by
 by_cases h:c
 ·rw[if_pos h]
  exact h1 h
 ·rw[if_neg h]
  exact h2 h
theorem Je{c A B:Prop}[Decidable c](hc:c)(h:B):if(!decide c)=true then A else B:=by
 rw[decide_eq_true hc]
 exact HM h
noncomputable def av(H H':Hp):Prop:=∀b o,H b=some o->H' b=some o
theorem av.refl(H:Hp):av H H:=fun _ _ h=>h
theorem av.trans{H H1 H2:Hp}(a:av H H1)(b:av H1 H2):av H H2:=fun c o h=>b c o (a c o h)
theorem av.free{H H':Hp}(e:av H H'){l:PK}(h:H' l=W4):H l=W4:=by
 cases q:H l with
 |none=>rfl
 |some o=>
  rw[e l o q]at h
  cases h
theorem av.seq{K:PM}{H H':Hp}{a:PK}{xs:List V}(e:av H H')(h:aY K H a xs):aY K H' a xs:=by
 rcases h with(h|⟨o,h⟩)|h
 ·exact .inl (.inl (e _ _ h))
 ·exact .inl (.inr ⟨o,e _ _ h⟩)
 ·exact .inr h
section
variable {prog:Qc}{w:P8}{A:Qg}{R:Result->PN->Prop}{s:PN}
theorem AU{elt target iter:PY}{ifs:List PY}{scope:QS}{pos:Qi}{it acc:PL}{env:Qq}(I:Nat->PN->Prop)
  (turn:∀n s,I n s->PQ (model prog w) A (Rg it) (fun r s₁=>match r with
   |none=>R (.ok .next) s₁
   |some v=>PQ (model prog w) A (letOwnedTupleGo target it v) (fun _ s₀=>PQ (model prog w) A (assign target env v) (fun _ s₂=>
     PQ (model prog w) A (forIn ifs true fun c r=>if r=true then do let ok <-isTrue c env (eval c env);pure (S9 ok)else pure (S9 r)) (fun ok s₃=>
      if ok=true then PQ (model prog w) A (eval elt env) (fun x s₄=>
       PQ (model prog w) A (call (.builtin "list.append") [acc,x]) (fun _ s₅=>∃m,m<n/\I m s₅) (fun _ _=>False) s₄) (fun _ _=>False) s₃
      else ∃m,m<n/\I m s₃) (fun _ _=>False) s₂) (fun _ _=>False) s₀) (fun _ _=>False) s₁) (fun _ _=>False) s)
  (n:Nat) (h:I n s):
  RU (model prog w) A (.compLoop (.ListComp elt [⟨target,iter,ifs,0⟩] scope pos) 0 it acc env) R s:=by
 refine codeAny_loop rfl I (fun n s hI=>?_) n h
 show PQ _ A ((compTurn (.ListComp elt [⟨target,iter,ifs,0⟩] scope pos) 0 it acc env).onRaise (fun x=>do noteFrame x env;theTreesLotGoes x)) _ _ s
 refine wpAny_noted ?_
 rw[compTurn_list]
 refine PR (wpAny_standAt (PR (Q5 (turn n s hI) (fun r s₁ h₁=>?_) fun _ _ h'=>h'.elim)))
 cases r with
 |none=>exact Qh h₁
 |some v=>
  refine PR (Q5 h₁ (fun _ s₀ h₀=>?_) fun _ _ h'=>h'.elim)
  refine PR (Q5 h₀ (fun _ s₂ h₂=>PR (Q5 h₂ (fun ok s₃ h₃=>?_) fun _ _ h'=>h'.elim)) fun _ _ h'=>h'.elim)
  cases ok with
  |false=>exact Qh ⟨rfl,h₃⟩
  |true=>
   exact PR (PR (Q5 h₃ (fun x s₄ h₄=>PR (Q5 h₄ (fun _ s₅ h₅=>Qh (Qh ⟨rfl,h₅⟩)) fun _ _ h'=>h'.elim)) fun _ _ h'=>h'.elim))
end
noncomputable def bp(env:Qq):List (PH×Q8)->List (PH×PK)->List (PH×PK)
 |[],acc=>acc
 |(x,k)::r,acc=>if k==.free then bp env r ((x,(env.cells.lookup x).getD 0)::acc)else bp env r acc
theorem lP{scope:QS}{env:Qq}(h:∀x∈scope.names,x.2=.free->∃c,env.cells.lookup x.1=some c):closureFor scope env=pure (bp env scope.names []):=by
 have all:∀(names:List (PH×Q8))(acc:List (PH×PK)),(∀x∈names,x.2=.free->∃c,env.cells.lookup x.1=some c)->
   (forIn names acc fun (x:PH×Q8) (r:List (PH×PK))=>(if(x.2==RK)=true then do let a <-cellOf env x.1;pure (S9 ((x.1,a)::r))else pure (S9 r):Sem (ForInStep (List (PH×PK)))))=pure (bp env names acc):=by
  intro names
  induction names with
  |nil=>intro acc _;rfl
  |cons x r ih=>
   intro acc hx
   obtain⟨n,k⟩:=x
   have hr:=fun y hy=>hx y (Qs _ hy)
   rw[TF]
   unfold bp
   by_cases hk:(k==RK)=true
   ·obtain⟨c,hc⟩:=hx (n,k) QH (by simpa using hk)
    have hc':env.cells.lookup n=some c:=hc
    have e1:cellOf env n=pure c:=by unfold cellOf;rw[hc']
    simp only[hk,if_true,e1,pure_bind,hc',Option.getD_some]
    exact ih _ hr
   ·simp only[hk,Sw,if_false,pure_bind]
    exact ih _ hr
 have:=all scope.names [] h
 simp only[closureFor]
 first
  |exact this
  |(refine T4 ?_ (this);rfl)
  |(rw[show(forIn scope.names ([]:List (PH×PK)) _:Sem _)=_ from this];rfl)
theorem lF{env:Qq}:∀(names:List (PH×Q8))(acc:List (PH×PK))(x:PH)(c:PK),(x,c)∈bp env names acc->((x,RK)∈names/\c=(env.cells.lookup x).getD 0)\/(x,c)∈acc
 |[],_,_,_,h=>.inr h
 |(y,k)::r,acc,x,c,h=>by
  unfold bp at h
  split at h
  ·rename_i hk
   have hk:k=.free:=by simpa using hk
   rcases lF r _ x c h with⟨h1,h2⟩|h1
   ·exact .inl ⟨Qs _ h1,h2⟩
   ·rcases Qb.mp h1 with e|h1
    ·cases e;subst hk;exact .inl ⟨QH,rfl⟩
    ·exact .inr h1
  ·rcases lF r _ x c h with⟨h1,h2⟩|h1
   ·exact .inl ⟨Qs _ h1,h2⟩
   ·exact .inr h1
theorem kM{env:Qq}:∀(names:List (PH×Q8))(acc:List (PH×PK))(p:PH×PK),p∈acc->p∈bp env names acc
 |[],_,_,h=>h
 |(y,k)::r,acc,p,h=>by
  unfold bp
  split
  ·exact kM r _ p (Qs _ h)
  ·exact kM r _ p h
theorem lJ{env:Qq}:∀(names:List (PH×Q8))(acc:List (PH×PK))(x:PH),(x,RK)∈names->(x,(env.cells.lookup x).getD 0)∈bp env names acc
 |[],_,_,h=>nomatch h
 |(y,k)::r,acc,x,h=>by
  unfold bp
  rcases Qb.mp h with e|h
  ·cases e
   rw[if_pos (by rfl)]
   exact kM r _ _ QH
  ·split
   ·exact lJ r _ x h
   ·exact lJ r _ x h
theorem mem_lookup{α:Type}:∀{l:List (PH×α)}{x:PH}{c:α},(x,c)∈l->∃d,l.lookup x=some d
 |(k,v)::r,x,c,h=>by
  rw[RH]
  cases hb:x==k with
  |true=>exact⟨v,rfl⟩
  |false=>
   rcases Qb.mp h with e|h
   ·cases e;simp at hb
   ·exact mem_lookup h
theorem lO{env:Qq}{names:List (PH×Q8)}{x:PH}{c:PK}(h:(bp env names []).lookup x=some c)(hh:∀y∈names,y.2=.free->∃c,env.cells.lookup y.1=some c):
  (x,RK)∈names/\env.cells.lookup x=some c:=by
 rcases lF names [] x c (mem_of_lookup h)with⟨h1,h2⟩|h1
 ·obtain⟨d,hd⟩:=hh _ h1 rfl
  have hd':env.cells.lookup x=some d:=hd
  rw[hd']at h2
  exact⟨h1,by rw[h2];exact hd'⟩
 ·exact nomatch h1
theorem o9{env:Qq}{names:List (PH×Q8)}{x:PH}(hx:(x,RK)∈names)(hh:∀y∈names,y.2=.free->∃c,env.cells.lookup y.1=some c):
  ∃c,(bp env names []).lookup x=some c/\env.cells.lookup x=some c:=by
 obtain⟨d,hd⟩:=mem_lookup (lJ names [] x hx)
 exact⟨d,hd,(lO hd hh).2⟩
theorem sJ:∀(names:List (PH×Q8))(n:Nat)(acc:List (PH×PK))(x:PH),(x,Rw)∉names->(Q0 n names acc).lookup x=acc.lookup x
 |[],_,_,_,_=>rfl
 |(y,k)::r,n,acc,x,h=>by
  unfold Q0
  have hr:(x,Rw)∉r:=fun z=>h (Qs _ z)
  split
  ·rename_i hk
   have hk:k=.cell:=by simpa using hk
   rw[sJ r _ _ x hr,RH]
   cases hb:x==y with
   |true=>
    have e:x=y:=by simpa using hb
    exact absurd QH (by subst e;subst hk;exact h)
   |false=>rfl
  ·exact sJ r n acc x hr
theorem Az:∀(names:List (PH×Q8))(n:Nat)(acc:List (PH×PK))(x:PH),(x,Rw)∈names->∃c,n<=c/\(Q0 n names acc).lookup x=some c
 |[],_,_,_,h=>nomatch h
 |(y,k)::r,n,acc,x,h=>by
  unfold Q0
  by_cases hr:(x,Rw)∈r
  ·split
   ·obtain⟨c,h1,h2⟩:=Az r (n+1) ((y,n)::acc) x hr
    exact⟨c,by omega,h2⟩
   ·exact Az r n acc x hr
  ·have e:(x,Rw)=(y,k):=(Qb.mp h).resolve_right hr
   injection e with e1 e2
   subst e1
   subst e2
   rw[if_pos (by rfl),sJ r _ _ x hr,RH]
   simp
theorem Kf:∀(names:List (PH×Q8))(h:P0)(acc:List (PH×PK))(x:PH)(c:PK),(Q0 h.objs.size names acc).lookup x=some c->(Sv h names).IsCell c none\/acc.lookup x=some c
 |[],_,_,_,_,h=>.inr h
 |(y,k)::r,h,acc,x,c,e=>by
  unfold Q0 at e
  unfold Sv
  by_cases hk:(k==Rw)=true
  ·rw[if_pos hk]at e ⊢
   have e':(Q0 (h.push {cls:=.type "cell",data:=.cell none}).objs.size r ((y,h.objs.size)::acc)).lookup x=some c:=by rw[Rx];exact e
   rcases Kf r _ _ x c e' with q|q
   ·exact .inl q
   ·rw[RH]at q
    cases hb:x==y with
    |true=>
     rw[hb]at q
     have q':h.objs.size=c:=QX q
     subst q'
     exact .inl ((show(h.push {cls:=.type "cell",data:=.cell none}).IsCell h.objs.size none from⟨_,Qz _ rfl,rfl⟩).keeps (pushCells_keeps _ _))
    |false=>rw[hb]at q;exact .inr q
  ·rw[if_neg hk]at e ⊢
   exact Kf r h acc x c e
theorem EI:∀(names:List (PH×Q8))(n:Nat)(acc:List (PH×PK)),(∀x c,acc.lookup x=some c->c<n)->(∀x y c,acc.lookup x=some c->acc.lookup y=some c->x=y)->
  ∀x y c,(Q0 n names acc).lookup x=some c->(Q0 n names acc).lookup y=some c->x=y
 |[],_,_,_,h=>h
 |(z,k)::r,n,acc,h1,h2=>by
  unfold Q0
  split
  ·refine EI r (n+1) _ (fun x c e=>?_) fun x y c e e'=>?_
   ·rw[RH]at e
    cases hb:x==z with
    |true=>rw[hb]at e;exact(QX e)▸U9 n
    |false=>rw[hb]at e;exact U6 (h1 x c e)
   ·rw[RH]at e e'
    cases hb:x==z with
    |true=>
     rw[hb]at e
     have ec:n=c:=QX e
     cases hb':y==z with
     | true => have a : x = z := by simpa using hb
               have b:y=z:=by simpa using hb'
               rw[a,b]
     |false=>rw[hb']at e';exact absurd (h1 y c e') (by rw[<-ec];exact RB n)
    |false=>
     rw[hb]at e
     cases hb':y==z with
     |true=>
      rw[hb']at e'
      have ec:n=c:=QX e'
      exact absurd (h1 x c e) (by rw[<-ec];exact RB n)
     |false=>rw[hb']at e';exact h2 x y c e e'
  ·exact EI r n acc h1 h2
structure tm(N0:List PH)(sc:QS)(N:List PH)(scope:QS)(mp:List (Option Nat)):Prop where
 kind:scope.kind=.function
 nd:(scope.names.map (·.1)).Nodup
 freeB:(scope.names.all fun x=>!decide (x.2=.free) || (decide (sc.names.lookup x.1=some .cell) || decide (sc.names.lookup x.1=some .free)))=true
 len:mp.length=N.length
 map:((P4 mp.length).all fun i=>match mp[i]? with
  |some (some j)=>(match N[i]?,N0[j]? with
   |some x,some y=>decide (x=y)&&decide (scope.names.lookup x=some .free)
   |_,_=>false)
  |_=>true)=true
theorem tm.free{N0:List PH}{sc:QS}{N:List PH}{scope:QS}{mp:List (Option Nat)}(S:tm N0 sc N scope mp):∀x∈scope.names,x.2=.free->sc.names.lookup x.1=some .cell\/sc.names.lookup x.1=some .free:=fun x hx e=>by
 have q:=Rt.mp S.freeB x hx
 rw[decide_eq_true e]at q
 simpa using q
theorem tm.at{N0:List PH}{sc:QS}{N:List PH}{scope:QS}{mp:List (Option Nat)}(S:tm N0 sc N scope mp){i j:Nat}(h:mp[i]?=some (some j)):
  ∃x,N[i]?=some x/\N0[j]?=some x/\scope.names.lookup x=some .free:=by
 have hi:i<mp.length:=(QN.mp h).1
 have q:=Rt.mp S.map i (Q6.mpr hi)
 rw[h]at q
 simp only at q
 cases e1:N[i]? with
 |none=>rw[e1]at q;simp at q
 |some x=>
  cases e2:N0[j]? with
  |none=>rw[e1,e2]at q;simp at q
  |some y=>
   rw[e1,e2]at q
   simp only[QW,decide_eq_true_eq]at q
   obtain⟨q1,q2⟩:=q
   subst q1
   exact⟨x,rfl,rfl,q2⟩
theorem d8{α:Type}:∀{l:List (PH×α)}{x:PH}{a:α},(l.map (·.1)).Nodup->(x,a)∈l->l.lookup x=some a
 |(k,v)::r,x,a,nd,h=>by
  have nd:(k::r.map (·.1)).Nodup:=nd
  obtain⟨n1,n2⟩:=RM.mp nd
  rw[RH]
  rcases Qb.mp h with e|h'
  ·cases e;simp
  ·have ne:(x==k)=false:=by
    cases hb:x==k with
    |false=>rfl
    |true=>
     have e:x=k:=by simpa using hb
     subst e
     exact(n1 (P9.mpr ⟨(x,a),h',rfl⟩)).elim
   rw[ne]
   exact d8 n2 h'
noncomputable def c5(mp:List (Option Nat))(σ:St):St:=mp.map fun o=>o.bind fun j=>(σ[j]?).join
noncomputable def fh(X:Cx)(N:List PH)(scope:QS)(C:PK)(cl:List (PH×PK))(s:PN)(H:Hp)(fp:List PK)(pins:List (PK×PV)):Cx where
 prog:=X.prog
 w:=X.w
 K:=X.K
 mg:=X.mg
 base:=X.base
 A:=X.A
 N:=N
 s₀:=s
 H₀:=H
 env:=compEnvC scope (Q0 (C+1) scope.names cl) C X.env
 outer:=X.stack
 stack:=X.stack
 ex:=fp
 fn:=fun x=>decide (scope.names.lookup x=some .cell)
 calm:=X.calm
 pn:=X.pn++pins
 xe:=fun _ _=>False
theorem fC{env:Qq}:∀{names:List (PH×Q8)}{x:PH}{k:Q8},(names.map fun (n,k)=>if(k==RK&&env.scope.kind==.function&&env.kindOf n==some .cell)then(n,Rw)else(n,k)).lookup x=some k->
  names.lookup x=some k\/(names.lookup x=some .free/\k=.cell/\env.kindOf x=some .cell)
 |[],_,_,h=>by simp at h
 |(n,k')::r,x,k,h=>by
  have ih:=@fC env r x k
  rw[Qu]at h
  rw[RH]
  cases hx:x==n with
  |true=>
   have e:x=n:=by simpa using hx
   subst e
   by_cases hc:(k'==RK&&env.scope.kind==.function&&env.kindOf x==some .cell)=true
   ·simp only[hc,if_true,RH,beq_self_eq_true,Wp]at h
    rw[QW,QW]at hc
    obtain⟨⟨c1,_⟩,c3⟩:=hc
    exact .inr ⟨by rw[show k'=.free by simpa using c1],h.symm,by simpa using c3⟩
   ·simp only[hc,Sw,if_false,RH,beq_self_eq_true,Wp]at h
    exact .inl (by rw[h])
  |false=>
   refine ih ?_
   by_cases hc:(k'==RK&&env.scope.kind==.function&&env.kindOf n==some .cell)=true
   ·simpa only[hc,if_true,RH,hx]using h
   ·simpa only[hc,Sw,if_false,RH,hx]using h
theorem MQ{M:Model}{A:Qg}{E:PL->PN->Prop}{s:PN}{scope:QS}{globals:PK}{cl:List (PH×PK)}{qual:PH}{env:Qq}{Q:Qq->PN->Prop}
  (h:Q {scope:=scope,locals:=s.heap.objs.size,globals:=globals,cells:=Q0 (s.heap.objs.size+1) scope.names cl,qual:=qual,func:=none,code:=env.code,frame:=env.frame,builtins:=env.builtins}
   {s with heap:=Sv (s.heap.push {cls:=.type "dict",data:=.dict #[]}) scope.names}):
  PQ M A (newFunctionEnv scope globals cl [] qual none .none (some env)) Q E s:=by
 simp only[newFunctionEnv,XA,if_true]
 refine PR (wpAny_alloc ?_)
 refine PR (wpAny_layCells _ (fun name kind cells=>by cases hkc:kind==Rw<;>simp[hkc]) _ _ _ _ ?_)
 rw[show({s with heap:=s.heap.push {cls:=.type "dict",data:=.dict #[]}}:PN).heap.objs.size=s.heap.objs.size+1 from Rx ..]
 first
  |exact PR (Qh (Qh h))
  |exact Qh h
  |(rw[Uh];exact PR (Qh (Qh h)))
section
variable {X:Cx}{pins:List (PK×PV)}{σ:St}{H:Hp}{s:PN}
theorem FY{N:List PH}{scope:QS}{mp:List (Option Nat)}{fp:List PK}(S:tm X.N X.env.scope N scope mp)(I:Inv X pins σ H s)(f:∀b∈fp,qM X pins H b)(fo:∀b∈fp,b<s.heap.objs.size):
  Inv (fh X N scope s.heap.objs.size (bp X.env scope.names []) s H fp pins) [] (c5 mp σ) H {s with heap:=Sv (s.heap.push {cls:=.type "dict",data:=.dict #[]}) scope.names}:=by
 have hk:∀b o,s.heap.get? b=some o->(Sv (s.heap.push {cls:=.type "dict",data:=.dict #[]}) scope.names).get? b=some o:=fun b o e=>pushCells_keeps _ _ b o (Qr _ e)
 have hfree:∀y∈scope.names,y.2=.free->∃c,X.env.cells.lookup y.1=some c:=fun y hy hf=>I.ok.has y.1 (S.free y hy hf)
 have clo:∀x c,(bp X.env scope.names []).lookup x=some c->(x,RK)∈scope.names/\X.env.cells.lookup x=some c:=fun x c e=>lO e hfree
 have old:∀x c,X.env.cells.lookup x=some c->c<s.heap.objs.size:=fun x c e=>by
  obtain⟨v,q⟩:=I.cell x c e
  exact q.lt
 have cell_of:∀x c,(Q0 (s.heap.objs.size+1) scope.names (bp X.env scope.names [])).lookup x=some c->(s.heap.objs.size+1<=c/\(x,Rw)∈scope.names)\/((x,RK)∈scope.names/\X.env.cells.lookup x=some c):=fun x c e=>by
  by_cases hx:(x,Rw)∈scope.names
  ·obtain⟨d,h1,h2⟩:=Az scope.names (s.heap.objs.size+1) (bp X.env scope.names []) x hx
   rw[h2]at e
   cases e
   exact .inl ⟨h1,hx⟩
  ·rw[sJ _ _ _ x hx]at e
   exact .inr (clo x c e)
 have isCell:∀x c,(Q0 (s.heap.objs.size+1) scope.names (bp X.env scope.names [])).lookup x=some c->∃v,(Sv (s.heap.push {cls:=.type "dict",data:=.dict #[]}) scope.names).IsCell c v:=fun x c e=>by
  have e':(Q0 (s.heap.push {cls:=.type "dict",data:=.dict #[]}).objs.size scope.names (bp X.env scope.names [])).lookup x=some c:=by rw[Rx];exact e
  rcases Kf scope.names _ _ x c e' with q|q
  ·exact⟨none,q⟩
  ·obtain⟨v,z⟩:=I.cell x c (clo x c q).2
   exact⟨v,z.keeps hk⟩
 refine⟨⟨I.ok.mod,S.kind,I.ok.glob,I.ok.blt,Qe _,?_,?_,?_,I.ok.hd,I.ok.frames,.inl rfl,?_,I.bs,P6 I.ok.bsz I.sz,?_,?_,I.stack,I.stkFree⟩,
  rfl,I.bare,Un.kept hk,⟨fun _=>none,?_,?_⟩,isCell,I.hok.fresh (Qe _),?_,?_,I.hok.kept hk,?_⟩
 ·
  refine EI scope.names _ _ (fun x c e=>?_) fun x y c e e'=>I.ok.inj x y c (clo x c e).2 (clo y c e').2
  exact U6 (old x c (clo x c e).2)
 ·
  intro x hx
  have key:(x,Rw)∈scope.names\/(x,RK)∈scope.names:=by
   have hx':(relabel scope X.env).names.lookup x=some .cell\/(relabel scope X.env).names.lookup x=some .free:=hx
   rcases hx' with q|q
   ·rcases fC q with z|⟨z,_,_⟩
    ·exact .inl (mem_of_lookup z)
    ·exact .inr (mem_of_lookup z)
   ·rcases fC q with z|⟨z,_,_⟩
    ·exact .inr (mem_of_lookup z)
    ·exact .inr (mem_of_lookup z)
  by_cases hc:(x,Rw)∈scope.names
  ·obtain⟨d,_,h2⟩:=Az scope.names (s.heap.objs.size+1) (bp X.env scope.names []) x hc
   exact⟨d,h2⟩
  ·obtain⟨d,h2,_⟩:=o9 (key.resolve_left hc) hfree
   exact⟨d,by show(Q0 (s.heap.objs.size+1) scope.names (bp X.env scope.names [])).lookup x=some d;rw[sJ _ _ _ x hc];exact h2⟩
 ·
  intro x c hf e
  have hc:(x,Rw)∈scope.names:=mem_of_lookup (of_decide_eq_true hf)
  rcases cell_of x c e with⟨h1,_⟩|⟨h1,_⟩
  ·exact V5 h1
  ·have q1:=d8 S.nd hc
   have q2:=d8 S.nd h1
   rw[q1]at q2;cases q2
 ·
  intro b hb
  refine⟨Qt (fo b hb),fun x c e z=>?_⟩
  subst z
  rcases cell_of x c e with⟨h1,_⟩|⟨_,h1⟩
  ·exact absurd (QD (fo c hb) (V5 h1)) (RB _)
  ·exact(f c hb).2.2.2.2.1 x c h1 rfl
 ·
  intro b o e hb
  rcases(f b hb).2.2.2.1 with z|z
  ·exact I.ok.noex b o e z
  ·exact absurd (QD (QD (Ql e) I.ok.bsz) z) (RB _)
 ·
  intro b hb hs
  rcases Qb.mp (I.stkSub b hs)with z|z
  ·exact(f b hb).2.1 z
  ·exact(f b hb).2.2.1 z
 ·
  exact(aay s.heap (.type "dict")).keeps (pushCells_keeps _ _)
 ·
  intro i x v e1 e2 _
  have e2':(mp.map fun o=>o.bind fun j=>(σ[j]?).join)[i]?=some (some v):=e2
  rw[Sg]at e2'
  cases em:mp[i]? with
  |none=>rw[em]at e2';cases e2'
  |some o=>
   rw[em]at e2'
   cases o with
   |none=>cases e2'
   |some j=>
    have e3:(σ[j]?).join=some v:=QX e2'
    have e4:σ[j]?=some (some v):=by
     cases q:σ[j]? with
     |none=>rw[q]at e3;cases e3
     |some z=>rw[q]at e3;exact congrArg some e3
    obtain⟨y,h1,h2,h3⟩:=S.at em
    have h1':some x=some y:=e1.symm.trans h1
    cases h1'
    have hm:=mem_of_lookup h3
    have vis:Mf X.env.scope x:=(S.free _ hm rfl).elim (fun z=>.inr (.inl z)) fun z=>.inr (.inr z)
    obtain⟨m,hn,hl⟩:=I.loc
    obtain⟨u,r,l⟩:=hl j x v h2 e4 vis
    refine⟨u,r,.inr ?_⟩
    have nc:(x,Rw)∉scope.names:=fun z=>by
     have q2:=d8 S.nd z
     rw[h3]at q2;cases q2
    obtain⟨c,hc1,hc2⟩:=o9 hm hfree
    have hc3:(Q0 (s.heap.objs.size+1) scope.names (bp X.env scope.names [])).lookup x=some c:=by rw[sJ _ _ _ x nc];exact hc1
    have hcell:s.heap.IsCell c (some u):=by
     rcases l with⟨hk',_⟩|⟨_,c',e5,e6⟩
     ·exfalso
      have hk':X.env.scope.names.lookup x=some .local:=hk'
      rcases S.free _ hm rfl with z|z
      ·have z:X.env.scope.names.lookup x=some .cell:=z
       rw[hk']at z;cases z
      ·have z:X.env.scope.names.lookup x=some .free:=z
       rw[hk']at z;cases z
     ·rw[hc2]at e5;cases e5;exact e6
    refine⟨?_,c,hc3,hcell.keeps hk⟩
    rename_i hv
    have hv:Mf (relabel scope X.env) x:=hv
    rcases hv with z|z|z
    ·exfalso
     rcases fC (show(relabel scope X.env).names.lookup x=some .local from z)with q|⟨_,q,_⟩
     ·rw[h3]at q;cases q
     ·cases q
    ·exact .inl z
    ·exact .inr z
 ·
  intro x c e
  rcases cell_of x c e with⟨h1,_⟩|⟨_,h1⟩
  ·exact I.hok.fresh (V5 h1)
  ·exact I.freeC x c h1
 ·
  intro p hp
  have hp':p∈X.pn++pins:=by simpa[fh]using hp
  obtain⟨e,n,ne,nf,d⟩:=I.pin p hp'
  refine⟨hk _ _ e,n,Qt (Ql e),fun z=>?_,d⟩
  rcases Qb.mp (I.stkSub _ z)with q|q
  ·exact ne q
  ·exact nf q
 ·show(mp.map _).length=N.length
  rw[P7]
  exact S.len
end
noncomputable def JQ(X:Cx)(ifs:List PY)(t:TT):Prop:=
 ∀(pins:List (PK×PV))(s:PN)(σ:St)(H:Hp)(Q:Bool->Hp->Prop),Inv X pins σ H s->t σ H Q->
  PQ (model X.prog X.w) X.A (forIn ifs true fun c r=>if r=true then do let ok <-isTrue c X.env (eval c X.env);pure (S9 ok)else pure (S9 r)) (TP X pins σ Q) X.xe s
noncomputable def du:TT:=fun _ H Q=>Q true H
theorem bx{X:Cx}:JQ X [] du:=fun _ _ _ H _ I h=>wpAny_tests_nil ⟨H,I,h⟩
theorem gC{X:Cx}{c:PY}{t:TT}(h:PT X c t):JQ X [c] t:=fun pins s σ H Q I q=>wpAny_tests_one (h pins s σ H Q I q)
noncomputable def dq(mp:List (Option Nat))(g:TG)(tt:TT)(te:TE)(J:It)(σ:St)(H:Hp)(Q:VK):Prop:=
 ∀l,H l=none->∃W:Nat->Nat->List V->St->Hp->Prop,(∃m,W 0 m [] (c5 mp σ) (upd H l (.lst [])))/\∀i m acc σ' H',W i m acc σ' H'->
  (J.stop i H'/\Q (.ref l) H')\/(J.go i H'/\acc.length<PZ/\∃Nx:List V->St->Hp->Prop,(∀acc' σ2 H2,Nx acc' σ2 H2->∃m',m'<m/\W (i+1) m' acc' σ2 H2)/\
   ∀x H2,J.yld i H' x H2->g x σ' H2 fun σ2 H3=>tt σ2 H3 fun b H4=>if b=true then te σ2 H4 fun v H5=>H5 l=some (.lst acc)/\Nx (acc++[v]) σ2 (upd H5 l (.lst (acc++[v])))else Nx acc σ2 H4)
noncomputable def bP(mp:List (Option Nat))(wi:TI)(g:TG)(tt:TT)(te:TE):TE:=fun σ H Q=>wi σ H fun J H1=>dq mp g tt te J σ H1 Q
section
variable {X:Cx}{elt iter tg:PY}{ifs:List PY}{scope:QS}{pos:Qi}{N:List PH}{mp:List (Option Nat)}{wi:TI}{g:TG}{tt:TT}{te:TE}
theorem wO{pins:List (PK×PV)}{σ:St}{H2:Hp}{s2:PN}{it:PK}{fp:List PK}{tn:Nat->P0->Prop}{J:It}{Q:VK}{RR:PL->PK->Result->PN->Prop}{E:PL->PN->Prop}
  (hc:X.calm=true) (S:tm X.N X.env.scope N scope mp) (I2:Inv X pins σ H2 s2) (T:Turn X.prog X.w X.K tg J fp it tn) (st2:tn 0 s2.heap) (f2:∀b∈fp,qM X pins H2 b)
  (hg:∀C cl s H fp pins,PG (fh X N scope C cl s H fp pins) tg g) (ht:∀C cl s H fp pins,JQ (fh X N scope C cl s H fp pins) ifs tt) (he:∀C cl s H fp pins,PE (fh X N scope C cl s H fp pins) elt te)
  (k:dq mp g tt te J σ H2 Q)
  (fin:∀(l C:PK)(m:PH->Option PL)(s':PN)(H':Hp),Inv X pins σ H' s'->s'.heap.Ns C m->H' C=none->C≠X.env.locals->X.s₀.heap.objs.size<=C->(∀x c,X.env.cells.lookup x=some c->c≠C)->(∀p∈X.pn++pins,p.1≠C)->
   Q (.ref l) H'->RR (.ref l) C (.ok .next) s'):
  PQ (model X.prog X.w) X.A (newList []) (fun acc s₃=>PQ (model X.prog X.w) X.A (newFunctionEnv scope X.env.globals (bp X.env scope.names []) [] X.env.qual none .none (some X.env)) (fun cenv s₄=>
   RU (model X.prog X.w) X.A (.compStart (.ListComp elt [⟨tg,iter,ifs,0⟩] scope pos) 0 (.ref it) acc {cenv with scope:=relabel scope X.env}) (RR acc cenv.locals) s₄) E s₃) E s2:=by
 refine wpAny_newList ?_ (Q3 _)
 have I3:Inv X pins σ (upd H2 s2.heap.objs.size (.lst [])) {s2 with heap:=s2.heap.push {cls:=.type "list",data:=.seq ([]:List PL).toArray}}:=I2.lnew (t':=s2.toks) (its:=[]) .nil (Q3 _)
 have fl:H2 s2.heap.objs.size=none:=I2.fresh
 have nfl:s2.heap.objs.size∉fp:=fun z=>by
  obtain⟨o,e,_⟩:=T.obj 0 _ st2 _ z
  exact absurd (Ql e) (RB _)
 have fo2:∀b∈fp,b<s2.heap.objs.size:=fun b hb=>by
  obtain⟨o,e,_⟩:=T.obj 0 _ st2 b hb
  exact Ql e
 have f3:∀b∈fp,qM X pins (upd H2 s2.heap.objs.size (.lst [])) b:=fun b hb=>by
  obtain⟨h0,hr⟩:=f2 b hb
  exact⟨by rw[ak (Qt (fo2 b hb))];exact h0,hr⟩
 have k3:=k s2.heap.objs.size fl
 clear k
 have st3:tn 0 (s2.heap.push {cls:=.type "list",data:=.seq ([]:List PL).toArray}):=T.keep 0 _ _ st2 fun b _ o e=>Qr _ e
 have fo3:∀b∈fp,b<(s2.heap.push {cls:=.type "list",data:=.seq ([]:List PL).toArray}).objs.size:=fun b hb=>by rw[Rx];exact U6 (fo2 b hb)
 generalize hs3:({s2 with heap:=s2.heap.push {cls:=.type "list",data:=.seq ([]:List PL).toArray}}:PN)=s3 at I3 ⊢
 have st3:tn 0 s3.heap:=by rw[<-hs3];exact st3
 have fo3:∀b∈fp,b<s3.heap.objs.size:=by rw[<-hs3];exact fo3
 generalize s2.heap.objs.size=l at *
 generalize upd H2 l (.lst [])=H3 at *
 refine MQ ?_
 have I4:=FY S I3 f3 fo3
 obtain⟨W,⟨m0,w0⟩,turn⟩:=k3
 have st4:tn 0 (Sv (s3.heap.push {cls:=.type "dict",data:=.dict #[]}) scope.names):=T.keep 0 _ _ st3 fun b _ o e=>pushCells_keeps _ _ b o (Qr _ e)
 generalize hs4:({s3 with heap:=Sv (s3.heap.push {cls:=.type "dict",data:=.dict #[]}) scope.names}:PN)=s4 at I4 ⊢
 have st4:tn 0 s4.heap:=by rw[<-hs4];exact st4
 have stat:∀{H':Hp},(∀b∈fp,H' b=none)->∀b∈fp,qM (fh X N scope s3.heap.objs.size (bp X.env scope.names []) s3 H3 fp pins) [] H' b:=fun {H'} hn b hb=>by
  refine⟨hn b hb,(I4.ok.exf b hb).1,I4.ok.exfs b hb,.inl hb,(I4.ok.exf b hb).2,fun p hp=>?_⟩
  exact(f3 b hb).2.2.2.2.2 p (by simpa[fh]using hp)
 have back:∀{σ':St}{H':Hp}{s':PN}{ps:List (PK×PV)},Inv (fh X N scope s3.heap.objs.size (bp X.env scope.names []) s3 H3 fp pins) ps σ' H' s'->Inv X pins σ H' s':=fun {σ' H' s' ps} I'=>
  I3.call' (ch:=fp) I'.os I'.base I'.hok I'.bare fun b hb=>⟨(f3 b hb).2.2.2.1,(f3 b hb).2.1,(f3 b hb).2.2.2.2.1,(f3 b hb).2.2.2.2.2⟩
 have loop:RU (model X.prog X.w) X.A (.compLoop (.ListComp elt [⟨tg,iter,ifs,0⟩] scope pos) 0 (.ref it) (.ref l) (compEnvC scope (Q0 (s3.heap.objs.size+1) scope.names (bp X.env scope.names [])) s3.heap.objs.size X.env)) (RR (.ref l) s3.heap.objs.size) s4:=by
  refine AU (fun n s'=>∃i acc σ' H',Inv (fh X N scope s3.heap.objs.size (bp X.env scope.names []) s3 H3 fp pins) [] σ' H' s'/\tn i s'.heap/\(∀b∈fp,H' b=none)/\W i n acc σ' H') ?_ m0
   ⟨0,[],c5 mp σ,H3,I4,st4,fun b hb=>(f3 b hb).1,w0⟩
  rintro n s5 ⟨i,acc,σ5,H5,I5,st5,fr5,w5⟩
  rcases turn i n acc σ5 H5 w5 with⟨stop,q⟩|⟨go,hz,Nx,hN,step⟩
  ·refine cI (T.done (fh X N scope s3.heap.objs.size (bp X.env scope.names []) s3 H3 fp pins) rfl rfl rfl hc i [] s5 σ5 H5 _ I5 (stat fr5) st5 stop) fun r s6 ⟨hr,I6⟩=>?_
   subst hr
   obtain⟨m,hn,_⟩:=I6.loc
   refine fin l _ m s6 H5 (back I6) hn I6.free ?_ I3.sz (fun x c e z=>?_) (fun p hp z=>?_) q
   ·exact Rp I3.lt
   ·obtain⟨v,y⟩:=I3.cell x c e
    exact absurd y.lt (by rw[z];exact RB _)
   ·exact absurd (Ql (I3.pin p hp).1) (by rw[z];exact RB _)
  ·refine cI (T.item (fh X N scope s3.heap.objs.size (bp X.env scope.names []) s3 H3 fp pins) rfl rfl rfl hc i [] s5 σ5 H5 _ I5 (stat fr5) st5 go) fun r s6 ⟨u,hr,h6⟩=>?_
   subst hr
   refine cI h6 fun _ s7 ⟨x,H7,I7,r7,y7,st7,fr7⟩=>?_
   have I7':=I7.pinned (stat fr7) (T.obj _ _ st7)
   have again:∀{s8:PN}{acc':List V}{σ8:St}{H8:Hp},Inv (fh X N scope s3.heap.objs.size (bp X.env scope.names []) s3 H3 fp pins) ([]++xl fp s7.heap) σ8 H8 s8->Nx acc' σ8 H8->
     ∃m,m<n/\∃i acc σ' H',Inv (fh X N scope s3.heap.objs.size (bp X.env scope.names []) s3 H3 fp pins) [] σ' H' s8/\tn i s8.heap/\(∀b∈fp,H' b=none)/\W i m acc σ' H':=fun {s8 acc' σ8 H8} I8 n8=>by
    obtain⟨m',hm,w8⟩:=hN acc' σ8 H8 n8
    refine⟨m',hm,i+1,acc',σ8,H8,I8.unpinned,T.keep _ _ _ st7 fun b hb o e=>(I8.pin (b,o) (Rk _ (Rk _ (lG hb e)))).1,fun b hb=>?_,w8⟩
    obtain⟨o,e,d⟩:=T.obj _ _ st7 b hb
    exact(I8.pin (b,o) (Rk _ (Rk _ (lG hb e)))).2.1
   refine cI (hg _ _ _ _ _ _ _ s7 σ5 H7 x u _ I7' r7 (step x H7 y7)) fun _ s8 ⟨σ8,H8,I8,q8⟩=>?_
   refine cI (ht _ _ _ _ _ _ _ s8 σ8 H8 _ I8 q8) fun b s9 ⟨H9,I9,q9⟩=>?_
   cases b with
   |false=>
    rw[if_neg QM]at q9 ⊢
    exact again I9 q9
   |true=>
    rw[if_pos rfl]at q9 ⊢
    refine cI (he _ _ _ _ _ _ _ s9 σ8 H9 _ I9 q9) fun v s10 ⟨y,H10,I10,r10,q10,n10⟩=>?_
    refine cI (ia _ s10 σ8 H10 (.ref l) [y] (.ref l) [v] (fun _ H'=>Nx (acc++[y]) σ8 H') I10 rfl (.cons r10 .nil) ⟨l,acc,y,rfl,rfl,q10,hz,n10⟩) fun _ s11 ⟨_,H11,I11,_,q11⟩=>?_
    exact again I11 q11
 exact codeAny_compStart_list loop (T.self _ 0 _ _ _ st4 loop)
theorem bE(hc:X.calm=true)(S:tm X.N X.env.scope N scope mp)(hi:PI X tg iter wi)
  (hg:∀C cl s H fp pins,PG (fh X N scope C cl s H fp pins) tg g) (ht:∀C cl s H fp pins,JQ (fh X N scope C cl s H fp pins) ifs tt) (he:∀C cl s H fp pins,PE (fh X N scope C cl s H fp pins) elt te)
  (hs:∀x,foldedSetIterable iter X.env x=pure x:=by intro _;rfl):PE X (.ListComp elt [⟨tg,iter,ifs,0⟩] scope pos) (bP mp wi g tt te):=by
 intro pins s σ H Q I h
 rw[eval_ListComp]
 have hfree:∀y∈scope.names,y.2=.free->∃c,X.env.cells.lookup y.1=some c:=fun y hy hf=>I.ok.has y.1 (S.free y hy hf)
 refine wpAny_comprehension_free (use:=none) rfl hs (lP hfree) S.kind (fun x hx e=>d8 S.nd (by rw[<-e];exact hx)) ?_
 show PQ _ _ (eval iter X.env) _ _ _
 refine cI (hi pins s σ H _ I h) fun v s1 h1=>cI h1 fun itv s2 h2=>?_
 obtain⟨it,fp,tn,J,H2,e,I2,T,st2,f2,k⟩:=h2
 subst e
 refine wO (RR:=fun acc C=>compPost (model X.prog X.w) X.A X.xe none (EP X pins σ Q) acc C) hc S I2 T st2 f2 hg ht he k ?_
 intro l C m s' H' I' hn hC h1 h2 h3 h4 q
 exact⟨m,hn,fun h' hb=>⟨.ref l,H',I'.turned (t':=s'.toks) (it:=C) (fun b o hbC e=>hb.extBut b o hbC e) hC (Qy (Qy h1)) (.inr h2) h3 h4,rfl,q⟩⟩
theorem nV{i:Nat}{x:PH}{pos' spos:Qi}(hN:X.N.Nodup)(hxi:X.N[i]?=some x)(hx:Loc X.env.scope x)(hc:X.calm=true)(S:tm X.N X.env.scope N scope mp)(hi:PI X tg iter wi)
  (hg:∀C cl s H fp pins,PG (fh X N scope C cl s H fp pins) tg g) (ht:∀C cl s H fp pins,JQ (fh X N scope C cl s H fp pins) ifs tt) (he:∀C cl s H fp pins,PE (fh X N scope C cl s H fp pins) elt te)
  (hsw:swapsWith (.ListComp elt [⟨tg,iter,ifs,0⟩] scope pos) (some (.Name x pos')) spos.line X.env=pure true)
  (hf:X.fn x=true\/X.env.scope.names.lookup x=some .local:=by first|exact .inl rfl|exact .inr rfl|assumption)
  (hs:∀x,foldedSetIterable iter X.env x=pure x:=by intro _;rfl):PS X (.Assign [.Name x pos'] (.ListComp elt [⟨tg,iter,ifs,0⟩] scope pos) spos) (bG (bP mp wi g tt te) (au i)):=by
 intro pins s σ H D I h
 have hfree:∀y∈scope.names,y.2=.free->∃c,X.env.cells.lookup y.1=some c:=fun y hy hf=>I.ok.has y.1 (S.free y hy hf)
 rw[exec_Assign_Name_used _ _ _ _ hsw]
 refine PR (wpAny_standAt (PR ?_))
 show PQ _ _ (do let _ <-comprehension (.ListComp elt [⟨tg,iter,ifs,0⟩] scope pos) scope X.env _ (newList []) false (eval iter X.env) (some (assign (.Name x pos') X.env))) _ _ s
 refine PR (Q5 (wpAny_comprehension_free (use:=some (assign (.Name x pos') X.env)) (Q:=fun _ s'=>SP X pins D .next s') rfl hs (lP hfree) S.kind (fun x hx e=>d8 S.nd (by rw[<-e];exact hx)) ?_) (fun _ s' hq=>Qh (Qh hq)) fun _ _ e=>e)
 refine cI (hi pins s σ H _ I h) fun v s1 h1=>cI h1 fun itv s2 h2=>?_
 obtain⟨it,fp,tn,J,H2,e,I2,T,st2,f2,k⟩:=h2
 subst e
 refine wO (Q:=fun y H1=>au i y σ H1 D.nx) (RR:=fun acc C=>compPost (model X.prog X.w) X.A X.xe (some (assign (.Name x pos') X.env)) (fun _ s'=>SP X pins D .next s') acc C) hc S I2 T st2 f2 hg ht he k ?_
 intro l C m s' H' I' hn hC h1 h2 h3 h4 q
 show PQ _ _ (assign (.Name x pos') X.env (.ref l)) _ _ _
 refine wpAny_assign_Name (zm I' hN hxi hx (v:=.ref l) rfl (fun s'' I'' ⟨a,hsb,ha⟩=>?_) hf)
 have hCa:C≠a:=by
  rcases ha with z|z
  ·rw[z];exact h1
  ·exact fun y=>h3 x a z y.symm
 exact⟨m,hn.sameBut hsb hCa,fun h' hb=>⟨_,H',I''.turned (t':=s''.toks) (it:=C) (fun b o hbC e=>hb.extBut b o hbC e) hC (Qy (Qy h1)) (.inr h2) h3 h4,q⟩⟩
end
section
variable {mp:List (Option Nat)}{g:TG}{tt:TT}{te:TE}{σ:St}{H:Hp}{Q:VK}
theorem Gq{K:PM}{a:PK}{xs:List V}(Pv:PK->Nat->List V->St->Hp->Prop)(h0:∀l,H l=none->Pv l 0 [] (c5 mp σ) (upd H l (.lst [])))
  (hl:∀l i acc σ' H',H l=none->Pv l i acc σ' H'->aY K H' a xs/\acc.length<=i)
  (hs:∀l i x acc σ' H',H l=none->xs[i]?=some x->Pv l i acc σ' H'->g x σ' H' fun σ2 H3=>tt σ2 H3 fun b H4=>if b=true then te σ2 H4 fun v H5=>H5 l=some (.lst acc)/\Pv l (i+1) (acc++[v]) σ2 (upd H5 l (.lst (acc++[v])))else Pv l (i+1) acc σ2 H4)
  (hd:∀l acc σ' H',H l=none->Pv l xs.length acc σ' H'->Q (.ref l) H') (hz:xs.length<=PZ):dq mp g tt te (HA K a) σ H Q:=by
 intro l hn
 exists fun i m acc σ H=>m=xs.length-i/\i<=xs.length/\Pv l i acc σ H,⟨xs.length,by simp,Q3 _,h0 l hn⟩
 rintro i m acc σ' H' ⟨rfl,hi,p⟩
 obtain⟨q,ha⟩:=hl l i acc σ' H' hn p
 by_cases hlt:i<xs.length
 ·refine .inr ⟨⟨xs,xs[i],q,by simp[hlt]⟩,by omega,Pv l (i+1),fun acc' σ2 H2 p'=>⟨xs.length-(i+1),by omega,rfl,hlt,p'⟩,fun x H2 y=>?_⟩
  obtain⟨e,y⟩:=y
  subst e
  exact hs l i x acc σ' _ hn (y xs q) p
 ·have e:i=xs.length:=by omega
  subst e
  exact .inl ⟨⟨xs,q,Qe _⟩,hd l acc σ' H' hn p⟩
theorem DR{lo:Int}{n:Nat}(Pv:PK->Nat->List V->St->Hp->Prop)(h0:∀l,H l=none->Pv l 0 [] (c5 mp σ) (upd H l (.lst [])))
  (hl:∀l i acc σ' H',H l=none->Pv l i acc σ' H'->acc.length<=i)
  (hs:∀l i acc σ' H',H l=none->i<n->Pv l i acc σ' H'->g (.int (lo+i)) σ' H' fun σ2 H3=>tt σ2 H3 fun b H4=>if b=true then te σ2 H4 fun v H5=>H5 l=some (.lst acc)/\Pv l (i+1) (acc++[v]) σ2 (upd H5 l (.lst (acc++[v])))else Pv l (i+1) acc σ2 H4)
  (hd:∀l acc σ' H',H l=none->Pv l n acc σ' H'->Q (.ref l) H') (hz:n<=PZ):dq mp g tt te (Hy lo n) σ H Q:=by
 intro l hn
 exists fun i m acc σ H=>m=n-i/\i<=n/\Pv l i acc σ H,⟨n,by simp,Q3 _,h0 l hn⟩
 rintro i m acc σ' H' ⟨rfl,hi,p⟩
 have ha:=hl l i acc σ' H' hn p
 by_cases hlt:i<n
 ·refine .inr ⟨hlt,by omega,Pv l (i+1),fun acc' σ2 H2 p'=>⟨n-(i+1),by omega,rfl,hlt,p'⟩,fun x H2 y=>?_⟩
  obtain⟨e,y⟩:=y
  subst e y
  exact hs l i acc σ' _ hn hlt p
 ·have e:i=n:=by omega
  subst e
  exact .inl ⟨Qe _,hd l acc σ' H' hn p⟩
end
section
variable {X:Cx}
theorem vZ(hc:X.calm=true):fw X (.builtin "sum") (fun xs H Q=>∃(p:PK)(ns:List Int),xs=[.ref p]/\aY X.K H p (ns.map V.int)/\Q (.int ns.sum) H):=by
 intro pins s σ H xs us Q I r h
 obtain⟨p,ns,rfl,hS,q⟩:=h
 obtain⟨u,rfl,ru⟩:=vals1 r
 cases ru
 obtain⟨its,rv,pl,hz⟩:=I.list hS
 have hi:SH its ns:=intsAre_of rv
 have hall:AllInts its.toArray:=hi.allInts
 obtain⟨zs,ez⟩:=hall.items
 have hl:s.heap.IsList p (intItems zs):=by rw[<-ez];exact pl.isList
 refine sum_intListG (I.ok.hd hc) hl fun h' tk t' k=>⟨.int ns.sum,H,I.kept k,⟨t',?_⟩,q⟩
 have e1:ns=numsOf (intItems zs).toList:=by rw[<-ez];exact hi.numsOf.symm
 rw[e1,nums_intItems,preSum_eq,RI (by simp)]
theorem tW:fw X (.builtin "sorted") (fun xs H Q=>∃(p:PK)(ns:List Int),xs=[.ref p]/\aY X.K H p (ns.map V.int)/\ns.length<64/\∀(l:PK)(ms:List Int),H l=none->ms.Perm ns->ms.Pairwise (·<=·)->Q (.ref l) (upd H l (.lst (ms.map V.int)))):=by
 intro pins s σ H xs us Q I r h
 obtain⟨p,ns,rfl,hS,h64,q⟩:=h
 obtain⟨u,rfl,ru⟩:=vals1 r
 cases ru
 obtain⟨its,rv,pl,hz⟩:=I.list hS
 have hi:SH its ns:=intsAre_of rv
 have hl:=hi.length
 refine sorted_ints pl.isList hi (by omega) fun out ms a1 a2 a3=>?_
 obtain⟨e,he⟩:=sortedAll_at s.heap its out
 have hf:H (s.heap.objs.size+1)=none:=I.hok.fresh (RC _)
 refine⟨.ref (s.heap.objs.size+1),_,I.laid (t':=s.toks) (a:=s.heap.objs.size+1) (o:=.lst (ms.map V.int)) (fun b u e=>sortedAll_old e) (RC _) ⟨?_,out.toList,e,rS a1,?_⟩,rfl,q _ ms hf a2 a3⟩
 ·rw[P7,a2.length_eq]
  exact P6 (SU h64) (by decide)
 ·rw[Vl]
  exact he
theorem w9(hc:X.calm=true):fw X (.builtin "all") (fun xs H Q=>∃(p:PK)(bs:List Bool),xs=[.ref p]/\aY X.K H p (bs.map V.bl)/\Q (.bl (bs.all id)) H):=by
 intro pins s σ H xs us Q I r h
 obtain⟨p,bs,rfl,hS,q⟩:=h
 obtain⟨u,rfl,ru⟩:=vals1 r
 cases ru
 obtain⟨its,rv,pl,hz⟩:=I.list hS
 have hlt:p<s.heap.objs.size:=by obtain⟨_,e,_⟩:=pl.isList;exact Ql e
 have hlen:its.length=bs.length:=by rw[<-rv.length,P7]
 refine call_all_walk (U0 pl.isList ?_)
 refine⟨s.heap.objs.size,_,_,_,_,_,fun i=>(bs[i]?).getD true,rfl,WE (A:=X.A.in1) (I.ok.hd hc) _ p (Qt hlt) its.toArray,⟨⟨_,Qz _ rfl,rfl,rfl⟩,pl.isList.push _⟩,?_,fun h' tk hk=>?_⟩
 ·intro i v s' Q' E' hv hq
  have hv':its[i]?=some v:=by simpa using hv
  have hi:i<bs.length:=by rw[<-hlen];exact(QN.mp hv').1
  have e1:(bs.map V.bl)[i]?=some (V.bl bs[i]):=by simp[hi]
  obtain⟨w',h1,h2⟩:=rv.get e1
  rw[hv']at h1
  cases h1
  have h2:v=Sl bs[i]:=h2
  subst h2
  have e2:(bs[i]?).getD true=bs[i]:=by simp[hi]
  have hq:Q' ((bs[i]?).getD true) s':=hq
  rw[e2]at hq
  exact Tv hq
 ·have e3:((P4 its.toArray.size).all fun i=>(bs[i]?).getD true)=bs.all id:=by
   rw[Q4,hlen]
   apply Rh.mpr
   rw[Rt,Rt]
   constructor
   ·intro hh b hb
    obtain⟨i,hi,e⟩:=Tw hb
    have:=hh i (Q6.mpr hi)
    simp[hi]at this
    rw[<-e]
    simpa using this
   ·intro hh i hi
    have hi':=Q6.mp hi
    have:=hh bs[i] (RA hi')
    simpa[hi']using this
  rw[e3]
  exact⟨.bl (bs.all id),H,I.kept fun b o e=>hk b o (by simp;exact Qt (Ql e)) (Qr _ e),rfl,q⟩
end
noncomputable def gW:R2:=Dl fun i j=>.int (i+j)
noncomputable def CS:R2:=Dl fun i j=>.int (i-j)
noncomputable def nh:Int:=10 ^ 1000
theorem C0{i:Int}(h1:-nh<i)(h2:i<nh):i.natAbs.log2<4000:=by
 have e:nh<=2 ^ 4000:=by decide +kernel
 rcases Xo i.natAbs with h0|hp
 ·rw[h0];decide +kernel
 ·refine(VG (Rp hp)).mpr ?_
  have:(i.natAbs:Int)<2 ^ 4000:=by omega
  exact_mod_cast this
theorem zE{i:Int}(h1:-nh<i)(h2:i<nh):Yl i<=2 ^ 20:=by
 have h:=C0 h1 h2
 have e:(4001:Nat)<=2 ^ 20:=by decide
 unfold Yl
 split
 ·exact Q3 _
 ·omega
noncomputable def Jt(i j:Int):Prop:=Lz i j\/((-nh<i/\i<nh)/\-nh<j/\j<nh)
theorem Jt.ok{i j:Int}(h:Jt i j):IntMulOk i j:=h.elim Lz.ok fun h=>.of_bits (zE h.1.1 h.1.2) (zE h.2.1 h.2.2)
noncomputable def OL(_ j:Int):Prop:=0<j/\j<nh
theorem Dg:(1073741824:Int)<nh:=by decide +kernel
noncomputable def rH:R2:=rI Jt fun i j=>.int (i*j)
noncomputable def oDiv:R2:=rI OL fun i j=>.int (i/j)
noncomputable def oMod:R2:=rI (fun _ j=>0<j) fun i j=>.int (i%j)
noncomputable def oLt:R2:=Dl fun i j=>.bl (decide (i<j))
noncomputable def oLe:R2:=Dl fun i j=>.bl (decide (i<=j))
noncomputable def OR:R2:=Dl fun i j=>.bl (decide (j<i))
noncomputable def OU:R2:=Dl fun i j=>.bl (decide (j<=i))
noncomputable def Kj:R2:=fun x y H Q=>y=.non/\Q (.bl (decide (x=.non))) H
noncomputable def IL:R2:=fun x y H Q=>y=.non/\Q (.bl (!decide (x=.non))) H
noncomputable def gQ(K:PM):List V->Hp->VK->Prop:=fun xs H Q=>∃p ys,xs=[.ref p]/\(aY K H p ys\/kZ K H p ys)/\Q (.int ys.length) H
noncomputable def Gh(K:PM):List V->Hp->VK->Prop:=fun xs H Q=>∃(p:PK)(ns:List Int),xs=[.ref p]/\aY K H p (ns.map V.int)/\Q (.int ns.sum) H
noncomputable def Fd(K:PM):List V->Hp->VK->Prop:=fun xs H Q=>∃(p:PK)(ns:List Int),xs=[.ref p]/\aY K H p (ns.map V.int)/\ns.length<64/\∀(l:PK)(ms:List Int),H l=none->ms.Perm ns->ms.Pairwise (·<=·)->Q (.ref l) (upd H l (.lst (ms.map V.int)))
noncomputable def J7(K:PM):List V->Hp->VK->Prop:=fun xs H Q=>∃(p:PK)(bs:List Bool),xs=[.ref p]/\aY K H p (bs.map V.bl)/\Q (.bl (bs.all id)) H
noncomputable def NV:List V->Hp->VK->Prop:=fun xs H Q=>∃i j,xs=[.int i,.int j]/\Q (.int (if j<i then j else i)) H
noncomputable def AG(K:PM):List V->Hp->VK->Prop:=fun xs H Q=>∃p ys,xs=[.ref p]/\(aY K H p ys\/kZ K H p ys)/\∀l,H l=none->Q (.ref l) (upd H l (.lst ys))
section
variable {X:Cx}
theorem cJ:iz X (Rr .Add) gW:=Mb
theorem Bm:iz X (Rr .Sub) CS:=M3
theorem jB:iz X (Rr .Mult) rH:=OS fun _ _ _ _ _ _ _ hc q=>mul_int q hc.ok
theorem dG:iz X (Rr .FloorDiv) oDiv:=OS fun i j _ _ _ _ _ hc q=>by
 have h1:(0:Int)<j:=hc.1
 have h2:j<nh:=hc.2
 have h3:-nh<j:=by have:=Dg;omega
 exact floordiv_int (by omega) (by rw[Int.fdiv_eq_ediv_of_nonneg i (by omega)];exact q) (.inl (Z6 (UB (C0 h3 h2) (by decide))))
theorem br:iz X (Rr .Mod) oMod:=MY
theorem HQ:iz X (R9 .Add) gW:=Lu
theorem Dc:iz X (R9 .Sub) CS:=Ll
theorem ID:iz X (R9 .Mult) rH:=OS fun _ _ _ _ _ _ _ hc q=>imul_int q hc.ok
theorem Eb:iz X (QO .Lt) oLt:=N5
theorem Bh:iz X (QO .LtE) oLe:=Ob
theorem JT:iz X (QO .Gt) OR:=N3
theorem Kg:iz X (QO .GtE) OU:=OF
end
structure tJ(mg:PH->Option PL)(x:PH)(i:Int):Prop where
 ex:∃t,mg x=some (.int i t)
theorem tJ.pe{X:Cx}{x:PH}{i:Int}{pos:Qi}(k:tJ X.mg x i)(hg:Gl X x)(hd:(x==("__debug__":PH))=false:=by decide):PE X (.Name x pos) (tC (.int i)):=by
 obtain⟨t,e⟩:=k.ex
 exact Av hg e ⟨t,rfl⟩ hd
theorem Nm{K:PM}{mg:PH->Option PL}{h:P0}{x:PH}{i:Int}{t:Tok}(X:K.In h)(G:h.Ns QI mg)(z:Rn K QI x=some (some (.int i t))):tJ mg x i:=⟨t,Sk X G z⟩
theorem av.upd{H H':Hp}(e:av H H'){l:PK}{o:HO}(h:H l=none):av H (upd H' l o):=fun b u q=>by
 rw[ak (bc q h)]
 exact e b u q
theorem av.updN{H:Hp}{l:PK}{o:HO}(h:H l=none):av H (L2.upd H l o):=fun b u q=>by
 rw[ak (bc q h)]
 exact q
theorem av.seqT{K:PM}{H H':Hp}{a:PK}{xs:List V}(e:av H H')(h:kZ K H a xs):kZ K H' a xs:=by
 rcases h with(h|⟨o,h⟩)|h
 ·exact .inl (.inl (e _ _ h))
 ·exact .inl (.inr ⟨o,e _ _ h⟩)
 ·exact .inr h
section
variable {mp:List (Option Nat)}{te:TE}{tt:TT}{σ:St}{H:Hp}{Q:VK}
theorem take_snoc{α:Type}{xs:List α}{i:Nat}{x:α}(h:xs[i]?=some x):xs.take (i+1)=xs.take i++[x]:=by
 rw[Us,h]
 rfl
theorem Hl{K:PM}{a:PK}{xs:List V}(R:V->V->Prop)(caps:St)(hlift:c5 mp σ=none::caps)(hx:aY K H a xs)(hz:xs.length<=PZ)
  (hel:∀x∈xs,∀(H':Hp)(G:VK),av H H'->(∀v H'',R x v->av H' H''->G v H'')->te (some x::caps) H' G)
  (hd:∀l ys H',H l=none->av H H'->H' l=some (.lst ys)->Qd R xs ys->Q (.ref l) H'):dq mp (au 0) du te (HA K a) σ H Q:=by
 refine Gq (xs:=xs) (fun l i acc σ' H'=>av H H'/\H' l=some (.lst acc)/\Qd R (xs.take i) acc/\acc.length<=i/\∃v,σ'=v::caps) (fun l hl=>⟨av.updN hl,ax,by simpa using YF,Qe _,none,hlift⟩) ?_ ?_ ?_ hz
 ·rintro l i acc σ' H' _ ⟨s,_,_,h,_⟩
  exact⟨s.seq hx,h⟩
 ·rintro l i x acc σ' H' hl hi ⟨s,h1,h2,h3,v,rfl⟩
  simp only[au,du,YA]
  rw[if_pos trivial]
  refine hel x (Tg hi) H' _ s fun v H'' r s'=>⟨s' _ _ h1,(s.trans s').upd hl,ax,?_,?_,some x,rfl⟩
  ·rw[take_snoc hi]
   exact h2.snoc r
  ·rw[QV,R8]
   omega
 ·rintro l acc σ' H' hl ⟨s,h1,h2,_⟩
  rw[UM]at h2
  exact hd l acc H' hl s h1 h2
theorem NG{lo:Int}{n:Nat}(R:Nat->V->Prop)(caps:St)(hlift:c5 mp σ=none::caps)(hz:n<=PZ)
  (hel:∀i,i<n->∀(H':Hp)(G:VK),av H H'->(∀v H'',R i v->av H' H''->G v H'')->te (some (.int (lo+i))::caps) H' G)
  (hd:∀l ys H',H l=none->av H H'->H' l=some (.lst ys)->Qd R (P4 n) ys->Q (.ref l) H'):dq mp (au 0) du te (Hy lo n) σ H Q:=by
 refine DR (fun l i acc σ' H'=>av H H'/\H' l=some (.lst acc)/\Qd R (P4 i) acc/\acc.length<=i/\∃v,σ'=v::caps) (fun l hl=>⟨av.updN hl,ax,by simpa using YF,Qe _,none,hlift⟩) ?_ ?_ ?_ hz
 ·rintro l i acc σ' H' _ ⟨s,_,_,h,_⟩
  exact h
 ·rintro l i acc σ' H' hl hi ⟨s,h1,h2,h3,v,rfl⟩
  simp only[au,du,YA]
  rw[if_pos trivial]
  refine hel i hi H' _ s fun v H'' r s'=>⟨s' _ _ h1,(s.trans s').upd hl,ax,?_,?_,some _,rfl⟩
  ·rw[Td]
   exact h2.snoc r
  ·rw[QV,R8]
   omega
 ·rintro l acc σ' H' hl ⟨s,h1,h2,_⟩
  exact hd l acc H' hl s h1 h2
end
section
variable {K:PM}{D:Ends}{σ:St}{H:Hp}{Q:VK}{QB:Bool->Hp->Prop}{QA:List V->Hp->Prop}{t u:TS}{te ta tb tc:TE}{c d:TT}{tl:TA}{i j:Int}{k n:Nat}{v x y:V}{r r':R2}{E:XK}
theorem Fx(h:t {D with nx:=u D} σ H):aE t u D σ H:=h
theorem Od(P:St->Hp->Prop)(h1:∀F:St->Hp->Prop,(∀σ' H',P σ' H'->F σ' H')->t {D with nx:=F} σ H)(h2:∀σ' H',P σ' H'->u D σ' H'):aE t u D σ H:=h1 _ h2
theorem FO(h:te σ H fun x H1=>D.nx (σ.set n (some x)) H1):bG te (au n) D σ H:=h
theorem Oa(h:c σ H fun b H1=>if b=true then t D σ H1 else u D σ H1):cm c t u D σ H:=h
theorem E8(h:te σ H D.rt):bB te D σ H:=h
theorem M6(h:D.nx σ H):bS D σ H:=h
theorem M4(h:te σ H fun _ H1=>D.nx σ H1):cS te D σ H:=h
theorem Pz(h:Q v H):tC v σ H Q:=h
theorem O8(h:ta σ H fun x H1=>tb σ H1 fun y H2=>r x y H2 Q):aN r ta tb σ H Q:=h
theorem Ox(h:Q (.int (i+j)) H):gW (.int i) (.int j) H Q:=⟨i,j,rfl,rfl,h⟩
theorem Ov(h:Q (.int (i-j)) H):CS (.int i) (.int j) H Q:=⟨i,j,rfl,rfl,h⟩
theorem IK(h1:-(2 ^ 64)<i)(h2:i<2 ^ 64)(h:Q (.int (i*j)) H):rH (.int i) (.int j) H Q:=⟨i,j,rfl,rfl,.inl (.inl ⟨h1,h2⟩),h⟩
theorem MF(h1:-(2 ^ 64)<j)(h2:j<2 ^ 64)(h:Q (.int (i*j)) H):rH (.int i) (.int j) H Q:=⟨i,j,rfl,rfl,.inl (.inr ⟨h1,h2⟩),h⟩
theorem LV(h1:0<j)(h2:j<1073741824)(h:Q (.int (i/j)) H):oDiv (.int i) (.int j) H Q:=⟨i,j,rfl,rfl,⟨h1,Int.lt_trans h2 Dg⟩,h⟩
theorem Kb(h1:0<j)(h2:j<nh)(h:Q (.int (i/j)) H):oDiv (.int i) (.int j) H Q:=⟨i,j,rfl,rfl,⟨h1,h2⟩,h⟩
theorem LQ(h1:0<j)(h:Q (.int (i%j)) H):oMod (.int i) (.int j) H Q:=⟨i,j,rfl,rfl,h1,h⟩
theorem O6(h:Q (.bl (decide (i<j))) H):oLt (.int i) (.int j) H Q:=⟨i,j,rfl,rfl,h⟩
theorem O5(h:Q (.bl (decide (i<=j))) H):oLe (.int i) (.int j) H Q:=⟨i,j,rfl,rfl,h⟩
theorem O2(h:Q (.bl (decide (j<i))) H):OR (.int i) (.int j) H Q:=⟨i,j,rfl,rfl,h⟩
theorem Pm(h:Q (.bl (decide (j<=i))) H):OU (.int i) (.int j) H Q:=⟨i,j,rfl,rfl,h⟩
theorem II:decide (V.int i=V.int j)=decide (i=j):=by
 by_cases h:i=j
 ·subst h;simp
 ·rw[decide_eq_false h,decide_eq_false fun z=>h (V.int.inj z)]
theorem Pb(h:Q (.bl (decide (i=j))) H):oC (.int i) (.int j) H Q:=⟨rfl,by rw[II];exact h⟩
theorem O7(h:Q (.bl (!decide (i=j))) H):LS (.int i) (.int j) H Q:=⟨rfl,by rw[II];exact h⟩
theorem N7(h:Q (.bl (decide (x=.non))) H):Kj x .non H Q:=⟨rfl,h⟩
theorem MB(h:Q (.bl (!decide (x=.non))) H):IL x .non H Q:=⟨rfl,h⟩
theorem Mq(h:te σ H fun x H'=>∃k,x=.bl k/\QB k H'):bA te σ H QB:=h
theorem Pl(h:te σ H fun x H1=>∃c,x=.bl c/\QB c H1):tB te σ H QB:=h
theorem OZ{b:Bool}{P:Bool->Prop}(h:P b):∃k,V.bl b=.bl k/\P k:=⟨b,rfl,h⟩
theorem NP(h:c σ H fun b H1=>if b=true then d σ H1 QB else QB false H1):HR c d σ H QB:=h
theorem Pj(h:c σ H fun b H1=>if b=true then QB true H1 else d σ H1 QB):Ou c d σ H QB:=h
theorem Ol(h:c σ H fun b H1=>QB (!b) H1):BN c σ H QB:=h
theorem Ms(h:ta σ H fun x H1=>∃c,x=.bl c/\if c=true then tb σ H1 Q else Q (.bl false) H1):Fs ta tb σ H Q:=h
theorem Pe(h:c σ H fun b H1=>if b=true then ta σ H1 Q else tb σ H1 Q):OD c ta tb σ H Q:=h
theorem OM(h:QA [] H):az σ H QA:=h
theorem Nc(h:te σ H fun x H1=>tl σ H1 fun xs H2=>QA (x::xs) H2):ae te tl σ H QA:=h
theorem MX{sp:Sp}(h:tl σ H fun vs H1=>sp vs H1 Q E):bf sp [] E tl σ H Q:=by
 show tl σ H fun vs H1=>sp (vs++[]) H1 Q E
 simpa only[Um]using h
theorem Pg{q:List V->Hp->VK->Prop}(h:tl σ H fun vs H1=>q vs H1 Q):gr q tl σ H Q:=h
theorem OC(h:Q (.int (min i j)) H):NV [.int i,.int j] H Q:=⟨i,j,rfl,by
 have e:(if j<i then j else i)=min i j:=by omega
 rw[e];exact h⟩
theorem L0{p:PK}{ys:List V}(hs:aY K H p ys)(h:Q (.int ys.length) H):gQ K [.ref p] H Q:=⟨p,ys,rfl,.inl hs,h⟩
theorem LX{p:PK}{ns:List Int}(hs:aY K H p (ns.map V.int))(h:Q (.int ns.sum) H):Gh K [.ref p] H Q:=⟨p,ns,rfl,hs,h⟩
theorem cA{p:PK}{xs:List V}(hs:aY K H p xs)(ha:xW xs i=some v)(h:Q v H):cu K (.ref p) (.int i) H Q:=⟨p,xs,i,v,rfl,rfl,hs,ha,h⟩
noncomputable def Jp(g:TG)(tb:TS)(D:Ends)(J:It)(σ:St)(H:Hp):Prop:=∃W:Nat->Nat->St->Hp->Prop,(∃m,W 0 m σ H)/\∀i m σ H,W i m σ H->
 (J.stop i H/\D.nx σ H)\/(J.go i H/\∃N:St->Hp->Prop,(∀σ' H',N σ' H'->∃m',m'<m/\W (i+1) m' σ' H')/\∀x H',J.yld i H x H'->g x σ H' fun σ2 H2=>tb {D with nx:=N,ct:=N,bk:=D.nx} σ2 H2)
theorem NZ{wi:TI}{g:TG}(h:wi σ H fun J H1=>Jp g t D J σ H1):px wi g t D σ H:=h
theorem Mn{R:It->Hp->Prop}(h:tl σ H fun vs H1=>∃j:Int,vs=[.int j]/\-(2 ^ 62)<=j/\j<2 ^ 62/\R (Hy 0 j.toNat) H1):nK tl σ H R:=h
theorem Lg{P:Int->Prop}(h1:-(2 ^ 62)<=i)(h2:i<2 ^ 62)(h:P i):∃j:Int,([.int i]:List V)=[.int j]/\-(2 ^ 62)<=j/\j<2 ^ 62/\P j:=⟨i,rfl,h1,h2,h⟩
theorem Np{R:It->Hp->Prop}(h:tl σ H fun vs H1=>∃i j:Int,vs=[.int i,.int j]/\(-(2 ^ 62)<=i/\i<2 ^ 62/\-(2 ^ 62)<=j/\j<2 ^ 62)/\R (Hy i (j-i).toNat) H1):Fe tl σ H R:=h
theorem Lm{P:Int->Int->Prop}(h1:-(2 ^ 62)<=i)(h2:i<2 ^ 62)(h3:-(2 ^ 62)<=j)(h4:j<2 ^ 62)(h:P i j):∃i' j':Int,([.int i,.int j]:List V)=[.int i',.int j']/\(-(2 ^ 62)<=i'/\i'<2 ^ 62/\-(2 ^ 62)<=j'/\j'<2 ^ 62)/\P i' j':=⟨i,j,rfl,⟨h1,h2,h3,h4⟩,h⟩
theorem Kn{R:It->Hp->Prop}(h:te σ H fun x H1=>∃a,x=.ref a/\(∃xs,aY K H1 a xs)/\R (HA K a) H1):dv K te σ H R:=h
theorem fN{P:PK->Prop}{a:PK}{xs:List V}(hs:aY K H a xs)(h:P a):∃b,V.ref a=.ref b/\(∃xs,aY K H b xs)/\P b:=⟨a,rfl,⟨xs,hs⟩,h⟩
theorem Pc{q:V->Option Int->Option Int->Hp->VK->Prop}{lo hi:TO}(h:te σ H fun x H1=>lo σ H1 fun l H2=>hi σ H2 fun u H3=>q x l u H3 Q):uX q te lo hi σ H Q:=h
theorem Mx{R:Option Int->Hp->Prop}(h:te σ H fun x H1=>∃i,x=.int i/\R (some i) H1):dz te σ H R:=h
theorem Kv{P:Int->Prop}(h:P i):∃j,V.int i=.int j/\P j:=⟨i,rfl,h⟩
theorem Jl{R:Option Int->Hp->Prop}(h:R none H):cy σ H R:=h
theorem mS{mp:List (Option Nat)}{wi:TI}{g:TG}(h:wi σ H fun J H1=>dq mp g c te J σ H1 Q):bP mp wi g c te σ H Q:=h
theorem Pp{T:String}{q:V->List V->Hp->VK->Prop}(h:te σ H fun x H1=>L5 K T x H1/\tl σ H1 fun xs H2=>q x xs H2 Q):Dk K T q te tl σ H Q:=h
theorem NX{T:String}{q:V->List V->Hp->VK->Prop}(h:te σ H fun x H1=>L5 K T x H1/\q x [] H1 Q):JE K T q te σ H Q:=h
theorem KW(h:ta σ H fun x H1=>tb σ H1 fun y H2=>r x y H2 fun z H3=>∃k,z=.bl k/\(if k=true then tc σ H3 fun w' H4=>r' y w' H4 Q else Q (.bl false) H3)):Bi r r' ta tb tc σ H Q:=h
end
end L2
namespace L2
end L2
namespace L2
open PySem PySem.Spec PyProof.Rows
noncomputable def Pa(lo step:Int)(n:Nat):It:=⟨fun i _=>i<n,fun i H x H'=>H'=H/\x=.int (lo+i*step),fun i _=>n<=i⟩
section
variable {X:Cx}{tg:PY}
end
theorem M2{lo step:Int}{n:Nat}{g:TG}{tb:TS}{D:Ends}{σ:St}{H:Hp}(Pv:Nat->St->Hp->Prop)(h0:Pv 0 σ H)
  (hs:∀i σ H,i<n->Pv i σ H->g (.int (lo+i*step)) σ H fun σ2 H2=>tb {D with nx:=Pv (i+1),ct:=Pv (i+1),bk:=D.nx} σ2 H2) (hd:∀σ H,Pv n σ H->D.nx σ H):Jp g tb D (Pa lo step n) σ H:=by
 exists fun i m σ H=>m=n-i/\i<=n/\Pv i σ H,⟨n,by simp,Q3 _,h0⟩
 rintro i m σ H ⟨rfl,hi,p⟩
 by_cases hlt:i<n
 ·refine .inr ⟨hlt,Pv (i+1),fun σ' H' p'=>⟨n-(i+1),by omega,rfl,hlt,p'⟩,fun x H' y=>?_⟩
  obtain⟨e,y⟩:=y
  subst e y
  exact hs i σ _ hlt p
 ·have e:i=n:=by omega
  subst e
  exact .inl ⟨Qe _,hd σ H p⟩
mutual
inductive eF(K:PM)(H:Hp):V->Qw->Prop
 |non:eF K H .non .none
 |bl (b:Bool):eF K H (.bl b) (.bool b)
 |int (i:Int):eF K H (.int i) (.int i)
 |str (x:PH):eF K H (.str x) (.str x)
 |lst {a:PK}{xs:List V}{ds:List Qw}:aY K H a xs->DatAll K H xs ds->eF K H (.ref a) (.list ds)
 |tup {a:PK}{xs:List V}{ds:List Qw}:kZ K H a xs->DatAll K H xs ds->eF K H (.ref a) (.tuple ds)
inductive DatAll(K:PM)(H:Hp):List V->List Qw->Prop
 |nil:DatAll K H [] []
 |cons {x:V}{xs:List V}{d:Qw}{ds:List Qw}:eF K H x d->DatAll K H xs ds->DatAll K H (x::xs) (d::ds)
end
section
variable {X:Cx}{pins:List (PK×PV)}{σ:St}{H:Hp}{s:PN}
mutual
theorem fA(I:Inv X pins σ H s):∀{x:V}{d:Qw}{u:PL},eF X.K H x d->RelV x u->∃as,Reads s.heap u d as
 |_,_,_,.non,r=>by cases r;exact⟨_,.none⟩
 |_,_,_,.bl b,r=>by cases r;exact⟨_,.bool b⟩
 |_,_,_,.int i,r=>by obtain⟨t,rfl⟩:=r;exact⟨_,.int i t⟩
 |_,_,_,.str x,r=>by obtain⟨t,rfl⟩:=r;exact⟨_,.str x t⟩
 |_,_,_,.lst hS all,r=>by
  cases r
  obtain⟨its,rv,pl,_⟩:=I.list hS
  obtain⟨o,ho,hc,n,hd⟩:=pl.isList
  obtain⟨as,q⟩:=sH I all rv
  exact⟨_,Reads.list ho hc hd (by simpa using q)⟩
 |_,_,_,.tup hS all,r=>by
  cases r
  obtain⟨its,rv,pl,_⟩:=I.tuple hS
  obtain⟨o,ho,hc,n,hd⟩:=pl
  obtain⟨as,q⟩:=sH I all rv
  exact⟨_,Reads.tuple ho hc hd (by simpa using q)⟩
theorem sH(I:Inv X pins σ H s):∀{xs:List V}{ds:List Qw}{us:List PL},DatAll X.K H xs ds->bR xs us->∃as,ReadsAll s.heap us ds as
 |_,_,_,.nil,r=>by cases r;exact⟨_,.nil⟩
 |_,_,_,.cons h t,r=>by
  cases r with
  |cons r1 r2=>
   obtain⟨as,a⟩:=fA I h r1
   obtain⟨bs,b⟩:=sH I t r2
   exact⟨_,.cons a b⟩
end
end
noncomputable def wZ(K:PM)(neg:Bool):R2:=fun x y H Q=>∃d e,eF K H x d/\eF K H y e/\R6 d=true/\R6 e=true/\Rm d e=true/\Q (.bl (same d e != neg)) H
section
variable {X:Cx}
theorem DG(hu:X.A.units+64<cLine):iz X (QO .Eq) (wZ X.K false):=by
 intro pins s σ H x y v u Q I rx ry h
 obtain⟨d,e,h1,h2,h3,h4,h5,q⟩:=h
 obtain⟨as,a⟩:=fA I h1 rx
 obtain⟨bs,b⟩:=fA I h2 ry
 refine eq_dataH_same a b h3 h4 hu h5 ⟨.bl (same d e),H,I,rfl,?_⟩
 rw[T7]at q
 exact q
theorem iy(hu:X.A.units+64<cLine):iz X (QO .NotEq) (wZ X.K true):=by
 intro pins s σ H x y v u Q I rx ry h
 obtain⟨d,e,h1,h2,h3,h4,h5,q⟩:=h
 obtain⟨as,a⟩:=fA I h1 rx
 obtain⟨bs,b⟩:=fA I h2 ry
 refine ne_dataH_same a b h3 h4 hu h5 ⟨.bl (!same d e),H,I,rfl,?_⟩
 rw[TJ]at q
 exact q
end
mutual
theorem pM:∀d:Qw,d.canLay0=true->Rm d d=true
 |.none,_=>by simp[Rm]
 |.bool _,_=>by simp[Rm]
 |.int _,_=>by simp[Rm]
 |.str _,_=>by simp[Rm]
 |.list xs,h=>by rw[Rm];exact jR xs (by rw[RV]at h;exact h)
 |.tuple xs,h=>by rw[Rm];exact jR xs (by rw[RV]at h;exact h)
 |.dict _,h=>by rw[RV]at h;cases h
theorem jR:∀ds:List Qw,Sq ds=true->Sx ds ds=true
 |[],_=>by simp[Sx]
 |x::xs,h=>by
  rw[Sq,QW]at h
  rw[Sx,pM x h.1,jR xs h.2]
  rfl
end
section
variable {K:PM}{H:Hp}{Q:VK}{x y:V}
theorem OB{d:Qw}(h1:eF K H x d)(h2:eF K H y d)(hs:R6 d=true)(h:Q (.bl true) H):wZ K false x y H Q:=
 ⟨d,d,h1,h2,hs,hs,pM d (XO hs),by rw[same_self];exact h⟩
theorem E2{d:Qw}(h1:eF K H x d)(h2:eF K H y d)(hs:R6 d=true)(h:Q (.bl false) H):wZ K true x y H Q:=
 ⟨d,d,h1,h2,hs,hs,pM d (XO hs),by rw[same_self];exact h⟩
end
section
variable {X:Cx}
end
noncomputable def LY(K:PM)(a:PK):It:=
 ⟨fun i H=>∃xs x,aY K H a xs/\xs[i]?=some x,fun i H x H'=>∃T y,x=.ref T/\H T=none/\H'=upd H T (.tup [.int i,y])/\∀xs,aY K H a xs->xs[i]?=some y,fun i H=>∃xs,aY K H a xs/\xs.length<=i⟩
theorem GZ{P:Qc}{w:P8}{K:PM}{elts:List PY}{x1}{pos:Qi}(a e it:PK)(hne:e≠it):
  Turn P w K (.Tuple elts x1 pos) (LY K a) [e,it] e (fun i h=>(∃old,IsEnum h e it ((i:Nat):Int) old)/\h.IsListIter it a i) where
 mem:=by simp
 obj:=fun i h st b hb=>by
  obtain⟨⟨old,he⟩,o,ho,hc,hd⟩:=st
  rcases Qb.mp hb with z|hb
  ·subst z
   exact⟨_,he,fun v z=>by
    have z':TU _=SI v:=z
    cases z'⟩
  ·have z:b=it:=by simpa using hb
   subst z
   exact⟨o,ho,fun v z=>by rw[hd]at z;cases z⟩
 keep:=fun i h h' st k=>by
  obtain⟨⟨old,he⟩,o,ho,r⟩:=st
  exact⟨⟨old,k e (by simp) _ he⟩,o,k it (by simp) _ ho,r⟩
 item:=by
  intro X hP hw hK hc i pins s σ H E I hf st hg
  subst hP hw hK
  obtain⟨⟨old,he⟩,hit⟩:=st
  obtain⟨xs,x,hS,hx⟩:=hg
  obtain⟨its,rv,pl,hz⟩:=I.list hS
  obtain⟨u,hu,ru⟩:=rv.get hx
  obtain⟨f0,f1,f2,f3,f4,f5⟩:=hf e (by simp)
  obtain⟨g0,g1,g2,g3,g4,g5⟩:=hf it (by simp)
  have fT:H s.heap.objs.size=none:=I.fresh
  refine wpAny_pyNext_enum_item he hit pl.isList (x:=u) (by simpa using hu) hne fun h' heo hit' ht hsz hk=>⟨_,rfl,?_⟩
  refine wpAny_letOwnedTupleGo_enum heo fun h2 he2 hs2=>?_
  have hs2:RY e h' h2:=hs2
  have heT:e≠s.heap.objs.size:=Qt (Ql he)
  have oldK:∀b o,b≠e->b≠it->s.heap.get? b=some o->h2.get? b=some o:=fun b o h1 h2' q=>hs2.extBut b o h1 (hk b o h1 h2' q)
  have hT2:h2.get? s.heap.objs.size=some {cls:=.type "tuple",data:=.seq #[.int i s.toks,u]}:=hs2.extBut _ _ (Qy heT) ht
  have neT:∀b o,s.heap.get? b=some o->b≠s.heap.objs.size:=fun b o q=>Qt (Ql q)
  have nH:∀b w',H b=some w'->b≠e/\b≠it:=fun b w' q=>⟨fun z=>(by rw[z,f0]at q;cases q),fun z=>(by rw[z,g0]at q;cases q)⟩
  have I2:Inv X pins σ (upd H s.heap.objs.size (.tup [.int i,x])) {s with heap:=h2,toks:=s.toks+1}:=by
   refine I.step (g':=s.gens) (d':=s.drawn) (t':=s.toks+1) (ch:=[e,it]) (fun b hb=>?_) (fun b o _ _ hb q _=>?_) (fun b o _ _ hb q _=>?_) (fun b o _ q n=>?_) (fun b o hb q=>?_)
    (fun b ys q=>?_) (fun b o w' q=>?_) (fun b ps q=>?_) (fun m hm=>?_) (fun b w' q=>?_) I.bare
   ·rcases Qb.mp hb with z|hb
    ·subst z;exact⟨f3,f1,f4,f5⟩
    ·have z:b=it:=by simpa using hb
     subst z;exact⟨g3,g1,g4,g5⟩
   ·exact oldK b o (fun z=>hb (by simp[z])) (fun z=>hb (by simp[z])) q
   ·exact⟨o.slots,oldK b o (fun z=>hb (by simp[z])) (fun z=>hb (by simp[z])) q⟩
   ·rw[ak (neT b o q)];exact n
   ·exact⟨o,oldK b o (fun z=>hb (by simp[z])) (fun z=>hb (by simp[z])) q⟩
   ·rw[ak (bc q fT)];exact q
   ·rw[ak (bc q fT)];exact q
   ·exact⟨#[],by rw[ak (bc q fT),q];simp⟩
   ·obtain⟨o,es,ep,ho,r⟩:=hm
    exact⟨o,es,ep,oldK _ o (Qy f1) (Qy g1) ho,r⟩
   ·by_cases hb:b=s.heap.objs.size
    ·subst hb
     rw[ax]at q
     cases q
     exact⟨by show 2<=PZ;decide,[.int i s.toks,u],.cons ⟨_,rfl⟩ (.cons ru .nil),_,hT2,rfl,_,rfl⟩
    ·rw[ak hb]at q
     refine(I.hok b w' q).stay (fun c v hc q'=>oldK c v ?_ ?_ q') (fun c q'=>?_) fun c ys q'=>?_
     ·rcases hc with z|z
      ·rw[z];exact(nH b w' q).1
      ·exact(nH c _ z).1
     ·rcases hc with z|z
      ·rw[z];exact(nH b w' q).2
      ·exact(nH c _ z).2
     ·rw[ak (bc q' fT)];exact q'
     ·rw[ak (bc q' fT)];exact q'
  refine⟨.ref s.heap.objs.size,_,I2,rfl,⟨s.heap.objs.size,x,rfl,fT,rfl,fun ys hys=>?_⟩,⟨⟨u,?_⟩,?_⟩,fun b hb=>?_⟩
  ·rw[I.list_inj hys hS];exact hx
  ·have e1:((i+1:Nat):Int)=(i:Int)+1:=by omega
   rw[e1];exact he2
  ·exact hit'.extBut hs2.extBut (Qy hne)
  ·have:b≠s.heap.objs.size:=by
    rcases Qb.mp hb with z|hb
    ·rw[z];exact heT
    ·have z:b=it:=by simpa using hb
     rw[z]
     obtain⟨o,ho,_⟩:=hit
     exact neT it o ho
   rw[ak this]
   exact(hf b hb).1
 done:=by
  intro X hP hw hK hc i pins s σ H E I hf st hg
  subst hP hw hK
  obtain⟨⟨old,he⟩,hit⟩:=st
  obtain⟨xs,hS,hx⟩:=hg
  obtain⟨its,rv,pl,hz⟩:=I.list hS
  have hl:=rv.length
  obtain⟨g0,g1,g2,g3,g4,g5⟩:=hf it (by simp)
  refine wpAny_pyNext_enum_end (I.ok.hd hc) he hit pl.isList (by simp;omega) fun h' eb=>⟨rfl,I.turned (t':=s.toks) (fun b o hb e'=>eb b o hb e') g0 g1 g3 g4 g5⟩
 self:=fun A i s Q E st h=>by
  obtain⟨⟨old,he⟩,hit⟩:=st
  exact UW he h
section
variable {X:Cx}
noncomputable def wC(K:PM)(tl:TE):TI:=fun σ H R=>tl σ H fun x H1=>∃a,x=.ref a/\(∃xs,aY K H1 a xs)/\R (LY K a) H1
theorem rN{l:PY}{tl:TE}{elts:List PY}{x1}{p pos pt:Qi}(hg:Gl X "enumerate")(hm:X.mg "enumerate"=none)(hl:PE X l tl)(hs:Qf [l] X.env=[(false,eval l X.env)]:=by rfl):
  PI X (.Tuple elts x1 pt) (.Call (.Name "enumerate" p) [l] [] pos) (wC X.K tl):=by
 intro pins s σ H R I h
 refine Call_ (jC I hg hm boot_enumerate (Sy (cI (aa hl ag hs pos pins s σ H (fun vs H1=>∃x,vs=[x]/\∃a,x=.ref a/\(∃xs,aY X.K H1 a xs)/\R (LY X.K a) H1) I ?_) fun us s1 ⟨vs,H1,I1,r1,q1⟩=>?_) hs rfl))
 ·have mono:tl σ H (fun x H1=>∃y,[x]=[y]/\∃a,y=.ref a/\(∃xs,aY X.K H1 a xs)/\R (LY X.K a) H1):=by
   have e:(fun (x:V) (H1:Hp)=>∃y,[x]=[y]/\∃a,y=V.ref a/\(∃xs,aY X.K H1 a xs)/\R (LY X.K a) H1)=fun x H1=>∃a,x=V.ref a/\(∃xs,aY X.K H1 a xs)/\R (LY X.K a) H1:=by
    funext x H1
    simp
   rw[e]
   exact h
  exact mono
 ·obtain⟨x,rfl,a,rfl,⟨xs,hS⟩,q⟩:=q1
  obtain⟨u,rfl,ru⟩:=vals1 r1
  cases ru
  obtain⟨its,rv,pl,hz⟩:=I1.list hS
  refine call_enumerate_list pl.isList fun h' he hit hsz hk=>?_
  have I2:Inv X pins σ H1 {s1 with heap:=h'}:=I1.kept (t':=s1.toks) hk
  refine UW he ?_
  refine⟨s1.heap.objs.size+1,[s1.heap.objs.size+1,s1.heap.objs.size],_,_,H1,rfl,I2,GZ a _ _ (W9 _),⟨⟨.none,he⟩,hit⟩,fun b hb=>?_,q⟩
  have hb':s1.heap.objs.size<=b:=by
   rcases Qb.mp hb with z|hb
   ·rw[z];exact RC _
   ·have z:b=s1.heap.objs.size:=by simpa using hb
    rw[z];exact Qe _
  exact I1.fpOk hb' (I1.hok.fresh hb')
end
theorem Inv.turnedL{X:Cx}{pins:List (PK×PV)}{σ:St}{H:Hp}{s:PN}{h':P0}{t':Nat}{ch:List PK}(I:Inv X pins σ H s)(hf:∀b∈ch,qM X pins H b)(k:∀b o,b∉ch->s.heap.get? b=some o->h'.get? b=some o):
  Inv X pins σ H {s with heap:=h',toks:=t'}:=by
 have nit:∀b u,H b=some u->b∉ch:=fun b u e z=>by rw[(hf b z).1]at e;cases e
 refine I.step (g':=s.gens) (d':=s.drawn) (ch:=ch) (fun b hb=>?_) (fun b o _ _ hc e _=>k b o hc e) (fun b o _ _ hc e _=>⟨o.slots,k b o hc e⟩) (fun _ _ _ _ n=>n)
  (fun b o hc e=>⟨o,k b o hc e⟩) (fun _ _ e=>e) (fun _ _ _ e=>e) (fun b ps e=>⟨#[],by rw[e];simp⟩) (fun m hm=>?_) (fun b u e=>?_) I.bare
 ·obtain⟨_,h1,_,h3,h4,h5⟩:=hf b hb
  exact⟨h3,h1,h4,h5⟩
 ·obtain⟨o,es,ep,ho,r⟩:=hm
  exact⟨o,es,ep,k _ o (fun z=>(hf _ z).2.1 rfl) ho,r⟩
 ·refine(I.hok b u e).stay (fun c v hc q=>k c v ?_ q) (fun _ q=>q) fun _ _ q=>q
  rcases hc with z|z
  ·rw[z];exact nit b u e
  ·exact nit c _ z
section
variable {X:Cx}
end
structure Ys(J:It)(g:TG)(P:Hp->Prop)(n:Nat)(f:Nat->St->St):Prop where
 go:∀i H,i<n->P H->J.go i H
 stop:∀H,P H->J.stop n H
 yld:∀i H x H' σ (Q:St->Hp->Prop),i<n->P H->J.yld i H x H'->(∀H'',av H H''->Q (f i σ) H'')->g x σ H' Q
theorem dE{K:PM}{a:PK}{xs:List V}(p:Nat):Ys (HA K a) (au p) (fun H=>aY K H a xs) xs.length (fun i σ=>σ.set p (some (xs.getD i .non))) where
 go:=fun i H hi h=>⟨xs,xs[i],h,by simp[hi]⟩
 stop:=fun H h=>⟨xs,h,Qe _⟩
 yld:=fun i H x H' σ Q hi h y q=>by
  obtain⟨e,y⟩:=y
  subst e
  have e:xs.getD i .non=x:=by simp[Qm,y xs h]
  have:=q _ (av.refl _)
  rw[e]at this
  exact this
theorem j7{lo:Int}{n:Nat}(p:Nat):Ys (Hy lo n) (au p) (fun _=>True) n (fun i σ=>σ.set p (some (.int (lo+i)))) where
 go:=fun i H hi _=>hi
 stop:=fun H _=>Qe _
 yld:=fun i H x H' σ Q hi _ y q=>by
  obtain⟨e,y⟩:=y
  subst e y
  exact q _ (av.refl _)
theorem rK{K:PM}{a:PK}{xs:List V}(p r:Nat):Ys (LY K a) (fZ K 2 (bz (au p) (bz (au r) fS))) (fun H=>aY K H a xs) xs.length (fun i σ=>(σ.set p (some (.int i))).set r (some (xs.getD i .non))) where
 go:=fun i H hi h=>⟨xs,xs[i],h,by simp[hi]⟩
 stop:=fun H h=>⟨xs,h,Qe _⟩
 yld:=fun i H x H' σ Q hi h y q=>by
  obtain⟨T,v,rfl,hT,rfl,hv⟩:=y
  have e:xs.getD i .non=v:=by simp[Qm,hv xs h]
  exists T,_,rfl,kZ.of ax,rfl,_,_,rfl,_,_,rfl,rfl
  have:=q _ (av.updN hT (o:=.tup [.int i,v]))
  rw[e]at this
  exact this
theorem j4{K:PM}{a:PK}{ts:List PK}{u v w:Nat->V}(p r t:Nat):
  Ys (HA K a) (fZ K 3 (bz (au p) (bz (au r) (bz (au t) fS)))) (fun H=>aY K H a (ts.map V.ref)/\∀i b,ts[i]?=some b->kZ K H b [u i,v i,w i]) ts.length (fun i σ=>((σ.set p (some (u i))).set r (some (v i))).set t (some (w i))) where
 go:=fun i H hi h=>⟨_,.ref ts[i],h.1,by simp[hi]⟩
 stop:=fun H h=>⟨_,h.1,by simp⟩
 yld:=fun i H x H' σ Q hi h y q=>by
  obtain⟨e,y⟩:=y
  subst e
  have e:x=.ref ts[i]:=by
   have:=y _ h.1
   simp[hi]at this
   exact this.symm
  subst e
  exact⟨ts[i],_,rfl,h.2 i _ (by simp[hi]),rfl,_,_,rfl,_,_,rfl,_,_,rfl,rfl,q _ (av.refl _)⟩
theorem u5{K:PM}{a:PK}{ts:List PK}{u v:Nat->V}(p r:Nat):
  Ys (HA K a) (fZ K 2 (bz (au p) (bz (au r) fS))) (fun H=>aY K H a (ts.map V.ref)/\∀i b,ts[i]?=some b->kZ K H b [u i,v i]) ts.length (fun i σ=>(σ.set p (some (u i))).set r (some (v i))) where
 go:=fun i H hi h=>⟨_,.ref ts[i],h.1,by simp[hi]⟩
 stop:=fun H h=>⟨_,h.1,by simp⟩
 yld:=fun i H x H' σ Q hi h y q=>by
  obtain⟨e,y⟩:=y
  subst e
  have e:x=.ref ts[i]:=by
   have:=y _ h.1
   simp[hi]at this
   exact this.symm
  subst e
  exact⟨ts[i],_,rfl,h.2 i _ (by simp[hi]),rfl,_,_,rfl,_,_,rfl,rfl,q _ (av.refl _)⟩
theorem rT{J:It}{g:TG}{P:Hp->Prop}{n:Nat}{f:Nat->St->St}{tb:TS}{D:Ends}{σ:St}{H:Hp}(Y:Ys J g P n f)(Pv:Nat->St->Hp->Prop)(h0:Pv 0 σ H)(hP:∀i σ H,Pv i σ H->P H)
  (hs:∀i σ H H',i<n->Pv i σ H->av H H'->tb {D with nx:=Pv (i+1),ct:=Pv (i+1),bk:=D.nx} (f i σ) H') (hd:∀σ H,Pv n σ H->D.nx σ H):Jp g tb D J σ H:=by
 exists fun i m σ H=>m=n-i/\i<=n/\Pv i σ H,⟨n,by simp,Q3 _,h0⟩
 rintro i m σ H ⟨rfl,hi,p⟩
 by_cases hlt:i<n
 ·exact .inr ⟨Y.go i H hlt (hP _ _ _ p),Pv (i+1),fun σ' H' p'=>⟨n-(i+1),by omega,rfl,hlt,p'⟩,fun x H' y=>Y.yld i H x H' σ _ hlt (hP _ _ _ p) y fun H'' s=>hs i σ H H'' hlt p s⟩
 ·have e:i=n:=by omega
  subst e
  exact .inl ⟨Y.stop H (hP _ _ _ p),hd σ H p⟩
section
variable {mp:List (Option Nat)}{g:TG}{tt:TT}{te:TE}{J:It}{P:Hp->Prop}{n:Nat}{f:Nat->St->St}{σ:St}{H:Hp}{Q:VK}
noncomputable def eh(l:PK)(H H':Hp):Prop:=∀b o,b≠l->H b=some o->H' b=some o
theorem av.x{H H':Hp}(s:av H H')(l:PK):eh l H H':=fun b o _ h=>s b o h
theorem rX{H:Hp}{l:PK}{o:HO}:eh l H (upd H l o):=fun b u hb h=>by rw[ak hb];exact h
theorem gh(Y:Ys J g P n f)(st:Nat->St)(hf:∀i σ',(σ'=c5 mp σ\/∃j,σ'=st j)->f i σ'=st i)(hP:∀H',av H H'->P H')(hz:n<=PZ)(b:Nat->Bool)(R:PK->Nat->V->Hp->Prop)
  (hR:∀l i v H1 H2,eh l H1 H2->R l i v H1->R l i v H2)
  (ht:∀i,i<n->∀(H':Hp)(G:Bool->Hp->Prop),av H H'->(∀H'',av H' H''->G (b i) H'')->tt (st i) H' G)
  (he:∀l i,i<n->b i=true->∀(H':Hp)(G:VK),H l=none->(∃o,H' l=some o)->av H H'->(∀v H'',R l i v H''->av H' H''->G v H'')->te (st i) H' G)
  (hd:∀l ys H',H l=none->av H H'->H' l=some (.lst ys)->Qd (fun i v=>R l i v H') ((P4 n).filter b) ys->Q (.ref l) H'):dq mp g tt te J σ H Q:=by
 intro l hl
 refine⟨fun i m acc σ' H'=>m=n-i/\i<=n/\acc.length<=i/\av H H'/\H' l=some (.lst acc)/\Qd (fun i v=>R l i v H') ((P4 i).filter b) acc/\(σ'=c5 mp σ\/∃j,σ'=st j),
  ⟨n,by simp,Q3 _,Qe _,av.updN hl,ax,.nil,.inl rfl⟩,?_⟩
 rintro i m acc σ' H' ⟨rfl,hi,ha,s,h1,h2,hσ⟩
 by_cases hlt:i<n
 ·refine .inr ⟨Y.go i H' hlt (hP _ s),by omega,fun acc' σ2 H2=>i+1<=n/\acc'.length<=i+1/\av H H2/\H2 l=some (.lst acc')/\Qd (fun i v=>R l i v H2) ((P4 (i+1)).filter b) acc'/\(σ2=c5 mp σ\/∃j,σ2=st j),fun acc' σ2 H2 p'=>⟨n-(i+1),by omega,rfl,p'⟩,fun x H2 y=>?_⟩
  refine Y.yld i H' x H2 σ' _ hlt (hP _ s) y fun H3 s3=>?_
  rw[hf i σ' hσ]
  refine ht i hlt H3 _ (s.trans s3) fun H4 s4=>?_
  have s34:=s3.trans s4
  cases hb:b i with
  |false=>
   refine HM ⟨hlt,by omega,s.trans s34,s34 _ _ h1,?_,.inr ⟨i,rfl⟩⟩
   rw[Td,VV,SY,hb]
   simp only[Sw,if_false,WZ,Um]
   exact Paired.mapP h2 fun j v r=>hR l j v _ _ (s34.x l) r
  |true=>
   refine F7 ?_
   refine he l i hlt hb H4 _ hl ⟨_,s34 _ _ h1⟩ (s.trans s34) fun v H5 r s5=>?_
   have s35:=s34.trans s5
   refine⟨s35 _ _ h1,hlt,?_,(s.trans s35).upd hl,ax,?_,.inr ⟨i,rfl⟩⟩
   ·rw[QV,R8];omega
   ·rw[Td,VV,SY,hb]
    simp only[if_true,WZ]
    exact(Paired.mapP h2 fun j v r=>hR l j v _ _ rX (hR l j v _ _ (s35.x l) r)).snoc (hR l i v _ _ rX r)
 ·have e:i=n:=by omega
  subst e
  exact .inl ⟨Y.stop H' (hP _ s),hd l acc H' hl s h1 h2⟩
theorem lj{α:Type}{F:α->V}:∀{xs:List α}{ys:List V},Qd (fun x v=>v=F x) xs ys->ys=xs.map F
 |_,_,.nil=>rfl
 |_,_,.cons e t=>by rw[e,lj t];rfl
theorem bD(Y:Ys J g P n f)(st:Nat->St)(hf:∀i σ',(σ'=c5 mp σ\/∃j,σ'=st j)->f i σ'=st i)(hP:∀H',av H H'->P H')(hz:n<=PZ)(F:Nat->V)
  (he:∀i,i<n->∀(H':Hp)(G:VK),av H H'->(∀H'',av H' H''->G (F i) H'')->te (st i) H' G)
  (hd:∀l H',H l=none->av H H'->H' l=some (.lst ((P4 n).map F))->Q (.ref l) H'):dq mp g du te J σ H Q:=by
 refine gh Y st hf hP hz (fun _=>true) (fun _ i v _=>v=F i) (fun _ _ _ _ _ _ h=>h) (fun i hi H' G s k=>k H' (av.refl _)) (fun l i hi _ H' G _ _ s k=>he i hi H' G s fun H'' s'=>k _ H'' rfl s') fun l ys H' h0 s h1 pr=>?_
 have e:=lj pr
 rw[R7.mpr (fun _ _=>rfl)]at e
 subst e
 exact hd l H' h0 s h1
theorem kQ(Y:Ys J g P n f)(st:Nat->St)(hf:∀i σ',(σ'=c5 mp σ\/∃j,σ'=st j)->f i σ'=st i)(hP:∀H',av H H'->P H')(hz:n<=PZ)(b:Nat->Bool)(F:Nat->V)
  (ht:∀i,i<n->∀(H':Hp)(G:Bool->Hp->Prop),av H H'->(∀H'',av H' H''->G (b i) H'')->tt (st i) H' G)
  (he:∀i,i<n->b i=true->∀(H':Hp)(G:VK),av H H'->(∀H'',av H' H''->G (F i) H'')->te (st i) H' G)
  (hd:∀l H',H l=none->av H H'->H' l=some (.lst (((P4 n).filter b).map F))->Q (.ref l) H'):dq mp g tt te J σ H Q:=by
 refine gh Y st hf hP hz b (fun _ i v _=>v=F i) (fun _ _ _ _ _ _ h=>h) ht (fun l i hi hb H' G _ _ s k=>he i hi hb H' G s fun H'' s'=>k _ H'' rfl s') fun l ys H' h0 s h1 pr=>?_
 have e:=lj pr
 subst e
 exact hd l H' h0 s h1
theorem jt{T:PK->Nat->Prop}:∀{is:List Nat}{ys:List V},Qd (fun i v=>∃b,v=.ref b/\T b i) is ys->∃bs:List PK,ys=bs.map V.ref/\Qd (fun i b=>T b i) is bs
 |_,_,.nil=>⟨[],rfl,.nil⟩
 |_,_,.cons ⟨b,e,h⟩ t=>by
  obtain⟨bs,e',p⟩:=jt t
  exact⟨b::bs,by rw[e,e'];rfl,.cons h p⟩
end
theorem LB{i:Int}{ns:List Int}:NC (.int i) (ns.map V.int)=decide (i∈ns):=by
 unfold NC
 rw[Xs]
 induction ns with
 |nil=>simp
 |cons n r ih=>
  rw[Sb,ih]
  show((n==i) || decide (i∈r))=_
  by_cases h:n=i
  ·subst h;simp
  ·have:(n==i)=false:=by simpa using h
   rw[this,Yw]
   by_cases h':i∈r
   ·simp[h']
   ·have:¬i∈n::r:=fun z=>by
     rcases Qb.mp z with e|e
     ·exact h e.symm
     ·exact h' e
    rw[decide_eq_false h',decide_eq_false this]
theorem F0(ns:List Int):(ns.map V.int).all pb=true:=by
 rw[TX]
 exact Rt.mpr fun _ _=>rfl
section
variable {K:PM}{H:Hp}{Q:VK}
theorem NY{p:PK}{ns:List Int}{i:Int}(hs:aY K H p (ns.map V.int))(h:Q (.bl (decide (i∈ns))) H):Hw K false (.int i) (.ref p) H Q:=
 ⟨p,_,rfl,.inl hs,rfl,F0 ns,by rw[if_neg QM,LB];exact h⟩
theorem NM{p:PK}{bs:List Bool}(hs:aY K H p (bs.map V.bl))(h:Q (.bl (bs.all id)) H):J7 K [.ref p] H Q:=⟨p,bs,rfl,hs,h⟩
theorem Mh{te:TE}{σ:St}{R:It->Hp->Prop}(h:te σ H fun x H1=>∃a,x=.ref a/\(∃xs,aY K H1 a xs)/\R (LY K a) H1):wC K te σ H R:=h
end
noncomputable def gF(K:PM)(H:Hp)(a:PK)(rows:List (List Int)):Prop:=∃bs:List PK,aY K H a (bs.map V.ref)/\Qd (fun r b=>aY K H b (r.map V.int)) rows bs
theorem av.rows{K:PM}{H H':Hp}{a:PK}{rows:List (List Int)}(e:av H H')(h:gF K H a rows):gF K H' a rows:=by
 obtain⟨bs,h1,h2⟩:=h
 exact⟨bs,e.seq h1,Paired.mapP h2 fun _ _ q=>e.seq q⟩
theorem km{α β:Type}{F:α->β->Prop}:∀{xs:List α}{ys:List β}{i:Nat}{y:β},Qd F xs ys->ys[i]?=some y->∃x,xs[i]?=some x/\F x y
 |_,_,_,_,.nil,e=>by simp at e
 |_,_,0,_,.cons h _,e=>by simp at e;subst e;exact⟨_,rfl,h⟩
 |_,_,i+1,_,.cons _ t,e=>by simpa using km t (by simpa using e)
section
variable {prog:Qc}{w:P8}{A:Qg}{E:PL->PN->Prop}{s:PN}
end
theorem mK:∀{xs:List V}{us:List PL},xs.length=us.length->(∀(i:Nat)(x:V)(u:PL),xs[i]?=some x->us[i]?=some u->RelV x u)->bR xs us
 |[],[],_,_=>.nil
 |x::r,u::q,hl,h=>.cons (h 0 x u rfl rfl) (mK (by simpa using hl) fun i y w e e'=>h (i+1) y w (by simpa using e) (by simpa using e'))
section
variable {K:PM}{D:Ends}{σ:St}{H:Hp}{Q:VK}{te ta tb:TE}{tl:TA}{xs:List V}{i j:Int}
noncomputable def Nz(xs:List V)(H:Hp)(Q:VK):Prop:=xs.length<=PZ/\∀p,H p=none->Q (.ref p) (upd H p (.lst xs))
noncomputable def MV(xs:List V)(H:Hp)(Q:VK):Prop:=xs.length<=PZ/\∀p,H p=none->Q (.ref p) (upd H p (.tup xs))
theorem MG(h:tl σ H fun xs H1=>Nz xs H1 Q):cH tl σ H Q:=h
theorem Mc(h:tl σ H fun xs H1=>MV xs H1 Q):om tl σ H Q:=h
theorem Ma(hz:xs.length<=PZ)(h:∀p H2,H p=none->av H H2->H2 p=some (.lst xs)->Q (.ref p) H2):Nz xs H Q:=⟨hz,fun p hp=>h p _ hp (av.updN hp) ax⟩
theorem Nv(hz:xs.length<=PZ)(h:∀p H2,H p=none->av H H2->H2 p=some (.tup xs)->Q (.ref p) H2):MV xs H Q:=⟨hz,fun p hp=>h p _ hp (av.updN hp) ax⟩
theorem Nu{a:PK}{lo hi:Option Int}(hs:aY K H a xs)(h:∀p H2,H p=none->av H H2->H2 p=some (.lst (iU xs lo hi))->Q (.ref p) H2):qp K (.ref a) lo hi H Q:=⟨a,xs,rfl,hs,fun p hp=>h p _ hp (av.updN hp) ax⟩
theorem Hh{p:PK}(hs:aY K H p xs)(h:∀l H2,H l=none->av H H2->H2 l=some (.lst xs)->Q (.ref l) H2):AG K [.ref p] H Q:=⟨p,xs,rfl,.inl hs,fun l hl=>h l _ hl (av.updN hl) ax⟩
theorem cZ{l b:PK}{ys:List V}(h1:H l=some (.lst xs))(h2:H b=some (.lst ys))(hz:xs.length+ys.length<=PZ)(h:∀p H2,H p=none->av H H2->H2 p=some (.lst (xs++ys))->Q (.ref p) H2):g9 (.ref l) (.ref b) H Q:=
 ⟨l,b,xs,ys,rfl,rfl,h1,h2,hz,fun p hp=>h p _ hp (av.updN hp) ax⟩
theorem gf{l:PK}{y:V}(hp:H l=some (.lst xs))(hz:xs.length<PZ)(h:Q .non (upd H l (.lst (xs++[y])))):lD (.ref l) [y] H Q:=⟨l,xs,y,rfl,rfl,hp,hz,h⟩
theorem NK{p:PK}(hp:H p=some (.lst xs)):L5 K "list" (.ref p) H:=.inl ⟨rfl,_,aY.of hp⟩
end
section
variable {A B:Prop}{c:Prop} [Decidable c]
theorem IU(hc:c)(h:A):if decide c=true then A else B:=by rw[decide_eq_true hc];exact F7 h
theorem FV(hc:¬c)(h:B):if decide c=true then A else B:=by rw[decide_eq_false hc];exact HM h
theorem Fq(hc:¬c)(h:A):if(!decide c)=true then A else B:=by rw[decide_eq_false hc];exact F7 h
theorem OG(h:B):if(!true)=true then A else B:=HM h
theorem Oh(h:A):if(!false)=true then A else B:=F7 h
theorem dJ(h1:c->A)(h2:¬c->B):if decide c=true then A else B:=LA (fun h=>h1 (of_decide_eq_true h)) (fun h=>h2 fun z=>h (decide_eq_true z))
theorem Oi(h1:¬c->A)(h2:c->B):if(!decide c)=true then A else B:=by
 by_cases z:c
 ·exact Je z (h2 z)
 ·exact Fq z (h1 z)
end
theorem Cq(ns:List Int)(m:Nat):iU (ns.map V.int) none (some (m:Int))=(ns.take m).map V.int:=by
 unfold iU
 rw[HT.rM,HT.og,P7,YJ,Vh,UX]
 rcases UG m ns.length with h|h
 ·rw[UI h]
 ·rw[U4 h,RI (by simp),RI (by simpa using h)]
theorem JD(ns:List Int)(m:Nat):iU (ns.map V.int) (some (m:Int)) none=(ns.drop m).map V.int:=by
 unfold iU
 rw[HT.rM,HT.og,P7,XW]
 rcases UG m ns.length with h|h
 ·rw[UI h,RI (by simp)]
 ·rw[U4 h,Yo (by simp),Yo (by simpa using h)]
  simp
theorem bo:(1000:Nat)<=PZ:=SU (Gc (Qe _))
mutual
noncomputable def nice:Qw->Bool
 |.none=>true
 |.bool _=>false
 |.int _=>true
 |.str x=>VP x
 |.list xs=>dW xs
 |.tuple xs=>dW xs
 |.dict _=>false
noncomputable def dW:List Qw->Bool
 |[]=>true
 |x::xs=>nice x&&dW xs
end
mutual
theorem rb:∀d:Qw,nice d=true->d.canLay0=true
 |.none,_=>by simp[RV]
 |.bool _,h=>by simp[nice]at h
 |.int _,_=>by simp[RV]
 |.str x,h=>by rw[RV];rw[nice]at h;exact h
 |.list xs,h=>by rw[RV];exact gz xs (by rw[nice]at h;exact h)
 |.tuple xs,h=>by rw[RV];exact gz xs (by rw[nice]at h;exact h)
 |.dict _,h=>by simp[nice]at h
theorem gz:∀ds:List Qw,dW ds=true->Sq ds=true
 |[],_=>by simp[Sq]
 |x::xs,h=>by
  rw[dW,QW]at h
  rw[Sq,rb x h.1,gz xs h.2]
  rfl
end
mutual
theorem vE:∀d e:Qw,nice d=true->nice e=true->Rm d e=true
 |.list xs,.list ys,h,h'=>by rw[Rm];exact ng xs ys (by rw[nice]at h;exact h) (by rw[nice]at h';exact h')
 |.tuple xs,.tuple ys,h,h'=>by rw[Rm];exact ng xs ys (by rw[nice]at h;exact h) (by rw[nice]at h';exact h')
 |.bool _,_,h,_=>by simp[nice]at h
 |.dict _,_,h,_=>by simp[nice]at h
 |.none,.none,_,_ | .none,.int _,_,_ | .none,.str _,_,_ | .none,.list _,_,_ | .none,.tuple _,_,_=>by simp[Rm]
 |.int _,.none,_,_ | .int _,.int _,_,_ | .int _,.str _,_,_ | .int _,.list _,_,_ | .int _,.tuple _,_,_=>by simp[Rm]
 |.str _,.none,_,_ | .str _,.int _,_,_ | .str _,.str _,_,_ | .str _,.list _,_,_ | .str _,.tuple _,_,_=>by simp[Rm]
 |.none,.bool _,_,h' | .none,.dict _,_,h' | .int _,.bool _,_,h' | .int _,.dict _,_,h' | .str _,.bool _,_,h' | .str _,.dict _,_,h'=>by simp[nice]at h'
 |.list _,.none,_,_ | .list _,.int _,_,_ | .list _,.str _,_,_ | .list _,.tuple _,_,_=>by simp[Rm]
 |.list _,.bool _,_,h' | .list _,.dict _,_,h'=>by simp[nice]at h'
 |.tuple _,.none,_,_ | .tuple _,.int _,_,_ | .tuple _,.str _,_,_ | .tuple _,.list _,_,_=>by simp[Rm]
 |.tuple _,.bool _,_,h' | .tuple _,.dict _,_,h'=>by simp[nice]at h'
theorem ng:∀ds es:List Qw,dW ds=true->dW es=true->Sx ds es=true
 |[],[],_,_=>by simp[Sx]
 |[],_::_,_,_=>by simp[Sx]
 |_::_,[],_,_=>by simp[Sx]
 |x::xs,y::ys,h,h'=>by
  rw[dW,QW]at h h'
  rw[Sx,vE x y h.1 h'.1,ng xs ys h.2 h'.2]
  rfl
end
noncomputable def fQ(n:Nat)(d:Qw):Prop:=nice d=true/\d.depth<=n
theorem fQ.shaped{n:Nat}{d:Qw}(h:fQ n d)(hn:n<=64):R6 d=true:=by
 unfold R6
 rw[rb d h.1,decide_eq_true (show d.depth<=64 by have:=h.2;omega)]
 rfl
theorem fQ.mono{n m:Nat}{d:Qw}(h:fQ n d)(hm:n<=m):fQ m d:=⟨h.1,P6 h.2 hm⟩
theorem EN{n:Nat}:∀{ds:List Qw},(∀d∈ds,fQ n d)->dW ds=true/\SM ds<=n
 |[],_=>by simp[dW,SM]
 |x::xs,h=>by
  obtain⟨h1,h2⟩:=h x QH
  obtain⟨h3,h4⟩:=EN fun y hy=>h y (Qs _ hy)
  rw[dW,h1,h3,SM]
  exact⟨rfl,by omega⟩
theorem Kt{n:Nat}{ds:List Qw}(h:∀d∈ds,fQ n d):fQ (n+1) (.list ds):=by
 obtain⟨h1,h2⟩:=EN h
 exact⟨by rw[nice];exact h1,by rw[SW];omega⟩
theorem Kd{n:Nat}{ds:List Qw}(h:∀d∈ds,fQ n d):fQ (n+1) (.tuple ds):=by
 obtain⟨h1,h2⟩:=EN h
 exact⟨by rw[nice];exact h1,by rw[SW];omega⟩
section
variable {K:PM}{H:Hp}{Q:VK}{x y:V}{d e:Qw}{n:Nat}
theorem NA(h1:eF K H x d)(h2:eF K H y e)(hd:fQ n d)(he:fQ n e)(hn:n<=64)(h:Q (.bl (!same d e)) H):wZ K true x y H Q:=
 ⟨d,e,h1,h2,hd.shaped hn,he.shaped hn,vE d e hd.1 he.1,by rw[TJ];exact h⟩
end
section
variable {X:Cx}
end
section
variable {X:Cx}
end
section
variable {X:Cx}
noncomputable def OQ(K:PM)(t:TE):TT:=fun σ H Q=>t σ H fun x H1=>∃a xs,x=.ref a/\aY K H1 a xs/\Q (!xs.isEmpty) H1
theorem EB{e:PY}{t:TE}(h:PE X e t)(he:∀whole,isTrue e X.env whole=(do let v <-whole;standAt e.pos;holding [v] (truthy v)):=by intro _;rfl):PT X e (OQ X.K t):=by
 intro pins s σ H Q I hw
 refine isTrue_plain (cI (h pins s σ H _ I hw) fun v s1 ⟨x,H1,I1,r1,q1⟩=>?_) (he _)
 obtain⟨a,xs,rfl,hS,q⟩:=q1
 cases r1
 obtain⟨its,rv,pl,hz⟩:=I1.list hS
 have hl:=rv.length
 have hs:its.length<=PZ:=by rw[<-hl];exact hz
 refine wpAny_truthy_list pl.isList (by rw [Q4]; have : (PZ : Int) < 2 ^ 63 := by decide
                                        omega) ?_
 exists H1,I1.tok _
 have e1:its.toArray.isEmpty=xs.isEmpty:=by cases xs<;>cases its<;>simp_all
 rw[e1]
 exact q
end
section
variable {prog:Qc}{w:P8}{A:Qg}{E:PL->PN->Prop}{s:PN}
end
section
variable {prog:Qc}{w:P8}{A:Qg}{E:PL->PN->Prop}{s:PN}
end
section
variable {X:Cx}
end
section
variable {prog:Qc}{w:P8}{A:Qg}{R:Result->PN->Prop}{I:PK}{fp wr:List PK}{n:Nat}{P:Nat->PL->Prop}{St:Nat->P0->Prop}
end
section
variable {prog:Qc}{w:P8}{A:Qg}{E:PL->PN->Prop}{s:PN}
end
section
variable {X:Cx}
end
structure ko(P:Qc)(w:P8)(K:PM)(mg:PH->Option PL)(base:P0)(k:Nat)(x:PH)(ps:List PH)(sp:Sp):Prop where
 ex:∃a fd,mg x=some (.ref a)/\RW K (.ref a)=true/\Binds K fd ps []/\mw P w K mg base sR k a fd ps sp
structure bF(K:PM)(mg:PH->Option PL)(x:PH)(st:P5)(ps:List PH):Prop where
 ex:∃a fd,mg x=some (.ref a)/\Mz K x x st a fd/\∀us:List PL,us.length=ps.length->bindArgs fd ⟨us,[]⟩=pure (ps.zip us)
section
variable {P:Qc}{w:P8}{K:PM}{mg:PH->Option PL}{base:P0}
theorem bF.cal{x:PH}{st:P5}{ps N:List PH}{rd:TS}{k:Nat}{sp:Sp}(F:bF K mg x st ps)(S:aB N ps (aq st))(len:∀vs H Q E,sp vs H Q E->vs.length=ps.length)
  (hb:∀(f:PK)(cdv:PL)(A:Qg)(outer:List Qq)(s:PN)(H:Hp)(E:XK),di k (A.deeper (Q9 x (aq st) s.heap.objs.size f cdv))->xI (cv sR P w K mg base N x (aq st) f cdv A outer s H E).nox (dH st) rd)
  (hr:∀vs H Q E,sp vs H Q E->rd {nx:=fun _ H'=>Q .non H',rt:=Q} (start N vs) H):ko P w K mg base (k+1) x ps sp:=by
 obtain⟨a,fd,hm,hF,hbd⟩:=F.ex
 exact⟨a,fd,hm,hF.kp,.all hbd,hF.ok S len fun cdv A outer s H vs Q E room h=>⟨rd,hb a cdv A outer s H E room,hr vs H Q E h⟩⟩
theorem bF.law{x:PH}{st:P5}{N:List PH}{y:PH}{rd:TS}{k:Nat}{sp:Sp}{fa:PK}(F:bF K mg x st [y])(hfa:mg x=some (.ref fa))(S:aB N [y] (aq st))(len:∀vs H Q E,sp vs H Q E->vs.length=1)
  (hb:∀(base:P0)(f:PK)(cdv:PL)(A:Qg)(outer:List Qq)(s:PN)(H:Hp)(E:XK),di k (A.deeper (Q9 x (aq st) s.heap.objs.size f cdv))->xI (cv sR P w K mg base N x (aq st) f cdv A outer s H E).nox (dH st) rd)
  (hr:∀vs H Q E,sp vs H Q E->rd {nx:=fun _ H'=>Q .non H',rt:=Q} (start N vs) H):
  ∃fd:RF,(∀(s:PN)(u:PL),BindsTo s fd ⟨[u],[]⟩ [(y,u)])/\∀base:P0,mw P w K mg base sR (k+1) fa fd [y] sp:=by
 obtain⟨a,fd,hm,hF,hbd⟩:=F.ex
 have e:=hfa.symm.trans hm
 cases e
 exact⟨fd,fun s u=>.of_eq (hbd [u] rfl),fun base=>hF.ok S len fun cdv A outer s H vs Q E room h=>⟨rd,hb base fa cdv A outer s H E room,hr vs H Q E h⟩⟩
theorem MH{h:P0}{x:PH}{st:P5}{ps:List PH}{f:PK}{oc:PL}{od an:Option PK}{osl:Array (Option PL)}{kV doc pm cdv ct:PL}(X:K.In h)(G:h.Ns QI mg)
  (a4:Rn K QI x=some (some (.ref f))) (l4:K.lookup f=some ⟨oc,od,.func (Sa x x (ky st) (dH st) (aq st) .none kV doc pm an cdv ct),osl⟩)
  (c4:TL K cdv x=true) (k4:RW K (.ref f)=true)
  (hb:∀(kV doc pm:PL)(an:Option PK)(cdv ct:PL)(us:List PL),us.length=ps.length->bindArgs (Sa x x (ky st) (dH st) (aq st) .none kV doc pm an cdv ct) ⟨us,[]⟩=pure (ps.zip us)):bF K mg x st ps:=
 ⟨f,_,Sk X G a4,IT l4 c4 k4,hb kV doc pm an cdv ct⟩
end
section
variable {X:Cx}{k:Nat}{ps:List PH}{sp:Sp}{x:PH}{p pos:Qi}{e:PY}{es:List PY}{t:TA}
theorem aW(C:ko X.prog X.w X.K X.mg X.base k x ps sp)(hr:di k X.A)(ha:PA X (e::es) t)(hg:Gl X x:=by rfl)(hdb:(x==("__debug__":PH))=false:=by decide)
  (he:Qf (e::es) X.env=(false,eval e X.env)::Qf es X.env:=by rfl) (hpl:(QF pos (Qf es X.env)).any (·.1)=false:=by rfl):PE X (.Call (.Name x p) (e::es) [] pos) (bf sp [] E0 t):=by
 obtain⟨a,fd,hm,hk,hb,F⟩:=C.ex
 exact FF F hr hg hm hk hb .nil Fy ha hdb he hpl
theorem FL{op:Operator}{r:R2}(h:iz X (R9 op) r):Py X op r:=h
theorem Ls{K:PM}{mg:PH->Option PL}{h:P0}{x:PH}(X:K.In h)(G:h.Ns QI mg)(z:Rn K QI x=some none):mg x=none:=ZZ X G z
end
noncomputable def cL(n:Nat)(R:List V->Hp->VK->Prop):Sp:=fun vs H Q _=>vs.length=n/\R vs H Q
theorem aF{n:Nat}{R:List V->Hp->VK->Prop}{m:Nat}(e:n=m):∀vs H Q E,cL n R vs H Q E->vs.length=m:=fun _ _ _ _ h=>h.1.trans e
noncomputable def Ek(K:PM):Sp:=cL 1 fun vs H Q=>∃(a:PK)(ns:List Int),vs=[.ref a]/\aY K H a (ns.map V.int)/\ns.length<=63/\∀H',Q (.bl true) H'
theorem Ib{l:XN}{k:Nat}{q:Qc}{loose:List PH}{XP:(PH->Option PL)->P0->Prop}{YP:P8->P0->Prop}{d:DefRec}{K:Params->PM}(hn:l.most=some 63)(hdf:d.params.defaults=[])(hr:di k callerA)
  (hY:∀(w:P8)(h:P0),YP w h->(K w.params).In h)
  (F:∀(w:P8)(mg:PH->Option PL)(fa:PK)(h:P0),(K w.params).In h->h.Ns QI mg->mg d.name=some (.ref fa)->
   ∃fd:RF,(∀(s:PN)(u:PL),BindsTo s fd ⟨[u],[]⟩ [("script",u)])/\∀base:P0,mw l.prog w (K w.params) mg base sR k fa fd ["script"] (Ek (K w.params))):
  Yr q loose XP YP l.row.toRowW d [] (fun f vs=>V3 f vs):=
 Kw (n:=63) (k:=k) (x:="script") (CX:=fun _=>sR) (sp:=fun w=>Ek (K w.params)) hn (by decide) hdf hr hY
  (fun w mg fa h KX G e=>let ⟨fd,h1,h2⟩:=F w mg fa h KX G e;⟨fd,h1,fun base _ _=>h2 base⟩) (fun _ _ a ns hl _ hS=>⟨rfl,a,ns,rfl,hS,hl,fun _=>rfl⟩) fun _ _ _ _ _ z=>z
theorem Gk(o:PV)(f):(o.mapFields f).dict=o.dict:=by
 unfold SV;split<;>rfl
noncomputable def Mv(base h:P0)(e T:PK)(cls:PL):Prop:=
 (∃oe vs oT ts,h.get? e=some oe/\oe.cls=cls/\oe.dict=none/\oe.data=.fields vs/\vs[1]?=some (.ref T)/\h.get? T=some oT/\oT.data=.fields ts/\ts[3]?=some .none)/\base.get? T=none/\T≠e
noncomputable def JU(base:P0)(l:List Qq)(e:PK)(cls:PL)(h h':P0):Prop:=
 (∀b o,b≠e->b∉Ay l->h.get? b=some o->h'.get? b=some o)/\(∀b o,b≠e->h.get? b=some o->∃sl,h'.get? b=some {o with slots:=sl})/\∃T,h.objs.size<=T/\Mv base h' e T cls
section
variable {M:Model}{A:Qg}{E:PL->PN->Prop}{s:PN}
theorem mv{base:P0}{env:Qq}{outer:List Qq}{L e:PK}{oe:PV}{vs:Array PL}{head:PL}{hadNext:Bool}{Q:Unit->PN->Prop}(hfr:A.frames=some (env::outer))(hl:s.heap.FunFrames base (env::outer))(hf:env.frame=some L)
  (he:s.heap.get? e=some oe) (hkb:base.StaysIn s.heap) (hdn:oe.dict=none) (hd:oe.data=.fields vs) (hsz:1<vs.size) (h:∀h',JU base (env::outer) e oe.cls s.heap h'->Q () {s with heap:=h'}):
  PQ M A (do let a <-frameOf env;let pl <-entryPlaceOf L hadNext;let b <-Xm head a .none (QQ L) .none pl;setField (.ref e) 1 b) (fun _ s'=>PQ M A (setFlight (.ref e) none) Q E s') E s:=by
 have hene:e∉(env::outer).filterMap (·.frame):=fun hm=>by
  obtain⟨_,o,ho,hnf⟩:=hl.mem hm ;rw[he]at ho;injection ho with ho;subst ho;exact hnf vs hd
 refine PR (wpAny_frameOf_fun hfr hl hf fun g1 s1=>?_) ;refine PR (wpAny_entryPlaceOf fun pl hpl=>?_)
 unfold Xm newFields ;refine PR (wpAny_newObj_type ?_ (hpl.sizeOk5 _ _ _ _ _))
 have e1:g1.get? e=some oe:=(s1.2.1 e hene).trans he
 have kb1:base.StaysIn g1:=fun b o hbo=>(s1.2.1 b fun hm=>by rw[(hl.mem hm).1]at hbo;cases hbo).trans (hkb b o hbo)
 have e2:=Qr (h:=g1) {cls:=.type "traceback",dict:=none,data:=.fields ([head,.ref L,.none,QQ L,.none]++(if pl.isEmpty then QT 6 Rf else pl)).toArray} e1
 refine wpAny_setField e2 hd hsz ?_ ;have hTe:g1.objs.size≠e:=Rp (Ql e1)
 have d3:=VW hd (·.setIfInBounds 1 (Qo g1.objs.size))
 have e3:=Wr (SV (·.setIfInBounds 1 (Qo g1.objs.size))) e2 (Yd d3)
 have T3:=(Sz (g1.push {cls:=.type "traceback",dict:=none,data:=.fields ([head,.ref L,.none,QQ L,.none]++(if pl.isEmpty then QT 6 Rf else pl)).toArray}) (SV (·.setIfInBounds 1 (Qo g1.objs.size))) (Qy hTe)).trans (Qz g1 rfl)
 unfold setFlight ;refine PR (Q1 e3 d3 (x:=.ref g1.objs.size) (by simp[hsz]) ?_)
 rw[if_pos (show(Qo g1.objs.size != Rf)=true from by simp)]
 refine wpAny_setField T3 rfl (by simp only[Q4,QV,QU,VX]<;>omega) (h _ ?_)
 have keep : ∀ b o, b ≠ e -> g1.get? b = some o -> (((g1.push { cls := .type "traceback", dict := none, data := .fields ([head, .ref L, .none, QQ L, .none] ++ (if pl.isEmpty then QT 6 Rf else pl)).toArray }).update e (SV (·.setIfInBounds 1 (Qo g1.objs.size)))).update g1.objs.size
       (SV (·.setIfInBounds 3 ((none:Option PK).elim Rf fun f=>QQ f)))).get? b=some o:=fun b o hbe hb=>by
  rw[Sz _ _ (Rp (Ql hb)),Sz _ _ (Qy hbe)] ;exact Qr _ hb
 exists fun b o hbe hbf hb=>keep b o hbe ((s1.2.1 b hbf).trans hb),fun b o hbe hb=>?_
 ·obtain⟨sl,hs⟩:=s1.2.2 b o hb ;exact⟨sl,keep b _ hbe hs⟩
 ·refine⟨g1.objs.size,Th s1.1.symm,⟨_,_,_,_,?_,Obj.cls_mapFields _ _,(Gk _ _).trans hdn,d3,by simp[hsz],Wr _ T3 (Yd (VW rfl _)),VW rfl _,by first|(simp;done)|(rcases hpl with rfl|⟨_,_,_,_,_,_,_,rfl⟩<;>simp)⟩,kb1.fresh,hTe⟩
  rw[Sz _ _ hTe] ;exact e3
theorem Ds{base:P0}{env:Qq}{outer:List Qq}{L e:PK}{oe:PV}{vs:Array PL}{Q:Unit->PN->Prop}(hfr:A.frames=some (env::outer))(hl:s.heap.FunFrames base (env::outer))(hf:env.frame=some L)
  (he:s.heap.get? e=some oe) (hkb:base.StaysIn s.heap) (hdn:oe.dict=none) (hd:oe.data=.fields vs) (h1:vs[1]?=some .none) (h:∀h',JU base (env::outer) e oe.cls s.heap h'->Q () {s with heap:=h'}):PQ M A (leaving env (.ref e)) Q E s:=by
 unfold leaving noteFrame ;simp only[hf]
 refine PR (PR (Q1 he hd h1 ?_)) ;rw[if_neg (by decide)]
 exact mv hfr hl hf he hkb hdn hd (Tj.mp h1).1 h
end
theorem EJ{M:Model}{A:Qg}{E:PL->PN->Prop}{s:PN}{base:P0}{env:Qq}{outer:List Qq}{L e T:PK}{cls:PL}{oe oT:PV}{vs ts:Array PL}{Q:Unit->PN->Prop}(hfr:A.frames=some (env::outer))(hl:s.heap.FunFrames base (env::outer))(hf:env.frame=some L)
  (he:s.heap.get? e=some oe) (hcls:oe.cls=cls) (hdn:oe.dict=none) (hd:oe.data=.fields vs) (h1:vs[1]?=some (.ref T)) (hnT:base.get? T=none) (hTe:T≠e) (hT:s.heap.get? T=some oT) (hdT:oT.data=.fields ts) (h3:ts[3]?=some .none) (hkb:base.StaysIn s.heap)
  (h:∀h',(∀b o,b≠e->b≠T->b∉Ay (env::outer)->s.heap.get? b=some o->h'.get? b=some o)->(∀b o,b≠e->b≠T->s.heap.get? b=some o->∃sl,h'.get? b=some {o with slots:=sl})->(∃T',s.heap.objs.size<=T'/\Mv base h' e T' cls)->Q () {s with heap:=h'}):PQ M A (leaving env (.ref e)) Q E s:=by
 subst hcls
 unfold leaving noteFrame ;simp only[hf] ;refine PR (PR (Q1 he hd h1 ?_))
 rw[if_pos (show(Qo T != Rf)=true from by simp)] ;refine PR (Q1 hT hdT h3 ?_)
 rw[if_neg (show ¬((Rf==QQ L)=true)from by simp[QQ])] ;refine PR (wpAny_setField hT hdT (Tj.mp h3).1 ?_)
 have other:∀b,b≠T->(s.heap.update T (SV (·.setIfInBounds 3 Rf))).get? b=s.heap.get? b:=fun b hb=>Sz _ _ (Qy hb)
 have noRec:∀b o,s.heap.get? b=some o->(∀vs,o.data≠.fields vs)->b≠T:=fun b o hb hnf q=>by rw[q,hT]at hb;injection hb with hb;subst hb;exact hnf ts hdT
 refine mv hfr (hl.of_keeps fun b o hb hnf=>⟨o,(other b (noRec b o hb hnf)).trans hb,rfl⟩) hf ((other e (Qy hTe)).trans he) (fun b o hbo=>(other b fun q=>by rw[q,hnT]at hbo;cases hbo).trans (hkb b o hbo)) hdn hd (Tj.mp h1).1 fun h' x=>?_
 obtain⟨x1,x2,T',x3,x4⟩:=x
 exact h h' (fun b o b1 b2 b3 hb=>x1 b o b1 b3 ((other b b2).trans hb)) (fun b o b1 b2 hb=>x2 b o b1 ((other b b2).trans hb)) ⟨T',P6 (Th (Xg ..).symm) x3,x4⟩
section
variable {X:Cx}{pins:List (PK×PV)}{σ:St}{H:Hp}{s:PN}{h':P0}
theorem Inv.left0{ch:List PK}(I:Inv X pins σ H s)(hch:∀b∈ch,qM X pins H b)(k1:∀b o,b∉ch->b∉Ay X.stack->s.heap.get? b=some o->h'.get? b=some o)(k2:∀b o,b∉ch->s.heap.get? b=some o->∃sl,h'.get? b=some {o with slots:=sl}):Inv X pins σ H {s with heap:=h'}:=by
 have nst:∀b,b≠X.env.locals->b∉X.fs->b∉Ay X.stack:=fun b h1 h2 z=>(Qb.mp (I.stkSub b z)).elim h1 h2
 refine I.step (g':=s.gens) (d':=s.drawn) (t':=s.toks) (ch:=ch) (fun b hb=>?_) (fun b o h1 h2 hc e _=>k1 b o hc (nst b h1 h2) e) (fun b o _ _ hc e _=>k2 b o hc e) (fun _ _ _ _ n=>n) (fun b o hc e=>?_) (fun _ _ e=>e) (fun _ _ _ e=>e) (fun b ps e=>⟨#[],by rw[e];simp⟩) (fun m hm=>?_) (fun b u e=>?_) I.bare
 ·obtain⟨_,f1,_,f3,f4,f5⟩:=hch b hb
  exact⟨f3,f1,f4,f5⟩
 ·obtain⟨sl,q⟩:=k2 b o hc e
  exact⟨_,q⟩
 ·obtain⟨o,es,ep,ho,r⟩:=hm
  obtain⟨sl,q⟩:=k2 _ o (fun z=>(hch _ z).2.1 rfl) ho
  exact⟨_,es,ep,q,r⟩
 ·have tr:∀c u,H c=some u->c∉ch/\c∉Ay X.stack:=fun c u hc=>⟨(fun z=>by rw[(hch c z).1]at hc;cases hc),(fun z=>by rw[I.stkFree c z]at hc;cases hc)⟩
  refine(I.hok b u e).stay (fun c v hc q=>?_) (fun _ q=>q) fun _ _ q=>q
  rcases hc with z|z
  ·subst z
   obtain⟨a1,a2⟩:=tr c u e
   exact k1 c v a1 a2 q
  ·obtain⟨a1,a2⟩:=tr c _ z
   exact k1 c v a1 a2 q
end
noncomputable def Jg(X:Cx)(pins:List (PK×PV))(H:Hp)(b:PK):Prop:=
 H b=none/\b≠X.env.locals/\b∉X.fs/\X.s₀.heap.get? b=none/\(∀x c,X.env.cells.lookup x=some c->c≠b)/\∀p∈X.pn++pins,p.1≠b
section
variable {X:Cx}{pins:List (PK×PV)}{σ:St}{H H':Hp}{s:PN}{ch:List PK}
noncomputable abbrev Cx.wide(X:Cx)(ch:List PK):Cx:={X with ex:=X.ex++ch}
theorem Inv.wide(I:Inv X pins σ H s)(hch:∀b∈ch,Jg X pins H b):Inv (X.wide ch) pins σ H s:=
 ⟨⟨I.ok.mod,I.ok.kind,I.ok.glob,I.ok.blt,I.ok.above,I.ok.inj,I.ok.has,I.ok.cab,I.ok.hd,I.ok.frames,I.ok.stk,(fun b hb=>(QC.mp hb).elim (I.ok.exf b) fun z=>⟨(hch b z).2.1,fun x c e=>(hch b z).2.2.2.2.1 x c e⟩),I.ok.bs,I.ok.bsz,
  (fun b o e hb=>(QC.mp hb).elim (I.ok.noex b o e) fun z=>by have q:=(I.ok.bs b o e).1;rw[(hch b z).2.2.2.1]at q;cases q),(fun b hb=>(QC.mp hb).elim (I.ok.exfs b) fun z=>(hch b z).2.2.1),I.ok.funs,I.ok.frf⟩,I.os,I.bare,I.base.mono (fun _ z=>z) (fun _ z=>QC.mpr (.inl z)),I.loc,I.cell,I.free,I.freeC,I.pin,I.hok,I.len⟩
theorem Inv.shut(ok:X.Ok)(hch:∀b∈ch,X.s₀.heap.get? b=none)(I:Inv (X.wide ch) pins σ H s):Inv X pins σ H s:=by
 have nx:∀b o,X.s₀.heap.get? b=some o->b∉X.ex->b∉X.ex++ch:=fun b o e hx z=>(QC.mp z).elim hx fun z=>by rw[hch b z]at e;cases e
 exact⟨ok,I.os,I.bare,⟨fun b o e n hb hx=>I.base.keep b o e n hb (nx b o e hx),fun b o e n hb hx=>I.base.slot b o e n hb (nx b o e hx),fun b o e n hx=>I.base.free b o e n (nx b o e hx),fun b o e hx=>I.base.there b o e (nx b o e hx),I.base.tups,I.base.frzs,I.base.tbls⟩,I.loc,I.cell,I.free,I.freeC,I.pin,I.hok,I.len⟩
theorem Inv.fpO{b:PK}(I:Inv X pins σ H s)(hb:s.heap.get? b=none)(hx:b∉X.ex)(hn:H' b=none):Jg X pins H' b:=by
 refine⟨hn,fun z=>?_,fun z=>?_,?_,fun x c e z=>?_,fun p hp z=>?_⟩
 ·obtain⟨m,⟨o,_,_,ho,_⟩,_⟩:=I.loc
  rw[z,ho]at hb;cases hb
 ·obtain⟨_,o,ho,_⟩:=I.ok.funs.mem z
  cases h0:X.s₀.heap.get? b with
  |none=>rw[ho]at h0;cases h0
  |some o'=>
   obtain⟨o2,q⟩:=I.base.there b o' h0 hx
   rw[q]at hb;cases hb
 ·cases h0:X.s₀.heap.get? b with
  |none=>rfl
  |some o'=>
   obtain⟨o2,q⟩:=I.base.there b o' h0 hx
   rw[q]at hb;cases hb
 ·obtain⟨v,o,ho,_⟩:=I.cell x c e
  rw[z,hb]at ho;cases ho
 ·have q:=(I.pin p hp).1
  rw[z,hb]at q;cases q
theorem Jg.ok{b:PK}(h:Jg X pins H b)(hb:b∈ch):qM (X.wide ch) pins H b:=⟨h.1,h.2.1,h.2.2.1,.inl (QC.mpr (.inr hb)),h.2.2.2.2.1,h.2.2.2.2.2⟩
theorem Inv.left{h':P0}(I:Inv X pins σ H s)(hch:∀b∈ch,Jg X pins H b)(k1:∀b o,b∉ch->b∉Ay X.stack->s.heap.get? b=some o->h'.get? b=some o)(k2:∀b o,b∉ch->s.heap.get? b=some o->∃sl,h'.get? b=some {o with slots:=sl}):Inv X pins σ H {s with heap:=h'}:=
 Inv.shut I.ok (fun b hb=>(hch b hb).2.2.2.1) (Inv.left0 (X:=X.wide ch) (I.wide hch) (fun b hb=>(hch b hb).ok hb) k1 k2)
end
noncomputable def eC(P:Qc)(w:P8)(base:P0):Gu:=fun outer H s E e s'=>∃a T cls H',e=.ref a/\s'.os=s.os/\R0 s'.gens/\Un (Ay outer) [] H H' s.heap s'.heap/\oy P w H' s'.heap/\H' a=none/\H' T=none/\Mv base s'.heap a T cls/\s.heap.get? a=none/\s.heap.get? T=none/\E cls none H'
section
variable {P:Qc}{w:P8}{K:PM}{mg:PH->Option PL}{base:P0}{N:List PH}{qual:PH}{scope:QS}{f:PK}{cd:PL}{A:Qg}{outer:List Qq}{s0 s:PN}{H0 H:Hp}{E:XK}{pins:List (PK×PV)}{σ:St}
theorem AF{X:Cx}(ok:X.Ok)(h:X.stack=X.env::X.outer):X.env.frame=some X.env.locals:=by
 rcases ok.stk with e|⟨_,e⟩
 ·rw[h]at e
  have:=congrArg Ts e
  simp at this
 ·exact e
theorem leave_new{e:PK}{oe:PV}{vs:Array PL}(I:Inv (cv (eC P w base) P w K mg base N qual scope f cd A outer s0 H0 E) pins σ H s)(he:s.heap.get? e=some oe)(hn:H e=none)(hlo:s0.heap.get? e=none)(hfp:Jg (cv (eC P w base) P w K mg base N qual scope f cd A outer s0 H0 E) pins H e)(hdn:oe.dict=none)(hd:oe.data=.fields vs)(h1:vs[1]?=some .none)(q:E oe.cls none H):
  (cv (eC P w base) P w K mg base N qual scope f cd A outer s0 H0 E).xe (.ref e) s:=by
 have hf:=AF I.ok rfl
 refine Ds (base:=base) (env:=Q9 qual scope s0.heap.objs.size f cd) (outer:=outer) I.ok.frames I.stack hf he I.bk hdn hd h1 fun h' x=>?_
 obtain⟨k1,k2,T,hT,tr⟩:=x
 have J:=I.left (ch:=[e]) (h':=h') (fun b hb=>by rw[QR.mp hb];exact hfp) (fun b o hb hs hq=>k1 b o (fun z=>hb (by simp[z])) hs hq) (fun b o hb hq=>k2 b o (fun z=>hb (by simp[z])) hq)
 exact⟨e,T,oe.cls,H,rfl,J.os,J.bare,J.base,J.hok,hn,I.hok.fresh hT,tr,hlo,Vd (P6 I.sz hT),q⟩
theorem BL:lx (eC P w base) (cv (eC P w base) P w K mg base N qual scope f cd A outer s0 H0 E) E:=by
 intro pins σ H s e s' I hx
 obtain⟨a,T,cls,H',rfl,os,bare,un,hok,na,nT,⟨⟨oe,vs,oT,ts,t1,t2,tn,t3,t4,t5,t6,t7⟩,t8,t9⟩,la,lT,q⟩:=hx
 have J:Inv (cv (eC P w base) P w K mg base N qual scope f cd A outer s0 H0 E) pins σ H' s':=by
  obtain⟨hh,g,d,t,os'⟩:=s'
  obtain rfl:os'=s.os:=os
  exact I.call (h':=hh) (g':=g) (d':=d) (t':=t) (ch:=[]) un hok bare (fun b z=>absurd z (by simp))
 have hf:=AF J.ok rfl
 refine EJ (base:=base) (env:=Q9 qual scope s0.heap.objs.size f cd) (outer:=outer) J.ok.frames J.stack hf t1 t2 tn t3 t4 t8 t9 t5 t6 t7 J.bk fun h' k1 k2 ⟨T',hT',tr⟩=>?_
 have fp:∀b,s.heap.get? b=none->H' b=none->Jg (cv (eC P w base) P w K mg base N qual scope f cd A outer s0 H0 E) pins H' b:=fun b hb hn=>I.fpO hb (by simp[cv]) hn
 have J2:=J.left (ch:=[a,T]) (h':=h') (fun b hb=>by
   have hb':b=a\/b=T:=by simpa using hb
   rcases hb' with z|z
   ·rw[z];exact fp a la na
   ·rw[z];exact fp T lT nT) (fun b o hb hs hq=>k1 b o (fun z=>hb (by simp[z])) (fun z=>hb (by simp[z])) hs hq) (fun b o hb hq=>k2 b o (fun z=>hb (by simp[z])) (fun z=>hb (by simp[z])) hq)
 exact⟨a,T',cls,H',rfl,J2.os,J2.bare,J2.base,J2.hok,na,J.hok.fresh hT',tr,(fp a la na).2.2.2.1,Vd (P6 J.sz hT'),q⟩
end
section
variable {M:Model}{A:Qg}{E:PL->PN->Prop}{s:PN}
theorem Lb{base:P0}{env:Qq}{outer:List Qq}{L e T:PK}{cls:PL}{Q:Unit->PN->Prop}(hfr:A.frames=some (env::outer))(hl:s.heap.FunFrames base (env::outer))(hf:env.frame=some L)(ht:Mv base s.heap e T cls)(hkb:base.StaysIn s.heap)
  (h:∀h',(∀b o,b≠e->b≠T->b∉Ay (env::outer)->s.heap.get? b=some o->h'.get? b=some o)->(∀b o,b≠e->b≠T->s.heap.get? b=some o->∃sl,h'.get? b=some {o with slots:=sl})->(∃T',s.heap.objs.size<=T'/\Mv base h' e T' cls)->Q () {s with heap:=h'}):
  PQ M A (noteFrame (.ref e) env) (fun _ s₂=>PQ M A (setFlight (.ref e) none) Q E s₂) E s:=by
 obtain⟨⟨oe,vs,oT,ts,he,hcls,hdn,hd,h1,hT,hdT,h3⟩,hnT,hTe⟩:=ht
 subst hcls
 unfold noteFrame ;simp only[hf] ;refine PR (Q1 he hd h1 ?_)
 rw[if_pos (show(Qo T != Rf)=true from by simp)] ;refine PR (Q1 hT hdT h3 ?_)
 rw[if_neg (show ¬((Rf==QQ L)=true)from by simp[QQ])] ;refine PR (wpAny_setField hT hdT (Tj.mp h3).1 ?_)
 have other:∀b,b≠T->(s.heap.update T (SV (·.setIfInBounds 3 Rf))).get? b=s.heap.get? b:=fun b hb=>Sz _ _ (Qy hb)
 have noRec:∀b o,s.heap.get? b=some o->(∀vs,o.data≠.fields vs)->b≠T:=fun b o hb hnf q=>by rw[q,hT]at hb;injection hb with hb;subst hb;exact hnf ts hdT
 refine mv hfr (hl.of_keeps fun b o hb hnf=>⟨o,(other b (noRec b o hb hnf)).trans hb,rfl⟩) hf ((other e (Qy hTe)).trans he) (fun b o hbo=>(other b fun q=>by rw[q,hnT]at hbo;cases hbo).trans (hkb b o hbo)) hdn hd (Tj.mp h1).1 fun h' x=>?_
 obtain⟨x1,x2,T',x3,x4⟩:=x
 exact h h' (fun b o b1 b2 b3 hb=>x1 b o b1 b3 ((other b b2).trans hb)) (fun b o b1 b2 hb=>x2 b o b1 ((other b b2).trans hb)) ⟨T',P6 (Th (Xg ..).symm) x3,x4⟩
theorem EL{base:P0}{e T:PK}{cls:PL}{Q:Unit->PN->Prop}(ht:Mv base s.heap e T cls)(h:∀h',(∀b o,b≠T->s.heap.get? b=some o->h'.get? b=some o)->Q () {s with heap:=h'}):PQ M A (setFlight (.ref e) none) Q E s:=by
 obtain⟨⟨oe,vs,oT,ts,he,hcls,hdn,hd,h1,hT,hdT,h3⟩,hnT,hTe⟩:=ht
 unfold setFlight ;refine PR (Q1 he hd h1 ?_) ;rw[if_pos (show(Qo T != Rf)=true from by simp)]
 refine wpAny_setField hT hdT (Tj.mp h3).1 (h _ fun b o hb q=>(Sz _ _ (Qy hb)).trans q)
end
noncomputable abbrev Cx.marked(X:Cx)(v:PL):Cx:={X with A:=X.A.mark (some v),calm:=false,xe:=fun _ _=>False}
section
variable {X:Cx}{pins:List (PK×PV)}{σ:St}{H:Hp}{s:PN}
theorem Inv.marked(I:Inv X pins σ H s)(v:PL):Inv (X.marked v) pins σ H s:=
 ⟨⟨I.ok.mod,I.ok.kind,I.ok.glob,I.ok.blt,I.ok.above,I.ok.inj,I.ok.has,I.ok.cab,(fun h=>by cases h),I.ok.frames,I.ok.stk,I.ok.exf,I.ok.bs,I.ok.bsz,I.ok.noex,I.ok.exfs,I.ok.funs,I.ok.frf⟩,I.os,I.bare,I.base,I.loc,I.cell,I.free,I.freeC,I.pin,I.hok,I.len⟩
theorem Inv.unmarked{v:PL}(ok:X.Ok)(I:Inv (X.marked v) pins σ H s):Inv X pins σ H s:=⟨ok,I.os,I.bare,I.base,I.loc,I.cell,I.free,I.freeC,I.pin,I.hok,I.len⟩
theorem Inv.track0{a:PK}{o:HO}(I:Inv X pins σ H s)(hf:qM X pins H a)(new:c9 X.prog X.w (upd H a o) s.heap a o):Inv X pins σ (upd H a o) s:=by
 have ne:∀b u,H b=some u->b≠a:=fun b u e z=>by rw[z,hf.1]at e;cases e
 refine I.step (h':=s.heap) (g':=s.gens) (d':=s.drawn) (t':=s.toks) (ch:=[a]) (fun b hb=>?_) (fun b ob _ _ _ e _=>e) (fun b ob _ _ _ e _=>⟨ob.slots,e⟩) (fun b ob hc e n=>?_) (fun b ob _ e=>⟨ob,e⟩) (fun b xs e=>?_) (fun b ob u e=>?_) (fun b ps e=>⟨#[],?_⟩) (fun m hm=>hm) (fun b u e=>?_) I.bare
 ·rw[QR.mp hb]
  obtain⟨_,f1,_,f3,f4,f5⟩:=hf
  exact⟨f3,f1,f4,f5⟩
 ·rw[ak fun z=>hc (by simp[z])];exact n
 ·rw[ak (ne _ _ e)];exact e
 ·rw[ak (ne _ _ e)];exact e
 ·rw[ak (ne _ _ e),e];simp
 ·by_cases hb:b=a
  ·subst hb
   rw[ax]at e
   cases e
   exact new
  ·rw[ak hb]at e
   refine(I.hok b u e).stay (fun c v _ q=>q) (fun c q=>?_) fun c ys q=>?_
   ·rw[ak (ne _ _ q)];exact q
   ·rw[ak (ne _ _ q)];exact q
theorem Inv.track{a:PK}{o:HO}(I:Inv X pins σ H s)(hf:Jg X pins H a)(new:c9 X.prog X.w (upd H a o) s.heap a o):Inv X pins σ (upd H a o) s:=
 Inv.shut (ch:=[a]) I.ok (fun b hb=>by rw[QR.mp hb];exact hf.2.2.2.1) (Inv.track0 (X:=X.wide [a]) (I.wide (fun b hb=>by rw[QR.mp hb];exact hf)) (hf.ok (by simp)) new)
theorem Inv.forget{i:Nat}{n:PH}{m:PH->Option PL}{v:Option PL}{h':P0}{t':Nat}(I:Inv X pins σ H s)(hN:X.N.Nodup)(hi:X.N[i]?=some n)(hm:s.heap.Ns X.env.locals m)(hl:∀(j:Nat)(x:PH)(w:V),X.N[j]?=some x->σ[j]?=some (some w)->Mf X.env.scope x->∃u,RelV w u/\Look X.env s.heap m x u)
  (hn:h'.Ns X.env.locals (fun x=>if x=n then v else m x)) (hs:RY X.env.locals s.heap h'):Inv X pins (σ.set i none) H {s with heap:=h',toks:=t'}:=by
 have neL:∀b o,X.s₀.heap.get? b=some o->b≠X.env.locals:=fun b o e=>Qt (QD (Ql e) I.ok.above)
 have get:∀b,b≠X.env.locals->h'.get? b=s.heap.get? b:=fun b hb=>hs.2 b hb
 have cellK:∀x c,X.env.cells.lookup x=some c->∀w,s.heap.IsCell c w->h'.IsCell c w:=fun x c e w ⟨o,ho,hd⟩=>⟨o,(get c (I.cne x c e)).trans ho,hd⟩
 refine⟨I.ok,I.os,I.bare,⟨fun b o e n hb hx=>?_,fun b o e n hb hx=>?_,I.base.free,fun b o e hx=>?_,I.base.tups,I.base.frzs,I.base.tbls⟩,⟨_,hn,fun j x w e1 e2 e3=>?_⟩,fun x c e=>?_,I.free,I.freeC,fun p hp=>?_,fun b u e=>?_,by rw[List.length_set];exact I.len⟩
 ·exact(get b (neL b o e)).trans (I.base.keep b o e n hb hx)
 ·obtain⟨sl,q⟩:=I.base.slot b o e n hb hx
  exact⟨sl,(get b (neL b o e)).trans q⟩
 ·obtain⟨o',q⟩:=I.base.there b o e hx
  exact⟨o',(get b (neL b o e)).trans q⟩
 ·have hji:j≠i:=fun z=>by
   subst z
   rw[V7 (by rw[I.len];exact(QN.mp hi).1)]at e2
   cases e2
  rw[V8 (Qy hji)]at e2
  have hxn:x≠n:=fun z=>hji (vT hN (z▸e1) hi)
  obtain⟨u,r,l⟩:=hl j x w e1 e2 e3
  exists u,r
  rcases l with⟨l1,l2⟩|⟨k,c,e,z⟩
  ·exact .inl ⟨l1,by show(if x=n then v else m x)=some u;rw[if_neg hxn];exact l2⟩
  ·exact .inr ⟨k,c,e,cellK x c e _ z⟩
 ·obtain⟨w,z⟩:=I.cell x c e
  exact⟨w,cellK x c e w z⟩
 ·obtain⟨e,n,ne,nf,d⟩:=I.pin p hp
  exact⟨(get p.1 ne).trans e,n,ne,nf,d⟩
 ·have tr:∀c u,H c=some u->c≠X.env.locals:=fun c u hc z=>by rw[z,I.free]at hc;cases hc
  refine(I.hok b u e).stay (fun c w hc q=>?_) (fun _ q=>q) fun _ _ q=>q
  rcases hc with z|z
  ·subst z;exact(get c (tr c u e)).trans q
  ·exact(get c (tr c _ z)).trans q
end
noncomputable def XP(X:Cx)(pins:List (PK×PV))(σ:St)(E:XK)(e:PL)(s':PN):Prop:=
 ∃a T cls H',e=.ref a/\Inv X pins σ H' s'/\Jg X pins H' a/\Jg X pins H' T/\Mv X.base s'.heap a T cls/\E cls none H'
noncomputable def PX(X:Cx)(e:PY)(E:XK)(t:TE):Prop:=
 ∀(pins:List (PK×PV))(s:PN)(σ:St)(H:Hp)(Q:VK),Inv X pins σ H s->t σ H Q->PQ (model X.prog X.w) X.A (eval e X.env) (EP X pins σ Q) (XP X pins σ E) s
section
variable {X:Cx}{k:Nat}{f:PK}{fd:RF}{ps:List PH}{sp:Sp}{dvs:List V}{ds:List PL}{E:XK}{x:PH}{p pos:Qi}{e:PY}{es:List PY}{t:TA}
theorem Ly{pins:List (PK×PV)}{σ:St}{H:Hp}{s:PN}{Q:VK}{us:List PL}{vs:List V}(F:mw X.prog X.w X.K X.mg X.base (eC X.prog X.w X.base) k f fd ps sp)(hr:di k X.A)(hb:Binds X.K fd ps ds)(hd:bR dvs ds)(hx:∀b,b∉X.ex)
  (I:Inv X pins σ H s) (r:bR vs us) (h:sp (vs++dvs) H Q E):PQ (model X.prog X.w) X.A (call (.ref f) us) (EP X pins σ Q) (XP X pins σ E) s:=by
 have r2:bR (vs++dvs) (us++ds):=r.append hd
 have hl:(us++ds).length=ps.length:=by rw[<-r2.length];exact F.len _ _ _ _ h
 refine wpAny_call (codeAny_mono (F.run X.A X.stack s H ⟨us,[]⟩ (us++ds) (vs++dvs) Q E hr I.env0 (hb s us I.kIn hl) r2 h) fun r s' hq=>?_)
 cases r with
 |error e=>
  obtain⟨a,T,cls,H',rfl,os,bare,un,hok,na,nT,tr,la,lT,q⟩:=hq
  exact⟨a,T,cls,H',rfl,I.call' (ch:=[]) os un hok bare (fun b z=>absurd z (by simp)),I.fpO la (hx a) na,I.fpO lT (hx T) nT,tr,q⟩
 |ok fl=>
  cases fl with
  |ret u=>exact I.after hq
  |next=>exact Rl hq
  |brk=>exact Rl hq
  |cont=>exact Rl hq
end
section
variable {X:Cx}{x n:PH}{C:PL}{i:Nat}{t:XK->TE}{tb:TS}{e:PY}{b₀:P5}{suite:List P5}{pos epos hpos np:Qi}
end
section
open PySem.W
structure mO(K:Frag)(C:PK):Prop where
 ga:findIn K (.ref C) "__getattribute__"=some (some (.builtin "BaseException.__getattribute__"))
 gc:findIn K (.ref C) "__class__"=some (some (.builtin "object.__class__"))
 gn:findIn K (.ref C) "__getattr__"=some none
 ob:mroIn K C (.type "object")=some true
 be:mroIn K C (.type "BaseException")=some true
theorem ri:Slot "ValueError" "__getattribute__" "BaseException.__getattribute__":=F.attr_ValueError.ga
section
variable {prog:Qc}{w:P8}{A:Qg}{E:PL->PN->Prop}{h:P0}{g:Array GenState}{d:Drawn}{t:Nat}{os:OsState}{a C:PK}{o:PV}{K:Frag}
theorem uq{M:Model}{nameV:PL}{Q:Unit->PN->Prop}(X:K.In h)(I:S3 h a o C none)(Z:mO K C)(hq:Q () ⟨h,g,d,t,os⟩):PQ M A (checkBuiltinCall "BaseException.__getattribute__" ⟨[.ref a,nameV],[]⟩) Q E ⟨h,g,d,t,os⟩:=by
 have hk:builtinKind "BaseException.__getattribute__"=some .slot:=by decide +kernel
 have hsplit:splitId "BaseException.__getattribute__"=some ("BaseException","__getattribute__"):=by decide +kernel
 have L4:=looks_mroIn (M:=M) X Z.be
 have ha:=F.args_bexc_ga (.ref a) nameV
 have hx:=I.at_
 have hc:=I.cls
 simp only[checkBuiltinCall,hk,hsplit]
 refine PR ?_
 ·unfold isInstance
  repeat (first|(with_reducible refine wpAny_loadPart_at hx ?_;rw[hc])|(with_reducible refine L4.at ?_)|wp_step)
  exact hq
theorem uI{tk:Tok}{Q:Fin->PN->Prop}(X:K.In h)(I:S3 h a o C none)(Z:mO K C)(hq:Q (.done (.ret (.ref C))) ⟨h,g,d,t,os⟩):
  PQ (model prog w) A (RD.«object.__getattribute__» ⟨[.ref a,.str "__class__" tk],[]⟩) Q E ⟨h,g,d,t,os⟩:=by
 have hT5:(⟨h,g,d,t,os⟩:PN).TypeIs (.builtin "object.__class__") "getset_descriptor":=Yh
 have f5:=Yh
 have f6:=F.slot_gs_get.lookup
 have f7:=F.slot_gs_set.lookup
 have hx:=I.at_
 have hc:=I.cls
 have L2:=looks_findIn (M:=model prog w) X Z.gc
 repeat (any_goals (first|assumption|(with_reducible refine wpAny_loadPart_at hx ?_;rw[hc])|(with_reducible refine L2.at ?_)|wp_step))
 refine class_get (s:=⟨h,g,d,t,os⟩) X I Z.ob ?_
 repeat (any_goals (first|assumption|wp_step))
theorem AX{tk:Tok}{Q:PL->PN->Prop}(X:K.In h)(I:S3 h a o C none)(Z:mO K C)(hq:Q (.ref C) ⟨h,g,d,t,os⟩):
  PQ (model prog w) A (getAttrBy (.ref a) (.str "__class__" tk) false) Q E ⟨h,g,d,t,os⟩:=by
 have f3:=ri.bind (.ref a)
 have hx2:(Tt "BaseException.__getattribute__"==Tt "object.__getattribute__")=false:=by decide +kernel
 have hx1:(onTheHeap (Qo C)&&Tt "BaseException.__getattribute__"==Tt "object.__getattribute__")=false:=by rw[hx2];rfl
 have hx:=I.at_
 have hc:=I.cls
 have L1:=looks_findIn (M:=model prog w) X Z.ga
 have L3:=looks_findIn (M:=model prog w) X Z.gn
 repeat (any_goals (first|assumption|(with_reducible refine wpAny_loadPart_at hx ?_;rw[hc])|(with_reducible refine L1.at ?_)|(with_reducible refine L3.at ?_)|wp_step))
 refine codeAny_call_builtin ri.plain F.entry_bexc_ga (uq X I Z (uI X I Z ?_))
 repeat (any_goals (first|assumption|wp_step))
theorem vA{Q:Option PL->PN->Prop}(X:K.In h)(I:S3 h a o C none)(Z:mO K C)(hq:Q (some (.ref C)) ⟨h,g,d,t+1,os⟩):PQ (model prog w) A (getAttr? (.ref a) "__class__") Q E ⟨h,g,d,t,os⟩:=by
 unfold getAttr? getAttrBy?
 repeat (any_goals (first|assumption|with_reducible apply AX X I Z|wp_step))
theorem JA(hC:(clsIn K C).isSome=true)(Z:mO K C):KitX K (.ref a) (.ref C) (fun h=>S3 h a o C none) where
 ty:=fun _ _ _ I=>I.type
 it:=fun _ _ X _=>by
  obtain⟨cdD,hcD⟩:=Vm.mp hC
  unfold clsIn at hcD
  split at hcD
  ·rename_i c' d' cd' sl' ho
   intro A' Q' E' s' k q
   unfold isType loadHead
   exact PR (wpAny_loadPart (k _ _ (X _ _ ho)) (Qh q))
  ·cases hcD
 ne:=fun h tp dd its n sl X htp=>by
  obtain⟨cdD,hcD⟩:=Vm.mp hC
  refine Bool.eq_false_iff.mpr fun q=>?_
  have e:C=tp:=Xk (beq_iff_eq.mp q)
  subst e
  unfold clsIn at hcD
  split at hcD
  ·rename_i c' d' cd' sl' ho
   have z:=(X _ _ ho).symm.trans htp
   cases z
  ·cases hcD
 ca:=fun {_ _ _ _ _ s} X I k=>by obtain⟨h,g,d,t,os⟩:=s;exact vA X I Z k
end
section
variable {X:Cx}{pins:List (PK×PV)}{σ:St}{H:Hp}{s:PN}{A:Qg}{E:PL->PN->Prop}{Q:PL->PN->Prop}{c:PL}{b:Bool}
noncomputable def ExcAt(H:Hp)(a C:PK):Prop:=∃oe,H a=some (.frz oe (.own a))/\oe.cls=.ref C/\VL oe=true/\oe.dict=none
theorem ExcAt.inst{a C:PK}(I:Inv X pins σ H s)(e:ExcAt H a C):∃oe,S3 s.heap a oe C none:=by
 obtain⟨oe,h1,h2,h3,h4⟩:=e
 have q:s.heap.get? a=some oe:=(I.hok a _ h1).1
 exact⟨oe,q,h2,h3,by rw[h4];trivial⟩
theorem D6{a C:PK}(I:Inv X pins σ H s)(e:ExcAt H a C)(hC:(clsIn X.K C).isSome=true)(Z:mO X.K C)(k:kitOne X.K (.ref C) c=some b)(h:∀tk,Q (.bool b) {s with toks:=tk}):
  PQ (model X.prog X.w) A (call (.builtin "isinstance") [.ref a,c]) Q E s:=by
 obtain⟨oe,J⟩:=e.inst I
 exact kia_one (JA hC Z) I.kIn J k (fun z=>nomatch z) h
end
end
noncomputable def eJ(C:PK)(E:XK)(t:TA):TS:=fun _ σ H=>t σ H fun vs H1=>vs.length<=PZ/\E (.ref C) none H1
section
variable {P:Qc}{w:P8}{K:PM}{mg:PH->Option PL}{base:P0}{N:List PH}{qual:PH}{scope:QS}{f C:PK}{cd:PL}{A:Qg}{outer:List Qq}{s0:PN}{H0:Hp}{E:XK}{x:PH}{np cpos pos:Qi}{e:PY}{es:List PY}{t:TA}{B Bn newId nid initId inN:String}{bm bmN:List PL}
theorem oy.lost{w:P8}{P:Qc}{H:Hp}{h:P0}(x:oy P w H h){b:PK}(e:h.get? b=none):H b=none:=by
 cases q:H b with
 |none=>rfl
 |some o=>
  have ok:=x b o q
  have go:∀o,c9 P w H h b o->∃u,h.get? b=some u:=fun o=>by
   induction o with
   |lst xs=>rintro⟨_,_,_,_,e⟩;exact⟨_,e⟩
   |tup xs=>rintro⟨_,_,_,o,e,_⟩;exact⟨_,e⟩
   |dK kvs=>rintro⟨_,_,_,_,o,_,_,e,_⟩;exact⟨_,e⟩
   |dT kvs=>rintro⟨_,_,_,_,o,_,_,e,_⟩;exact⟨_,e⟩
   |set S n=>rintro⟨o,_,_,_,e,_⟩;exact⟨_,e⟩
   |ins C dx fs=>rintro⟨_,_,_,e,_⟩;exact⟨_,e⟩
   |own x=>exact id
   |xd fs=>rintro⟨_,⟨o,_,_,e',_⟩,_⟩;exact⟨_,e'⟩
   |met f x=>intro e;exact⟨_,e⟩
   |rng lo hi=>rintro⟨_,_,_,e⟩;exact⟨_,e⟩
   |frz o u ih=>rintro⟨e,_⟩;exact⟨_,e⟩
   |tbl ps=>intro e;exact⟨_,e⟩
   |ext φ=>rintro⟨_,e,_⟩;exact e
  obtain⟨u,q⟩:=go o ok
  rw[e]at q;cases q
theorem Ke(O:OwnCls x C bm newId mg base)(Fn:ExcBaseFacts Bn newId inN bmN)(hBn:bm.contains (.type Bn)=true)(FB:ExcBaseFacts B nid initId bm)
  (hg:Gl (cv (eC P w base) P w K mg base N qual scope f cd A outer s0 H0 E) x) (hc:(cv (eC P w base) P w K mg base N qual scope f cd A outer s0 H0 E).calm=true)
  (ha:PA (cv (eC P w base) P w K mg base N qual scope f cd A outer s0 H0 E) (e::es) t) (hdb:(x==("__debug__":PH))=false:=by decide)
  (he:Qf (e::es) (cv (eC P w base) P w K mg base N qual scope f cd A outer s0 H0 E).env=(false,eval e (cv (eC P w base) P w K mg base N qual scope f cd A outer s0 H0 E).env)::Qf es (cv (eC P w base) P w K mg base N qual scope f cd A outer s0 H0 E).env:=by rfl)
  (hpl:(QF cpos (Qf es (cv (eC P w base) P w K mg base N qual scope f cd A outer s0 H0 E).env)).any (·.1)=false:=by rfl):
  PS (cv (eC P w base) P w K mg base N qual scope f cd A outer s0 H0 E) (.Raise (some (.Call (.Name x np) (e::es) [] cpos)) none pos) (eJ C E t):=by
 intro pins s σ H D I h
 obtain⟨tl,Nn,nm,q,bs,hdct,sn,sub,ab,col,dd,k0,k1,k2,k3,k5,mN,hC,hN,hni,T⟩:=O.obj
 refine wpAny_Raise_call_subU (C:=C) (nm:=nm) (q:=q) (N:=Nn) (bs:=bs) (bm:=tl) (hdct:=hdct) (sn:=sn) (sub:=sub) (ab:=ab) (col:=col) (dd:=dd) (k0:=k0) (k1:=k1) (k2:=k2) (k3:=k3) (k5:=k5)
  Fn hBn FB (mN:=mN) (T.hasType FB.hasBase) (I.ok.hd hc) (by rw[he];show(false || (QF cpos (Qf es _)).any (·.1))=false;rw[hpl];rfl) hni (qE I hg O.bound ⟨rfl,?_⟩ hdb)
 have ha':=ha cpos pins s σ H _ I h
 rw[he]at ha' ⊢
 refine V2 (Q5 ha' (fun us s2 ⟨vs,H1,I1,r,hz,q⟩=>⟨rfl,by rw[<-r.length];exact hz,I1.bk _ _ hC,hN.keeps I1.bk,T.keeps I1.bk,fun h' e' M=>?_⟩) fun _ _ y=>y)
 have J:Inv (cv (eC P w base) P w K mg base N qual scope f cd A outer s0 H0 E) pins σ H1 {s2 with heap:=h'}:=I1.kept (t':=s2.toks) M.keeps
 obtain⟨tt,m1,m2,m3⟩:=M.there
 have hn:H1 e'=none:=I1.hok.lost M.new
 have fp:=I1.fpO (H':=H1) M.new (by simp[cv]) hn
 exact leave_new J m1 hn fp.2.2.2.1 fp rfl rfl rfl q
end
noncomputable def MU:V->PL
 |.ref a=>.ref a
 |.ty n=>.type n
 |_=>.none
noncomputable def EA:V->Bool
 |.ref _=>true
 |.ty _=>true
 |_=>false
noncomputable abbrev yz(K:PM):List V->Hp->VK->Prop:=fun xs H Q=>∃a v C b,xs=[.ref a,v]/\EA v=true/\ExcAt H a C/\(Ro K C).isSome=true/\mO K C/\Qa K (.ref C) (MU v)=some b/\Q (.bl b) H
theorem Ju{v:V}{u:PL}(h:EA v=true)(r:RelV v u):u=MU v:=by
 cases v<;>first|exact r|cases h
section
variable {X:Cx}
theorem cO:fw X (.builtin "isinstance") (yz X.K):=by
 show fw X (.builtin "isinstance") (fun xs H Q=>∃a v C b,xs=[.ref a,v]/\EA v=true/\ExcAt H a C/\(Ro X.K C).isSome=true/\mO X.K C/\Qa X.K (.ref C) (MU v)=some b/\Q (.bl b) H)
 intro pins s σ H xs us Q I r h
 obtain⟨a,v,C,b,rfl,hv,e,hC,Z,k,q⟩:=h
 obtain⟨u,w',rfl,rx,ry⟩:=vals2 r
 cases(show u=Qo a from rx)
 cases Ju hv ry
 exact D6 I e hC Z k fun tk=>⟨.bl b,H,I.tok tk,rfl,q⟩
noncomputable def xS(t:TE):TE:=fun σ H Q=>t σ H fun x H1=>∃i:Int,x=.int i/\i.natAbs.log2<1920/\Q (.str (toString i:String)) H1
theorem pF{e:PY}{te:TE}{pos:Qi}(he:PE X e te):PE X (.FormattedValue e (-1) none pos) (xS te):=by
 intro pins s σ H Q I h
 refine wpAny_FormattedValue_plain (cI (he pins s σ H _ I h) fun v s1 ⟨x,H1,I1,r1,i,hx,hl,q⟩=>?_)
 subst hx
 obtain⟨tk,rfl⟩:=(show ∃t,v=R4 i t from r1)
 exact wpAny_formatField_int hl ⟨.str (toString i:String),H1,I1.tok _,⟨_,rfl⟩,q⟩
noncomputable def zH:List TE->PH->TE
 |[],acc=>fun _ H Q=>acc.length<=PZ/\Q (.str acc) H
 |t::ts,acc=>fun σ H Q=>t σ H fun x H1=>∃y,x=.str y/\(acc++y).length<=PZ/\zH ts (acc++y) σ H1 Q
inductive PJ(X:Cx):List PY->List TE->Prop where
 |nil:PJ X [] []
 |cons {e:PY}{es:List PY}{t:TE}{ts:List TE}:PE X e t->PJ X es ts->PJ X (e::es) (t::ts)
theorem PJ.joins:∀{es:List PY}{ts:List TE},PJ X es ts->∀{pins:List (PK×PV)}{s:PN}{σ:St}{H:Hp}{Q:VK}{acc:PH},Inv X pins σ H s->zH ts acc σ H Q->
  Joins (model X.prog X.w) X.A X.xe (evalEach es X.env) acc (fun out s1=>out.length<=PZ/\EP X pins σ Q (.str out s1.toks) {s1 with toks:=s1.toks+1}) s
 |_,_,.nil,pins,s,σ,H,Q,acc,I,h=>⟨h.1,.str acc,H,I.tok _,⟨_,rfl⟩,h.2⟩
 |_,_,.cons he hr,pins,s,σ,H,Q,acc,I,h=>by
  show PQ _ _ _ _ _ _
  refine cI (he pins s σ H _ I h) fun v s1 ⟨x,H1,I1,r1,y,hx,hl,q⟩=>?_
  subst hx
  obtain⟨tk,rfl⟩:=(show ∃t,v=S4 y t from r1)
  exact⟨y,tk,rfl,hl,hr.joins I1 q⟩
theorem dk{e1 e2:PY}{es:List PY}{ts:List TE}{pos:Qi}(h:PJ X (e1::e2::es) ts):PE X (.JoinedStr (e1::e2::es) pos) (zH ts Qp):=by
 intro pins s σ H Q I q
 exact wpAny_JoinedStr (h.joins I q)
end
structure xJ(P:Qc)(w:P8)(K:PM)(mg:PH->Option PL)(base:P0)(k:Nat)(x:PH)(ps:List PH)(sp:Sp):Prop where
 ex:∃a fd,mg x=some (.ref a)/\RW K (.ref a)=true/\Binds K fd ps []/\mw P w K mg base (eC P w base) k a fd ps sp
section
variable {P:Qc}{w:P8}{K:PM}{mg:PH->Option PL}{base:P0}
theorem Mz.okX{x qual:PH}{st:P5}{f:PK}{fd:RF}{N ps:List PH}{k:Nat}{sp:Sp}(F:Mz K x qual st f fd)(S:aB N ps (aq st))(len:∀vs H Q E,sp vs H Q E->vs.length=ps.length)
  (hbody:∀(cdv:PL)(A:Qg)(outer:List Qq)(s:PN)(H:Hp)(vs:List V)(Q:VK)(E:XK),di k (A.deeper (Q9 qual (aq st) s.heap.objs.size f cdv))->sp vs H Q E->
   ∃t,xI (cv (eC P w base) P w K mg base N qual (aq st) f cdv A outer s H E) (dH st) t/\t {nx:=fun _ H'=>Q .non H',rt:=Q} (start N vs) H):mw P w K mg base (eC P w base) (k+1) f fd ps sp:=by
 obtain⟨oc,od,kV,doc,pm,an,cdv,ct,osl,rfl,lk,hcd⟩:=F.ex
 exact LU lk hcd S len fun A outer s H vs Q E hr hsp=>hbody cdv A outer s H vs Q E hr hsp
theorem bF.calX{x:PH}{st:P5}{ps N:List PH}{rd:XK->TS}{k:Nat}{sp:Sp}(F:bF K mg x st ps)(S:aB N ps (aq st))(len:∀vs H Q E,sp vs H Q E->vs.length=ps.length)
  (hb:∀(f:PK)(cdv:PL)(A:Qg)(outer:List Qq)(s:PN)(H:Hp)(E:XK),di k (A.deeper (Q9 x (aq st) s.heap.objs.size f cdv))->xI (cv (eC P w base) P w K mg base N x (aq st) f cdv A outer s H E) (dH st) (rd E))
  (hr:∀vs H Q E,sp vs H Q E->rd E {nx:=fun _ H'=>Q .non H',rt:=Q} (start N vs) H):xJ P w K mg base (k+1) x ps sp:=by
 obtain⟨a,fd,hm,hF,hbd⟩:=F.ex
 exact⟨a,fd,hm,hF.kp,.all hbd,hF.okX S len fun cdv A outer s H vs Q E room h=>⟨rd E,hb a cdv A outer s H E room,hr vs H Q E h⟩⟩
end
section
variable {X:Cx}{k:Nat}{ps:List PH}{sp:Sp}{x:PH}{p pos:Qi}{e:PY}{es:List PY}{t:TA}
end
section
variable {P:Qc}{w:P8}{K:PM}{mg:PH->Option PL}{base:P0}{N:List PH}{qual:PH}{scope:QS}{f:PK}{cd:PL}{A:Qg}{outer:List Qq}{s0:PN}{H0:Hp}{E:XK}{k:Nat}{ps:List PH}{sp:Sp}{x:PH}{p pos:Qi}{e:PY}{es:List PY}{t:TA}
theorem eI(C:xJ P w K mg base k x ps sp)(hr:di k (cv (eC P w base) P w K mg base N qual scope f cd A outer s0 H0 E).A)(ha:PA (cv (eC P w base) P w K mg base N qual scope f cd A outer s0 H0 E) (e::es) t)(hg:Gl (cv (eC P w base) P w K mg base N qual scope f cd A outer s0 H0 E) x:=by rfl)(hdb:(x==("__debug__":PH))=false:=by decide)
  (he:Qf (e::es) (cv (eC P w base) P w K mg base N qual scope f cd A outer s0 H0 E).env=(false,eval e (cv (eC P w base) P w K mg base N qual scope f cd A outer s0 H0 E).env)::Qf es (cv (eC P w base) P w K mg base N qual scope f cd A outer s0 H0 E).env:=by rfl)
  (hpl:(QF pos (Qf es (cv (eC P w base) P w K mg base N qual scope f cd A outer s0 H0 E).env)).any (·.1)=false:=by rfl):PE (cv (eC P w base) P w K mg base N qual scope f cd A outer s0 H0 E) (.Call (.Name x p) (e::es) [] pos) (bf sp [] E t):=by
 obtain⟨a,fd,hm,hk,hb,F⟩:=C.ex
 exact FF F hr hg hm hk hb .nil BL ha hdb he hpl
end
section
variable {X:Cx}{k:Nat}{x:PH}{ps:List PH}{sp:Sp}{e:PY}{es:List PY}{t:TA}{p pos:Qi}
theorem MO{P:Qc}{w:P8}{base:P0}:lx (eC P w base) X E0:=by
 intro pins σ H s v s' I hx
 obtain⟨_,_,_,_,_,_,_,_,_,_,_,_,_,_,q⟩:=hx
 exact q.elim
end
noncomputable def ao(K:PM)(x:PH):PK:=match Rn K QI x with
 |some (some (.ref C))=>C
 |_=>0
theorem gu{K:PM}{x:PH}{C:PK}(e:Rn K QI x=some (some (.ref C))):ao K x=C:=by
 unfold ao;rw[e]
noncomputable def keysOk(es:Array RQ):Bool:=es.toList.all fun e=>match e.key with| .str _ _=>true|_=>false
theorem Hj{es:Array RQ}(h:keysOk es=true):StrKeys es:=by
 intro e he
 have:=(Rt.mp h) e (Yn.mpr he)
 revert this
 cases hk:e.key<;>intro q<;>first|exact⟨_,_,rfl⟩|cases q
structure ef(K:PM)(mg:PH->Option PL)(x:PH):Prop where
 bound:mg x=some (.ref (ao K x))
 some:(Ro K (ao K x)).isSome=true
 ek:mO K (ao K x)
 own:∀h:P0,K.In h->OwnCls x (ao K x) [.type "ValueError",.type "Exception",.type "BaseException",.type "object"] "ValueError.__new__" mg h
section
variable {K:PM}{mg:PH->Option PL}{h:P0}{x:PH}{C N:PK}{nm q:PH}{bs bm:List PL}{hdct:Bool}{sn:List PH}{sub:List PL}{ab:Bool}{col:Option Bool}{dd:Option PK}{k0 k1 k2 k3 k5:Option PL}
 {c:PL}{d:Option PK}{es:Array RQ}{ep:Nat}{sl:Array (Option PL)}{cdat:ClassData}
theorem MR{h:P0}(X:K.In h)(n:K.lookup N=some ⟨c,d,.dict es ep,sl⟩)(hk:keysOk es=true):h.Ns N (fun y=>nsFind es y):=⟨_,es,ep,X _ _ n,rfl,Hj hk,fun _=>rfl⟩
theorem LD(X:K.In h)(G:h.Ns QI mg)(a:Rn K QI x=some (some (.ref C)))(l:K.lookup C=some (excClassObj nm q C N bs [.type "ValueError",.type "Exception",.type "BaseException",.type "object"] hdct sn sub ab col dd k0 k1 k2 k3 k5 "ValueError.__new__"))
  (n:K.lookup N=some ⟨c,d,.dict es ep,sl⟩) (g1:Q7 K (.ref C) "__getattribute__"=some (some (.builtin "BaseException.__getattribute__"))) (g2:Q7 K (.ref C) "__class__"=some (some (.builtin "object.__class__"))) (g3:Q7 K (.ref C) "__getattr__"=some none)
  (g4:U7 K C (.type "object")=some true) (g5:U7 K C (.type "BaseException")=some true) (g6:Ro K C=some cdat) (hk:keysOk es=true) (hi:nsFind es "__init__"=none):ef K mg x:=by
 have e:=gu a
 refine⟨?_,?_,?_,fun h' X'=>?_⟩
 ·rw[e];exact Sk X G a
 ·rw[e,g6];rfl
 ·rw[e];exact⟨g1,g2,g3,g4,g5⟩
 ·rw[e];exact⟨Sk X G a,_,N,nm,q,bs,hdct,sn,sub,ab,col,dd,k0,k1,k2,k3,k5,_,X' _ _ l,MR X' n hk,hi,.base⟩
theorem KD{C1:PK}{c1 c2:PL}{d1 d2:Option PK}{es1:Array RQ}{ep1:Nat}{sl1 sl2:Array (Option PL)}{cd1:ClassData}(X:K.In h)(G:h.Ns QI mg)(a:Rn K QI x=some (some (.ref C)))(l:K.lookup C=some (excClassObj nm q C N bs (.ref C1::[.type "ValueError",.type "Exception",.type "BaseException",.type "object"]) hdct sn sub ab col dd k0 k1 k2 k3 k5 "ValueError.__new__"))
  (n:K.lookup N=some ⟨c,d,.dict es ep,sl⟩) (l1:K.lookup C1=some {cls:=c1,dict:=d1,data:=.cls cd1,slots:=sl1}) (n1:K.lookup cd1.ns=some ⟨c2,d2,.dict es1 ep1,sl2⟩)
  (g1:Q7 K (.ref C) "__getattribute__"=some (some (.builtin "BaseException.__getattribute__"))) (g2:Q7 K (.ref C) "__class__"=some (some (.builtin "object.__class__"))) (g3:Q7 K (.ref C) "__getattr__"=some none)
  (g4:U7 K C (.type "object")=some true) (g5:U7 K C (.type "BaseException")=some true) (g6:Ro K C=some cdat) (hk:keysOk es=true) (hi:nsFind es "__init__"=none) (hk1:keysOk es1=true) (hi1:nsFind es1 "__init__"=none):ef K mg x:=by
 have e:=gu a
 refine⟨?_,?_,?_,fun h' X'=>?_⟩
 ·rw[e];exact Sk X G a
 ·rw[e,g6];rfl
 ·rw[e];exact⟨g1,g2,g3,g4,g5⟩
 ·rw[e];exact⟨Sk X G a,_,N,nm,q,bs,hdct,sn,sub,ab,col,dd,k0,k1,k2,k3,k5,_,X' _ _ l,MR X' n hk,hi,.own (X' _ _ l1) (MR X' n1 hk1) hi1 .base⟩
end
section
variable {K:PM}{x y:PH}{C D:PK}{cd:ClassData}{r:Bool}{T:String}
theorem Ks(a:Rn K QI x=some (some (.ref C)))(b:Rn K QI y=some (some (.ref D)))(c:Ro K D=some cd)(t:Vi K (.ref D)=some (.type "type"))(s:UL K (.ref C) (.ref D)=some r)(n:C=D->r=true):
  Qa K (.ref (ao K x)) (.ref (ao K y))=some r:=by
 rw[gu a,gu b]
 unfold Qa
 split
 ·rename_i h
  rw[n (Xk (beq_iff_eq.mp h))]
 ·unfold Vg
  simp only
  rw[if_pos (by rw[c,t];rfl)]
  exact s
theorem Me(a:Rn K QI x=some (some (.ref C)))(m:ZE T=true)(s:UL K (.ref C) (.type T)=some r):Qa K (.ref (ao K x)) (.type T)=some r:=by
 rw[gu a]
 unfold Qa
 rw[if_neg (by intro h;have:=beq_iff_eq.mp h;cases this)]
 unfold Vg
 simp only
 rw[if_pos m]
 exact s
theorem Kk(a:Rn K QI x=some (some (.ref C)))(b:Rn K QI y=some (some (.ref D)))(e:UL K (.ref D) (.type "BaseException")=some true)(c:Ro K D=some cd)(t:Vi K (.ref D)=some (.type "type"))(s:UL K (.ref C) (.ref D)=some r):
  RP K (.ref (ao K x)) (.ref (ao K y))=some r:=by
 rw[gu a,gu b]
 unfold RP
 rw[if_pos (by rw[e];rfl)]
 unfold Vg
 simp only
 rw[if_pos (by rw[c,t];rfl)]
 exact s
end
section
variable {P:Qc}{w:P8}{K:PM}{mg:PH->Option PL}{base:P0}{N:List PH}{qual:PH}{scope:QS}{f:PK}{cd:PL}{A:Qg}{outer:List Qq}{s0:PN}{H0:Hp}{E:XK}{x:PH}{np cpos pos:Qi}{e:PY}{es:List PY}{t:TA}
theorem c8(O:ef K mg x)(ha:PA (cv (eC P w base) P w K mg base N qual scope f cd A outer s0 H0 E) (e::es) t)(hg:Gl (cv (eC P w base) P w K mg base N qual scope f cd A outer s0 H0 E) x:=by rfl)(hc:(cv (eC P w base) P w K mg base N qual scope f cd A outer s0 H0 E).calm=true:=by rfl)(hdb:(x==("__debug__":PH))=false:=by decide)
  (he:Qf (e::es) (cv (eC P w base) P w K mg base N qual scope f cd A outer s0 H0 E).env=(false,eval e (cv (eC P w base) P w K mg base N qual scope f cd A outer s0 H0 E).env)::Qf es (cv (eC P w base) P w K mg base N qual scope f cd A outer s0 H0 E).env:=by rfl)
  (hpl:(QF cpos (Qf es (cv (eC P w base) P w K mg base N qual scope f cd A outer s0 H0 E).env)).any (·.1)=false:=by rfl):
  PS (cv (eC P w base) P w K mg base N qual scope f cd A outer s0 H0 E) (.Raise (some (.Call (.Name x np) (e::es) [] cpos)) none pos) (eJ (ao K x) E t):=fun pins s σ H D I h=>
 Ke (O.own base I.ok.mod.kin) Ye (by decide) Ye hg hc ha hdb he hpl pins s σ H D I h
end
theorem nO{X:Cx}{x:PH}{pos:Qi}(O:ef X.K X.mg x)(hg:Gl X x:=by rfl)(hd:(x==("__debug__":PH))=false:=by decide):PE X (.Name x pos) (tC (.ref (ao X.K x))):=Av hg O.bound rfl hd
theorem PS.nox{X:Cx}{st:P5}{t:TS}(h:PS X.nox st t):PS X st t:=fun pins s σ H D I hw=>
 Q5 (h pins s σ H D (I.wish _) hw) (fun f s' q=>by
  cases f with
  |next=>obtain⟨a,b,c,d⟩:=q;exact⟨a,b,c.unwish,d⟩
  |brk=>obtain⟨a,b,c,d⟩:=q;exact⟨a,b,c.unwish,d⟩
  |cont=>obtain⟨a,b,c,d⟩:=q;exact⟨a,b,c.unwish,d⟩
  |ret u=>obtain⟨v,a,b,c,d⟩:=q;exact⟨v,a,b,c.unwish,d⟩) fun _ _ z=>z.elim
end L2
namespace L2
open PySem PySem.Spec PyProof.Rows PySem.Builtin PySem.Builtin.Str
section
variable {X:Cx}
theorem zJ:∀(l:List (PH×Tok)),bR ((l.map (·.1)).map V.str) (strValues l)
 |[]=>.nil
 |p::l=>.cons ⟨p.2,rfl⟩ (zJ l)
theorem Fh:∀{xs:List PH}{us:List PL},bR (xs.map V.str) us->∃l:List (PH×Tok),us=strValues l/\l.map (·.1)=xs
 |[],_,.nil=>⟨[],rfl,rfl⟩
 |x::xs,_,.cons ⟨t,e⟩ r=>by
  obtain⟨l,h1,h2⟩:=Fh r
  exact⟨(x,t)::l,by rw[e,h1];rfl,by rw[Qu,h2]⟩
noncomputable def JC:V->List V->Hp->VK->Prop:=fun x vs H Q=>∃(a b:PH),x=.str a/\vs=[.str b]/\(b.length==0)=false/\a.length<=PZ/\(QJ a b).length<=PZ/\∀l,H l=none->Q (.ref l) (upd H l (.lst ((QJ a b).map V.str)))
theorem JP:NJ X "str.split" JC:=by
 intro pins s σ H x vs v us Q I rx rv h
 obtain⟨a,b,rfl,rfl,hb,ha,hn,q⟩:=h
 obtain⟨t,rfl⟩:=rx
 obtain⟨u,rfl,u',rfl⟩:=rv.one
 have fin:∀(ps:List (PH×Tok))(tk:Nat),ps.map (·.1)=QJ a b->EP X pins σ Q (.ref s.heap.objs.size) {s with toks:=tk,heap:=s.heap.push {cls:=.type "list",data:=.seq (strValues ps).toArray}}:=fun ps tk hp=>by
  refine⟨.ref s.heap.objs.size,_,I.laid (t':=tk) (a:=s.heap.objs.size) (o:=.lst ((QJ a b).map V.str)) (fun b o e=>Qr _ e) (Qe _) ⟨by rw[P7];exact hn,strValues ps,0,?_,Qz _ rfl⟩,rfl,q _ (I.hok.fresh (Qe _))⟩
  rw[<-hp]
  exact zJ ps
 have fl:∀c∈([]:List Nat),True:=fun _ _=>trivial
 cases h1:(decide (a.length<b.length) || decide (strKind a<strKind b))
 ·cases hf:(occurrences a b 0 a.length (a.length+1)).isEmpty
  ·have es:QJ a b=partsBetween a (occurrences a b 0 a.length (a.length+1)) b.length:=(if_neg (ne_true_of_eq_false h1)).trans (if_neg (ne_true_of_eq_false hf))
   refine RL UD (typeIs_str _ _ _) Wi (VS _ _) (meets_str_split_sep a b t u' h1 hb hf ha (by rw[<-es];exact hn)) ?_
   show EP X pins σ Q (.ref s.heap.objs.size) {s with toks:=_,heap:=s.heap.push {cls:=.type "list",data:=.seq (strsFrom s.toks (partsBetween a (occurrences a b 0 a.length (a.length+1)) b.length)).toArray}}
   rw[strsFrom_eq]
   exact fin _ _ ((numbered_texts _ _).trans es.symm)
  ·exact RL UD (typeIs_str _ _ _) Wi (VS _ _) (meets_str_split_not_found a b t u' h1 hb hf) (fin [(a,t)] s.toks ((if_neg (ne_true_of_eq_false h1)).trans (if_pos hf)).symm)
 ·exact RL UD (typeIs_str _ _ _) Wi (VS _ _) (meets_str_split_cannot_occur a b t u' h1) (fin [(a,t)] s.toks (if_pos h1).symm)
noncomputable def rJoin(K:PM):V->List V->Hp->VK->Prop:=fun x vs H Q=>∃(sep:PH)(p:PK)(xs:List PH),x=.str sep/\vs=[.ref p]/\aY K H p (xs.map V.str)/\tooLong (xs.toArray.foldl (· + ·.length+sep.length) 0)=false/\(glued sep xs).length<=PZ/\Q (.str (glued sep xs)) H
theorem kE:NJ X "str.join" (rJoin X.K):=by
 intro pins s σ H x vs v us Q I rx rv h
 obtain⟨sep,p,xs,rfl,rfl,hS,hl,hz2,q⟩:=h
 obtain⟨t,rfl⟩:=rx
 obtain⟨u,rfl,ru⟩:=rv.one
 cases ru
 obtain⟨its,rvs,pl,hz⟩:=I.list hS
 obtain⟨l,rfl,hx⟩:=Fh rvs
 refine RL Sr (typeIs_str _ _ _) F.entry_str_join (F.args_str_join_2 _ _) (meets_str_join_list sep t p l (by rw[hx];exact hl)) ⟨pl.isList,?_⟩
 have fin:∀(t':Tok)(tk:Nat),EP X pins σ Q (.str (glued sep xs) t') {s with toks:=tk}:=fun t' tk=>⟨.str (glued sep xs),H,I.tok tk,⟨t',rfl⟩,q⟩
 rcases l with _|⟨p1,_|⟨p2,l⟩⟩
 ·subst hx
  exact⟨hz2,fin _ _⟩
 ·subst hx
  have e:glued sep [p1.1]=p1.1:=by first|rfl|simp[glued]
  have:=fin p1.2 s.toks
  rw[show(RE (·.1) [p1])=[p1.1]from rfl,e]at this
  exact this
 ·subst hx
  exact⟨hz2,fin _ _⟩
noncomputable def BC:List V->Hp->VK->Prop:=fun xs H Q=>∃(x:PH)(n:Int),xs=[.str x]/\Wb x=some n/\x.length<=640/\Q (.int n) H
theorem GX:fw X (.type "int") BC:=by
 intro pins s σ H xs us Q I r h
 obtain⟨x,n,rfl,hn,hl,q⟩:=h
 obtain⟨u,rfl,t,rfl⟩:=vals1 r
 exact aaT hn hl ⟨.int n,H,I.tok _,⟨_,rfl⟩,q⟩
noncomputable def uZ:V->List V->Hp->VK->Prop:=fun x vs H Q=>∃(a b:PH),x=.str a/\vs=[.str b]/\Q (.bl (decide (0+b.length<=a.length)&&subAt a b 0)) H
theorem yi:NJ X "str.startswith" uZ:=by
 intro pins s σ H x vs v us Q I rx rv h
 obtain⟨a,b,rfl,rfl,q⟩:=h
 obtain⟨t,rfl⟩:=rx
 obtain⟨u,rfl,u',rfl⟩:=rv.one
 exact RL YN (typeIs_str _ _ _) F.entry_str_startswith (F.args_str_startswith_2 _ _) (gives_str_startswith a b t u').meets (show EP X pins σ Q (.bool (decide (0+b.length<=a.length)&&subAt a b 0)) s from⟨.bl _,H,I,rfl,q⟩)
noncomputable def qx:V->Option Int->Option Int->Hp->VK->Prop:=fun x lo hi H Q=>∃z:PH,x=.str z/\z.length<=PZ/\Q (.str (QK z lo hi)) H
theorem iB:Po X qx:=by
 intro pins s σ H x v vl vu lo hi sl Q I rx hs pl pu h
 obtain⟨z,rfl,hz,q⟩:=h
 obtain⟨t,rfl⟩:=rx
 refine⟨"str",_,F.slot_str_getitem.lookup,typeIs_str _ _ _,?_⟩
 have fin:∀(t':Tok)(k:Nat),EP X pins σ Q (.str (QK z lo hi) t') {s with toks:=k}:=fun t' k=>⟨.str (QK z lo hi),H,I.tok k,⟨t',rfl⟩,q⟩
 have hle:=P6 (aaf z lo hi) hz
 cases pl with
 |none=>
  cases pu with
  |none=>exact UH (l:=none) (u:=none) (st:=none) hs rfl (post_val_or_str ⟨hle,fin⟩)
  |int j uj=>exact UH (l:=none) (u:=some (j,uj)) (st:=none) hs rfl (post_val_or_str ⟨hle,fin⟩)
 |int i ui=>
  cases pu with
  |none=>exact UH (l:=some (i,ui)) (u:=none) (st:=none) hs rfl (post_val_or_str ⟨hle,fin⟩)
  |int j uj=>exact UH (l:=some (i,ui)) (u:=some (j,uj)) (st:=none) hs rfl (post_val_or_str ⟨hle,fin⟩)
end
end L2
namespace L2
open PySem PySem.Spec PyProof.Rows
noncomputable def OT(x:PH):It:=⟨fun i _=>i<x.cps.size,fun i H v H'=>H'=H/\v=.str ⟨#[x.cps.getD i 0]⟩,fun i _=>x.cps.size<=i⟩
theorem Gr{P:Qc}{w:P8}{K:PM}{tg:PY}(it:PK)(x:PH)(t:Tok):Turn P w K tg (OT x) [it] it (fun i h=>h.IsStrIter it "str_ascii_iterator" x t i) where
 mem:=by simp
 obj:=fun i h st b hb=>by
  have e:b=it:=by simpa using hb
  subst e
  obtain⟨o,e,c,d⟩:=st
  exact⟨o,e,fun v z=>by rw[d]at z;cases z⟩
 keep:=fun i h h' st k=>by
  obtain⟨o,e,r⟩:=st
  exact⟨o,k it (by simp) o e,r⟩
 item:=by
  intro X hP hw hK hc i pins s σ H E I hf st hg
  subst hP hw hK
  obtain⟨f0,f1,f2,f3,f4,f5⟩:=hf it (by simp)
  have hg:i<x.cps.size:=hg
  refine wpAny_pyNext_ascii_item st (c:=x.cps[i]) (by simp[hg]) fun h' st' sb=>?_
  have I1:Inv X pins σ H {s with heap:=h',toks:=s.toks+1}:=I.turned (t':=s.toks+1) (fun b o hb e=>(sb.2 b hb).trans e) f0 f1 f3 f4 f5
  obtain⟨o,e,c,d⟩:=id st'
  have ex:x.cps.getD i 0=x.cps[i]:=by simp[Array.getD,hg]
  exact⟨_,rfl,B8 (s:={s with heap:=h',toks:=s.toks+1}) e c d (by decide) ⟨.str ⟨#[x.cps[i]]⟩,H,I1,⟨_,rfl⟩,⟨rfl,by rw[ex]⟩,st',fun b hb=>(hf b hb).1⟩⟩
 done:=by
  intro X hP hw hK hc i pins s σ H E I hf st hg
  subst hP hw hK
  obtain⟨f0,f1,f2,f3,f4,f5⟩:=hf it (by simp)
  have hg:x.cps.size<=i:=hg
  exact wpAny_pyNext_ascii_end (I.ok.hd hc) st (by simp;omega) fun h' eb=>⟨rfl,I.turned (t':=s.toks) (fun b o hb e=>eb b o hb e) f0 f1 f3 f4 f5⟩
 self:=fun _ _ _ _ _ st h=>wpAny_pyIter_striter_ascii st h
section
variable {X:Cx}{tg:PY}
noncomputable def EU(tl:TE):TI:=fun σ H R=>tl σ H fun v H1=>∃x:PH,v=.str x/\x.cps.all (· < 128)=true/\R (OT x) H1
theorem Fp{l:PY}{tl:TE}(hl:PE X l tl):PI X tg l (EU tl):=by
 intro pins s σ H R I h
 refine cI (hl pins s σ H _ I h) fun v s1 ⟨y,H1,I1,r1,q1⟩=>?_
 obtain⟨x,e,ha,q⟩:=q1
 subst e
 obtain⟨t,rfl⟩:=r1
 refine wpAny_pyIter_ascii ha ?_
 refine⟨s1.heap.objs.size,[s1.heap.objs.size],_,_,H1,rfl,I1.kept (t':=s1.toks) fun b o e=>Qr _ e,Gr _ x t,⟨_,Qz _ rfl,rfl,rfl⟩,fun b hb=>?_,q⟩
 have e:b=s1.heap.objs.size:=by simpa using hb
 subst e
 exact I1.fpOk (Qe _) (I1.hok.fresh (Qe _))
end
theorem FA{x:PH}(p:Nat):Ys (OT x) (au p) (fun _=>True) x.cps.size (fun i σ=>σ.set p (some (.str ⟨#[x.cps.getD i 0]⟩))) where
 go:=fun i H hi _=>hi
 stop:=fun H _=>Qe _
 yld:=fun i H v H' σ Q hi _ y q=>by
  obtain⟨e,y⟩:=y
  subst e y
  exact q _ (av.refl _)
section
variable {X:Cx}
noncomputable def L6:R2:=fun x y H Q=>∃(z:PH)(n:Int),x=.str z/\y=.int n/\0<=n/\n<=1000/\z.length<=1000/\Q (.str (Vn z n)) H
theorem Bu{z:PH}{n:Int}(h0:0<=n)(h1:n<=1000)(hz:z.length<=1000):MulOk z n:=by
 exists ?_,?_
 ·simp;omega
 ·intro a b
  have h:(1000:Int)<=(2 ^ 63-1)/n:=Int.le_ediv_of_mul_le (by omega) (by omega)
  omega
 ·intro a b
  have h:z.length*n.toNat<=1000*1000:=Nat.mul_le_mul hz (by omega)
  have k:PZ=16777216:=by decide
  refine decide_eq_false ?_
  rw[k]
  omega
theorem D0:iz X (Rr .Mult) L6:=by
 intro pins s σ H x y v u Q I rx ry h
 obtain⟨z,n,rfl,rfl,h0,h1,hz,q⟩:=h
 obtain⟨t,rfl⟩:=rx
 obtain⟨t',rfl⟩:=ry
 exact SB.mul (Bu h0 h1 hz) fun t' k=>⟨.str (Vn z n),H,I.tok k,⟨t',rfl⟩,q⟩
noncomputable def oF(te:TE):TE:=fun σ H Q=>te σ H fun x H1=>∃z:PH,x=.str z/\(reprText z).length<=PZ/\Q (.str (reprText z)) H1
theorem gX{e:PY}{te:TE}{pos:Qi}(he:PE X e te):PE X (.FormattedValue e 114 none pos) (oF te):=by
 intro pins s σ H Q I h
 refine wpAny_FormattedValue_repr (cI (he pins s σ H _ I h) fun v s1 ⟨x,H1,I1,r1,z,hx,hl,q⟩=>?_)
 subst hx
 obtain⟨tk,rfl⟩:=r1
 refine wpAny_pyReprObj_gives (typeIs_str _ z tk) F.slot_str_repr F.entry_str_repr (F.args_str_repr_1 _) (gives_str_repr z tk) ?_ (hx:=hl)
 have fin:∀(t':Tok)(k:Nat),EP X pins σ Q (.str (reprText z) t') {s1 with toks:=k}:=fun t' k=>⟨.str (reprText z),H1,I1.tok k,⟨t',rfl⟩,q⟩
 exact wpAny_formatField_str (fin _ _) (fin _ _) (hx:=hl)
end
noncomputable def Fo(K:PM)(C:PL)(i j:Nat)(t:XK->TE)(tb:TS):TS:=fun D σ H=>
 t (fun cls _ H'=>RP K cls C=some true/\∀a oe,H' a=none->oe.cls=cls->VL oe=true->oe.dict=none->
  tb {nx:=fun σ' H''=>D.nx (σ'.set i none) H'',rt:=D.rt,bk:=fun σ' H''=>D.bk (σ'.set i none) H'',ct:=fun σ' H''=>D.ct (σ'.set i none) H''} (σ.set i (some (.ref a))) (upd H' a (.frz oe (.own a)))) σ H fun v H'=>D.nx (σ.set j (some v)) H'
section
variable {X:Cx}{x n y:PH}{j:Nat}{py:Qi}{C:PL}{i:Nat}{t:XK->TE}{tb:TS}{e:PY}{b₀:P5}{suite:List P5}{pos epos hpos np:Qi}
theorem G8(hj:X.N[j]?=some y)(hy:X.env.scope.names.lookup y=some .local)(hx:∀b,b∉X.ex)(hst:X.stack=X.env::X.outer)(hN:X.N.Nodup)(hi:X.N[i]?=some n)(hn:X.env.scope.names.lookup n=some .local)(hl:X.env.kindOf n=some .local)(hg:Gl X x)(hm:X.mg x=some C)
  (he:∀E,PX X e E (t E)) (hb:∀v,xI (X.marked v) (b₀::suite) tb) (hdb:(x==("__debug__":PH))=false:=by decide) (hs:swapsWith e (some (.Name y py)) epos.line X.env=pure false:=by rfl):
  PS X (.Try [.Assign [.Name y py] e epos] [.ExceptHandler (some (.Name x np)) (some n) (b₀::suite) hpos] [] [] pos) (Fo X.K C i j t tb):=by
 intro pins s σ H D I h
 refine wpAny_Try_except (wpAny_execs_cons ?_)
 refine wpAny_Assign_Name (Q5 (he _ pins s σ H _ I h) (fun v s1 ⟨z,H1,I1,r1,q1⟩=>?_) ?_) hs
 ·exact mq I1 hN hj (.inl hy) r1 (fun s2 I2=>To (To ⟨_,H1,I2,q1⟩)) (.inr hy)
 ·intro ev s1 hxp
  obtain⟨a,T,cls,H1,rfl,J,fa,fT,tr,q⟩:=hxp
  obtain⟨qc,qb⟩:=q
  have hf:X.env.frame=some X.env.locals:=AF J.ok hst
  refine Lb (base:=X.base) (outer:=X.outer) (hst▸J.ok.frames) (hst▸J.stack) hf tr J.bk fun h2 k1 k2 ⟨T2,hT2,tr2⟩=>?_
  have J2:Inv X pins σ H1 {s1 with heap:=h2}:=J.left (ch:=[a,T]) (fun b hb=>by
   have hb':b=a\/b=T:=by simpa using hb
   rcases hb' with z|z
   ·rw[z];exact fa
   ·rw[z];exact fT) (fun b o hb hs hq=>k1 b o (fun z=>hb (by simp[z])) (fun z=>hb (by simp[z])) (hst▸hs) hq) (fun b o hb hq=>k2 b o (fun z=>hb (by simp[z])) (fun z=>hb (by simp[z])) hq)
  have fT2:Jg X pins H1 T2:=J.fpO (Vd hT2) (hx T2) (J.hok.fresh hT2)
  have tr3:=tr2
  obtain⟨⟨oe,vs,oT,ts,t1,t2,tn,t3,t4,t5,t6,t7⟩,t8,t9⟩:=tr3
  subst t2
  have LT:Zs (model X.prog X.w) h2 (typeOf (.ref a)) oe.cls:=(aao t1).andThen .now
  refine wpAny_handleBy_cons (codeAny_handlers_test ?_) (by intro z;cases z)
  refine qE (X:=X.marked (.ref a)) (J2.marked (.ref a)) hg hm ?_ hdb
  refine(aav J2.kIn LT qc).here ?_
  refine codeAny_handlers_suite_as ?_
  refine EL tr2 fun h3 k3=>?_
  have J3:=Inv.left (s:={s1 with heap:=h2}) (h':=h3) (ch:=[T2]) J2 (fun b hb=>by rw[QR.mp hb];exact fT2) (fun b o hb _ hq=>k3 b o (fun z=>hb (by simp[z])) hq) (fun b o hb hq=>⟨o.slots,k3 b o (fun z=>hb (by simp[z])) hq⟩)
  have h3a:h3.get? a=some oe:=k3 a oe (Qy t9) t1
  have J4:=J3.track (a:=a) (o:=.frz oe (.own a)) fa ⟨h3a,oe,h3a⟩
  refine mq (X:=X.marked (.ref a)) (v:=.ref a) (J4.marked (.ref a)) hN hi (.inl hn) rfl (fun s5 I5=>?_) (.inr hn)
  refine Q5 (hb (.ref a) pins s5 _ _ _ I5 (qb a oe fa.1 rfl (by unfold VL;rw[t3]) tn)) (fun fl s6 hq=>?_) fun _ _ z=>z.elim
  have hp:(X.env.scope.kind==.class || (X.env.scope.kind==.module&&X.env.locals != X.env.globals))=false:=by rw[J.ok.kind];rfl
  have go:∀{σ6 H6 R},Inv (X.marked (.ref a)) pins σ6 H6 s6->(∀s7,Inv X pins (σ6.set i none) H6 s7->SP X pins D fl s7)->(R=fun (_:Unit) s7=>SP X pins D fl s7)->PQ (model X.prog X.w) X.A (do bindName X.env n .none;unbindBehindTheSuite X.env n hpos) R X.xe s6:=fun {σ6 H6 R} I6 w e=>by
   subst e
   have I7:=Inv.unmarked J.ok I6
   obtain⟨m,hn6,hl6⟩:=id I7.loc
   exact wpAny_nameGoes_keeps hl hn6 hp fun h7 v7 hn7 hs7=>w _ (I7.forget hN hi hn6 hl6 hn7 hs7)
  cases fl with
  |next=>
   obtain⟨σ6,H6,I6,q6⟩:=hq
   exact go I6 (fun s7 I7=>⟨_,_,I7,q6⟩) rfl
  |brk=>
   obtain⟨σ6,H6,I6,q6⟩:=hq
   exact go I6 (fun s7 I7=>⟨_,_,I7,q6⟩) rfl
  |cont=>
   obtain⟨σ6,H6,I6,q6⟩:=hq
   exact go I6 (fun s7 I7=>⟨_,_,I7,q6⟩) rfl
  |ret u=>
   obtain⟨v6,σ6,H6,I6,r6,q6⟩:=hq
   exact go I6 (fun s7 I7=>⟨v6,_,_,I7,r6,q6⟩) rfl
end
structure Ka(mg:PH->Option PL)(x:PH)(i:PH):Prop where
 ex:∃t,mg x=some (.str i t)
theorem Ka.pe{X:Cx}{x:PH}{i:PH}{pos:Qi}(k:Ka X.mg x i)(hg:Gl X x)(hd:(x==("__debug__":PH))=false:=by decide):PE X (.Name x pos) (tC (.str i)):=by
 obtain⟨t,e⟩:=k.ex
 exact Av hg e ⟨t,rfl⟩ hd
theorem Ku{K:PM}{mg:PH->Option PL}{h:P0}{x:PH}{i:PH}{t:Tok}(X:K.In h)(G:h.Ns QI mg)(z:Rn K QI x=some (some (.str i t))):Ka mg x i:=⟨t,Sk X G z⟩
noncomputable def dh:R2:=fun x y H Q=>∃i j,x=.str i/\y=.str j/\i.length+j.length<=PZ/\Q (.str (i++j)) H
noncomputable def Jx:R2:=fun x y H Q=>∃i j,x=.str i/\y=.str j/\Q (.bl (!(Ua j i 0 j.length 1).isEmpty)) H
noncomputable def qG:List V->Hp->VK->Prop:=fun xs H Q=>∃i,xs=[.int i]/\i.natAbs.log2<1920/\Q (.str (toString i)) H
noncomputable def ve:List V->Hp->VK->Prop:=fun xs H Q=>∃z:PH,xs=[.str z]/\z.length<=PZ/\Q (.int z.length) H
section
variable {X:Cx}
theorem bY:iz X (Rr .Add) dh:=Ex
theorem IQ:iz X (QO .In) Jx:=Ht
theorem il:fw X (.type "str") qG:=A5
theorem oi:fw X (.builtin "len") ve:=AV
end
structure cw(K:PM)(c m qual:PH)(st:P5)(ps:List PH):Prop where
 ex:∃f fd,Gn K (ao K c) m f/\Mz K m qual st f fd/\∀us:List PL,us.length=ps.length->bindArgs fd ⟨us,[]⟩=pure (ps.zip us)
structure eL(CX:Gu)(P:Qc)(w:P8)(K:PM)(mg:PH->Option PL)(base:P0)(k:Nat)(c m:PH)(ps:List PH)(sp:Sp):Prop where
 ex:∃f fd,Gn K (ao K c) m f/\Binds K fd ps []/\mw P w K mg base CX k f fd ps sp
structure mi(K:PM)(mg:PH->Option PL)(c:PH):Prop where
 bound:mg c=some (.ref (ao K c))
 cls:gT K (ao K c)
 makes:Vb K (ao K c)=true
 kp:RW K (.ref (ao K c))=true
section
variable {P:Qc}{w:P8}{K:PM}{mg:PH->Option PL}{base:P0}
theorem cw.cal{c m qual:PH}{st:P5}{ps N:List PH}{rd:TS}{k:Nat}{sp:Sp}(F:cw K c m qual st ps)(S:aB N ps (aq st))(len:∀vs H Q E,sp vs H Q E->vs.length=ps.length)
  (hb:∀(f:PK)(cdv:PL)(A:Qg)(outer:List Qq)(s:PN)(H:Hp)(E:XK),di k (A.deeper (Q9 qual (aq st) s.heap.objs.size f cdv))->xI (cv sR P w K mg base N qual (aq st) f cdv A outer s H E).nox (dH st) rd)
  (hr:∀vs H Q E,sp vs H Q E->rd {nx:=fun _ H'=>Q .non H',rt:=Q} (start N vs) H):eL sR P w K mg base (k+1) c m ps sp:=by
 obtain⟨a,fd,hm,hF,hbd⟩:=F.ex
 exact⟨a,fd,hm,.all hbd,hF.ok S len fun cdv A outer s H vs Q E room h=>⟨rd,hb a cdv A outer s H E room,hr vs H Q E h⟩⟩
theorem cw.calX{c m qual:PH}{st:P5}{ps N:List PH}{rd:XK->TS}{k:Nat}{sp:Sp}(F:cw K c m qual st ps)(S:aB N ps (aq st))(len:∀vs H Q E,sp vs H Q E->vs.length=ps.length)
  (hb:∀(f:PK)(cdv:PL)(A:Qg)(outer:List Qq)(s:PN)(H:Hp)(E:XK),di k (A.deeper (Q9 qual (aq st) s.heap.objs.size f cdv))->xI (cv (eC P w base) P w K mg base N qual (aq st) f cdv A outer s H E) (dH st) (rd E))
  (hr:∀vs H Q E,sp vs H Q E->rd E {nx:=fun _ H'=>Q .non H',rt:=Q} (start N vs) H):eL (eC P w base) P w K mg base (k+1) c m ps sp:=by
 obtain⟨a,fd,hm,hF,hbd⟩:=F.ex
 exact⟨a,fd,hm,.all hbd,hF.okX S len fun cdv A outer s H vs Q E room h=>⟨rd E,hb a cdv A outer s H E room,hr vs H Q E h⟩⟩
theorem Lc{h:P0}{c m qual:PH}{st:P5}{ps:List PH}{C f:PK}{oc:PL}{od an:Option PK}{osl:Array (Option PL)}{kV doc pm cdv ct:PL}
  (a:Rn K QI c=some (some (.ref C))) (a4:Q7 K (.ref C) m=some (some (.ref f))) (fn:UQ K (.ref f)=true) (l4:K.lookup f=some ⟨oc,od,.func (Sa m qual (ky st) (dH st) (aq st) .none kV doc pm an cdv ct),osl⟩)
  (c4:TL K cdv qual=true) (k4:RW K (.ref f)=true)
  (hb:∀(kV doc pm:PL)(an:Option PK)(cdv ct:PL)(us:List PL),us.length=ps.length->bindArgs (Sa m qual (ky st) (dH st) (aq st) .none kV doc pm an cdv ct) ⟨us,[]⟩=pure (ps.zip us)):cw K c m qual st ps:=
 ⟨f,_,by rw[gu a];exact⟨a4,fn,k4⟩,IT l4 c4 k4,hb kV doc pm an cdv ct⟩
theorem Nr{h:P0}{c:PH}{C:PK}(X:K.In h)(G:h.Ns QI mg)(a:Rn K QI c=some (some (.ref C)))(pg:Ur K C Qp=true)(hd:U5 K C=true)(po:Vq K C=true)
  (sa:Q7 K (.ref C) "__setattr__"=some (some (.builtin "object.__setattr__"))) (mk:Vb K C=true) (kp:RW K (.ref C)=true):mi K mg c:=by
 have e:=gu a
 exact⟨by rw[e];exact Sk X G a,by rw[e];exact⟨pg,hd,po,sa⟩,by rw[e];exact mk,by rw[e];exact kp⟩
theorem FU{c f:PH}{C:PK}(a:Rn K QI c=some (some (.ref C)))(n:Q7 K (.ref C) f=some none):df K (ao K c) f:=by
 rw[gu a];exact n
end
section
variable {X:Cx}{k:Nat}{c m:PH}{ps:List PH}{sp:Sp}{o e:PY}{es:List PY}{ta:TE}{t:TA}{apos pos p:Qi}{pl:Sem Bool}
theorem rB(M:eL sR X.prog X.w X.K X.mg X.base k c m ps sp)(C:mi X.K X.mg c)(hr:di k X.A)(he:PE X o ta)(ha:PA X (e::es) t)
  (hst:Qf (e::es) X.env=(false,eval e X.env)::Qf es X.env:=by rfl) (hpl:(QF pos (Qf es X.env)).any (·.1)=false:=by rfl)
  (ht:eval (.Call (.Attribute o m apos) (e::es) [] pos) X.env=(do
   let ov <-eval o X.env
   standAt apos.atName
   let (f,first) <-holding [ov] (RZ ov m pl)
   callWith pos f first (QF pos (Qf (e::es) X.env)) (RO pos (RT [] X.env))):=by rfl):PE X (.Call (.Attribute o m apos) (e::es) [] pos) (cD (ao X.K c) m sp [] E0 ta t):=by
 obtain⟨f,fd,hm,hb,F⟩:=M.ex
 exact AB he C.cls hm F hr hb .nil Fy ha hst hpl ht
theorem mJ(M:eL sR X.prog X.w X.K X.mg X.base k c m ps sp)(C:mi X.K X.mg c)(hr:di k X.A)(he:PE X o ta)
  (ht:eval (.Call (.Attribute o m apos) [] [] pos) X.env=(do
   let ov <-eval o X.env
   standAt apos.atName
   let (f,first) <-holding [ov] (RZ ov m pl)
   callWith pos f first (QF pos (Qf [] X.env)) (RO pos (RT [] X.env))):=by rfl):PE X (.Call (.Attribute o m apos) [] [] pos) (cD (ao X.K c) m sp [] E0 ta az):=by
 obtain⟨f,fd,hm,hb,F⟩:=M.ex
 exact Iv he C.cls hm F hr hb .nil Fy ht
theorem Jy(M:eL (eC X.prog X.w X.base) X.prog X.w X.K X.mg X.base k c m ps sp)(C:mi X.K X.mg c)(hr:di k X.A)(he:PE X o ta)(ha:PA X (e::es) t)
  (hst:Qf (e::es) X.env=(false,eval e X.env)::Qf es X.env:=by rfl) (hpl:(QF pos (Qf es X.env)).any (·.1)=false:=by rfl)
  (ht:eval (.Call (.Attribute o m apos) (e::es) [] pos) X.env=(do
   let ov <-eval o X.env
   standAt apos.atName
   let (f,first) <-holding [ov] (RZ ov m pl)
   callWith pos f first (QF pos (Qf (e::es) X.env)) (RO pos (RT [] X.env))):=by rfl):PE X (.Call (.Attribute o m apos) (e::es) [] pos) (cD (ao X.K c) m sp [] E0 ta t):=by
 obtain⟨f,fd,hm,hb,F⟩:=M.ex
 exact AB he C.cls hm F hr hb .nil MO ha hst hpl ht
theorem so(M:eL sR X.prog X.w X.K X.mg X.base k c "__init__" ps sp)(C:mi X.K X.mg c)(hr:di (k+1) X.A)(hg:Gl X c:=by rfl)(hdb:(c==("__debug__":PH))=false:=by decide):PE X (.Call (.Name c p) [] [] pos) (yW (ao X.K c) sp [] E0 az):=by
 obtain⟨f,fd,hm,hb,F⟩:=M.ex
 exact Jw ⟨C.makes,hm.at_,hm.fn,C.kp⟩ F hr hg C.bound hb .nil Fy hdb
end
section
variable {P:Qc}{w:P8}{K:PM}{mg:PH->Option PL}{base:P0}{N:List PH}{qual:PH}{scope:QS}{f:PK}{cd:PL}{A:Qg}{outer:List Qq}{s0:PN}{H0:Hp}{E:XK}{k:Nat}{ps:List PH}{sp:Sp}{c m:PH}{apos pos:Qi}{o e:PY}{es:List PY}{ta:TE}{t:TA}{pl:Sem Bool}
theorem cV(M:eL (eC P w base) P w K mg base k c m ps sp)(C:mi K mg c)(hr:di k (cv (eC P w base) P w K mg base N qual scope f cd A outer s0 H0 E).A)(he:PE (cv (eC P w base) P w K mg base N qual scope f cd A outer s0 H0 E) o ta)(ha:PA (cv (eC P w base) P w K mg base N qual scope f cd A outer s0 H0 E) (e::es) t)
  (hst:Qf (e::es) (cv (eC P w base) P w K mg base N qual scope f cd A outer s0 H0 E).env=(false,eval e (cv (eC P w base) P w K mg base N qual scope f cd A outer s0 H0 E).env)::Qf es (cv (eC P w base) P w K mg base N qual scope f cd A outer s0 H0 E).env:=by rfl)
  (hpl:(QF pos (Qf es (cv (eC P w base) P w K mg base N qual scope f cd A outer s0 H0 E).env)).any (·.1)=false:=by rfl)
  (ht:eval (.Call (.Attribute o m apos) (e::es) [] pos) (cv (eC P w base) P w K mg base N qual scope f cd A outer s0 H0 E).env=(do
   let ov <-eval o (cv (eC P w base) P w K mg base N qual scope f cd A outer s0 H0 E).env
   standAt apos.atName
   let (f',first) <-holding [ov] (RZ ov m pl)
   callWith pos f' first (QF pos (Qf (e::es) (cv (eC P w base) P w K mg base N qual scope f cd A outer s0 H0 E).env)) (RO pos (RT [] (cv (eC P w base) P w K mg base N qual scope f cd A outer s0 H0 E).env))):=by rfl):
  PE (cv (eC P w base) P w K mg base N qual scope f cd A outer s0 H0 E) (.Call (.Attribute o m apos) (e::es) [] pos) (cD (ao K c) m sp [] E ta t):=by
 obtain⟨f',fd,hm,hb,F⟩:=M.ex
 exact AB he C.cls hm F hr hb .nil BL ha hst hpl ht
end
section
variable {κ:Type} [DecidableEq κ]
noncomputable def gL(kvs:List (κ×V))(k:κ):Option V:=(kvs.find? fun kv=>decide (kv.1=k)).map (·.2)
noncomputable def putK(kvs:List (κ×V))(k:κ)(v:V):List (κ×V):=
 if(kvs.any fun kv=>decide (kv.1=k))=true then kvs.map (fun kv=>if kv.1=k then(kv.1,v)else kv)else kvs++[(k,v)]
noncomputable def q0(kvs:List (κ×V))(k:κ):List (κ×V):=kvs.filter fun kv=>decide (kv.1≠k)
theorem qv{p:κ×V}{r:List (κ×V)}{k:κ}(e:p.1=k):gL (p::r) k=some p.2:=by simp[gL,Tz,e]
theorem nt{p:κ×V}{r:List (κ×V)}{k:κ}(e:¬p.1=k):gL (p::r) k=gL r k:=by simp[gL,Tz,e]
theorem vf(k:κ):∀kvs:List (κ×V),(kvs.any fun kv=>decide (kv.1=k))=(gL kvs k).isSome
 |[]=>rfl
 |p::r=>by
  rw[Sb]
  by_cases e:p.1=k
  ·simp only[qv e,decide_eq_true e,Bool.true_or,XA]
  ·rw[nt e,decide_eq_false e,Yw];exact vf k r
theorem tH(kvs:List (κ×V))(k:κ)(v:V):(putK kvs k v).length<=kvs.length+1:=by
 unfold putK
 split
 ·rw[P7];omega
 ·rw[QV,QU,VX];omega
theorem Iu{kvs:List (κ×V)}{k:κ}(v:V)(h:gL kvs k=none):putK kvs k v=kvs++[(k,v)]:=by
 unfold putK
 rw[vf,h]
 exact if_neg (by decide)
theorem mY.isSome_eq{o:Option V}{u:Option PL}(r:mY o u):o.isSome=u.isSome:=by
 cases o with
 |none=>cases u with
  |none=>rfl
  |some _=>exact(show False from r).elim
 |some _=>cases u with
  |none=>exact(show False from r).elim
  |some _=>rfl
theorem KV.val{kvs:List (κ×V)}{vs:List (κ×PL)}(r:KV kvs vs)(k:κ):mY (gL kvs k) (valueAt vs k):=by
 unfold KV at r
 induction r with
 |nil=>exact SE
 |@cons p q ps qs h t ih=>
  obtain⟨h1,h2⟩:=h
  by_cases e:p.1=k
  ·have e':q.1=k:=h1.symm.trans e
   have b:valueAt (q::qs) k=some q.2:=by simp[valueAt,Tz,e']
   rw[qv e,b];exact h2
  ·have e':¬q.1=k:=fun z=>e (h1.trans z)
   have b:valueAt (q::qs) k=valueAt qs k:=by simp[valueAt,Tz,e']
   rw[nt e,b];exact ih
theorem KV.any{kvs:List (κ×V)}{vs:List (κ×PL)}(r:KV kvs vs)(k:κ):(kvs.any fun kv=>decide (kv.1=k))=vs.any fun kv=>decide (kv.1=k):=by
 unfold KV at r
 induction r with
 |nil=>rfl
 |cons h t ih=>rw[Sb,Sb,ih,h.1]
theorem KV.repl{kvs:List (κ×V)}{vs:List (κ×PL)}(r:KV kvs vs)(k:κ){y:V}{u:PL}(ry:RelV y u):
  KV (kvs.map fun kv=>if kv.1=k then(kv.1,y)else kv) (vs.map fun kv=>if kv.1=k then(kv.1,u)else kv):=by
 unfold KV at r ⊢
 induction r with
 |nil=>exact .nil
 |@cons p q ps qs h t ih=>
  rw[Qu,Qu]
  refine .cons ?_ ih
  obtain⟨h1,h2⟩:=h
  by_cases e:p.1=k
  ·rw[if_pos e,if_pos (h1.symm.trans e)];exact⟨h1,ry⟩
  ·rw[if_neg e,if_neg (fun z=>e (h1.trans z))];exact⟨h1,h2⟩
theorem KV.put{kvs:List (κ×V)}{vs:List (κ×PL)}(r:KV kvs vs)(k:κ){y:V}{u:PL}(ry:RelV y u):KV (putK kvs k y) (stored vs k u):=by
 unfold putK stored
 rw[r.any k]
 by_cases e:(vs.any fun kv=>decide (kv.1=k))=true
 ·rw[if_pos e,if_pos e];exact r.repl k ry
 ·rw[if_neg e,if_neg e];exact WY r ⟨rfl,ry⟩
theorem KV.drop{kvs:List (κ×V)}{vs:List (κ×PL)}(r:KV kvs vs)(k:κ):KV (q0 kvs k) (without vs k):=by
 unfold KV at r ⊢
 unfold q0 without
 induction r with
 |nil=>exact .nil
 |@cons p q ps qs h t ih=>
  obtain⟨h1,h2⟩:=h
  rw[SY,SY]
  by_cases e:p.1=k
  ·have a:¬decide (p.1≠k)=true:=by simp[e]
   have b:¬decide (q.1≠k)=true:=by simp[h1.symm.trans e]
   rw[if_neg a,if_neg b];exact ih
  ·have e':¬q.1=k:=fun z=>e (h1.trans z)
   have a:decide (p.1≠k)=true:=by simp[e]
   have b:decide (q.1≠k)=true:=by simp[e']
   rw[if_pos a,if_pos b];exact .cons ⟨h1,h2⟩ ih
theorem KV.length{kvs:List (κ×V)}{vs:List (κ×PL)}(r:KV kvs vs):kvs.length=vs.length:=Qv r
theorem BU(kvs:List (κ×V))(k:κ):(q0 kvs k).length<=kvs.length:=Rz _ _
end
theorem tP{P:Qc}{w:P8}{k:Key}{u:PL}(r:RelV (kV k) u):(aX P w).is k u=true:=by
 cases k with
 |inl i=>obtain⟨t,e⟩:=(show ∃t,u=R4 i t from r);subst e;exact C2 P w i t
 |inr x=>obtain⟨t,e⟩:=(show ∃t,u=S4 x t from r);subst e;exact Cc P w x t
theorem y9{P:Qc}{w:P8}:∀{ks:List Key}{us:List PL},bR (ks.map kV) us->ItemsAre (aX P w) ks us
 |[],_,r=>by rw[S7]at r;cases r;exact .nil
 |k::ks,_,r=>by
  rw[Qu]at r
  cases r with
  |cons h t=>exact .cons (tP h) (y9 t)
noncomputable abbrev KT(H:Hp):List (List Key×V)->List (List Key×PK×PL)->Prop:=Qd fun p q=>p.1=q.1/\H q.2.1=some (.tup (p.1.map kV))/\RelV p.2 q.2.2
theorem KT.val{H:Hp}{kvs:List (List Key×V)}{xs:List (List Key×PK×PL)}(r:KT H kvs xs)(k:List Key):mY (gL kvs k) ((atKey xs k).map (·.2)):=by
 induction r with
 |nil=>exact SE
 |@cons p q ps qs h t ih=>
  obtain⟨h1,_,h2⟩:=h
  by_cases e:p.1=k
  ·have e':q.1=k:=h1.symm.trans e
   have b:atKey (q::qs) k=some q.2:=by simp[atKey,Tz,e']
   rw[qv e,b];exact h2
  ·have e':¬q.1=k:=fun z=>e (h1.trans z)
   have b:atKey (q::qs) k=atKey qs k:=by simp[atKey,Tz,e']
   rw[nt e,b];exact ih
theorem KT.repl{H:Hp}{kvs:List (List Key×V)}{xs:List (List Key×PK×PL)}(r:KT H kvs xs)(k:List Key){y:V}{u:PL}(ry:RelV y u):
  KT H (kvs.map fun kv=>if kv.1=k then(kv.1,y)else kv) (xs.map (putAt k u)):=by
 induction r with
 |nil=>exact .nil
 |@cons p q ps qs h t ih=>
  rw[Qu,Qu]
  refine .cons ?_ ih
  obtain⟨h1,h2,h3⟩:=h
  unfold putAt
  by_cases e:p.1=k
  ·rw[if_pos e,if_pos (h1.symm.trans e)];exact⟨h1,h2,ry⟩
  ·rw[if_neg e,if_neg (fun z=>e (h1.trans z))];exact⟨h1,h2,h3⟩
theorem KT.put{H:Hp}{kvs:List (List Key×V)}{xs:List (List Key×PK×PL)}(r:KT H kvs xs)(k:List Key){b:PK}{y:V}{u:PL}(hb:H b=some (.tup (k.map kV)))(ry:RelV y u):
  KT H (putK kvs k y) (storedH xs k b u):=by
 have e:(kvs.any fun kv=>decide (kv.1=k))=(atKey xs k).isSome:=by
  rw[vf,(r.val k).isSome_eq,V6]
 unfold putK storedH
 rw[e]
 by_cases q:(atKey xs k).isSome=true
 ·rw[if_pos q,if_pos q];exact r.repl k ry
 ·rw[if_neg q,if_neg q];exact WY r ⟨rfl,hb,ry⟩
theorem KT.keeps{H H':Hp}{kvs:List (List Key×V)}{xs:List (List Key×PK×PL)}(r:KT H kvs xs)(ht:∀b ys,H b=some (.tup ys)->H' b=some (.tup ys)):KT H' kvs xs:=
 Paired.mapP r fun _ _ z=>⟨z.1,ht _ _ z.2.1,z.2.2⟩
section
variable {P:Qc}{w:P8}{H:Hp}{h:P0}{a:PK}
theorem LP{u:HO}(ok:oy P w H h)(e:Rd H a u):c9 P w H h a u:=e.ok ok
theorem gB{kvs:List (Key×V)}(ok:oy P w H h)(e:Rd H a (.dK kvs)):kvs.length<=PZ/\(a==Ry)=false/\∃vs,KV kvs vs/\h.DictOf (aX P w) a vs:=
 show c9 P w H h a (.dK kvs)from LP ok e
theorem JW{kvs:List (Key×V)}(ok:oy P w H h)(e:H a=some (.dK kvs)):kvs.length<=PZ/\(a==Ry)=false/\∃vs,KV kvs vs/\h.DictOf (aX P w) a vs:=gB ok (.inl e)
theorem u7{ks:List Key}(ok:oy P w H h)(e:H a=some (.tup (ks.map kV))):(tupleKind (aX P w)).is h ks a:=by
 obtain⟨_,its,r,o,h1,h2,n,h3⟩:=(show c9 P w H h a (.tup (ks.map kV))from ok a _ e)
 exact⟨o,its.toArray,n,h1,h2,h3,by simpa using y9 r⟩
theorem yR{kvs:List (List Key×V)}(ok:oy P w H h)(e:Rd H a (.dT kvs)):kvs.length<=PZ/\(a==Ry)=false/\
  ∃xs,KT H kvs xs/\h.DictOfH (tupleKind (aX P w)) a xs:=by
 obtain⟨z,y,xs,r,o,es,ep,h1,h2,h3,h4,h5⟩:=(show c9 P w H h a (.dT kvs)from LP ok e)
 refine⟨z,y,xs,r,o,es,ep,h1,h2,h3,h4,fun x hx=>?_,h5⟩
 have all:∀{l:List (List Key×V)}{m:List (List Key×PK×PL)},KT H l m->∀x∈m,(tupleKind (aX P w)).is h x.1 x.2.1:=by
  intro l m q
  induction q with
  |nil=>intro x hx;exact nomatch hx
  |@cons p q ps qs hq t ih=>
   intro x hx
   rcases Qb.mp hx with e|hx
   ·subst e
    exact u7 ok (by rw[<-hq.1];exact hq.2.1)
   ·exact ih x hx
 exact all r x hx
theorem Oz{kvs:List (List Key×V)}(ok:oy P w H h)(e:H a=some (.dT kvs)):kvs.length<=PZ/\(a==Ry)=false/\
  ∃xs,KT H kvs xs/\h.DictOfH (tupleKind (aX P w)) a xs:=yR ok (.inl e)
end
noncomputable def pH(H:Hp)(a:PK)(y:V)(r:Option V):Prop:=
 (∃kvs k,Rd H a (.dK kvs)/\y=kV k/\r=gL kvs k)\/∃kvs k b,Rd H a (.dT kvs)/\y=.ref b/\H b=some (.tup (k.map kV))/\r=gL kvs k
noncomputable def GG(H:Hp)(a:PK)(y v:V)(H':Hp):Prop:=
 (∃kvs k,H a=some (.dK kvs)/\y=kV k/\kvs.length<PZ/\H'=upd H a (.dK (putK kvs k v)))\/
 ∃kvs k b,H a=some (.dT kvs)/\y=.ref b/\H b=some (.tup (k.map kV))/\kvs.length<PZ/\H'=upd H a (.dT (putK kvs k v))
theorem pH.k{H:Hp}{a:PK}{kvs:List (Key×V)}{k:Key}(e:H a=some (.dK kvs)):pH H a (kV k) (gL kvs k):=.inl ⟨kvs,k,.inl e,rfl,rfl⟩
theorem GG.k{H:Hp}{a:PK}{kvs:List (Key×V)}{k:Key}{v:V}(e:H a=some (.dK kvs))(hl:kvs.length<PZ):GG H a (kV k) v (upd H a (.dK (putK kvs k v))):=.inl ⟨kvs,k,e,rfl,hl,rfl⟩
section
variable {X:Cx}{pins:List (PK×PV)}{σ:St}{H:Hp}{s:PN}{a:PK}{y v:V}{u r:PL}{o:Option V}{A:Qg}{E:PL->PN->Prop}
theorem Inv.big(I:Inv X pins σ H s):Ry<s.heap.objs.size:=by
 have h:QI<s.heap.objs.size:=(I.mod.glob.keeps I.bk).lt
 exact UB (by decide) h
theorem G5{Q:PL->PN->Prop}(hu:A.units+1<cLine)(I:Inv X pins σ H s)(g:pH H a y (some v))(ry:RelV y u)(h:∀w' s',Inv X pins σ H s'->RelV v w'->Q w' s'):
  PQ (model X.prog X.w) A (getItem (.ref a) u) Q E s:=by
 rcases g with⟨kvs,k,e,ey,l⟩|⟨kvs,k,b,e,ey,eb,l⟩
 ·subst ey
  obtain⟨z,hd,vs,rel,dd⟩:=gB I.hok e
  obtain⟨w',hw,rw'⟩:=mY.some_of (v:=v) (o:=valueAt vs k) (by rw[l];exact rel.val k)
  exact wpAny_getItem_of (tP ry) dd.mapOf hw (h w' _ (I.tok _) rw')
 ·subst ey
  cases(show u=Qo b from ry)
  obtain⟨z,hd,xs,rel,dd⟩:=yR I.hok e
  obtain⟨w',hw,rw'⟩:=mY.some_of (v:=v) (o:=(atKey xs k).map (·.2)) (by rw[l];exact rel.val k)
  obtain⟨p,hp,hp2⟩:=Option.map_eq_some_iff.mp hw
  refine wpAny_getItem_heap (UK hu) (u7 I.hok eb) dd hp ?_
  rw[hp2]
  exact h w' _ (I.tok _) rw'
theorem Ph{Q:PL->PN->Prop}(hu:A.units+1<cLine)(I:Inv X pins σ H s)(g:pH H a y o)(ry:RelV y u)(h:∀s',Inv X pins σ H s'->Q (.bool o.isSome) s'):
  PQ (model X.prog X.w) A (QO .In u (.ref a)) Q E s:=by
 rcases g with⟨kvs,k,e,ey,l⟩|⟨kvs,k,b,e,ey,eb,l⟩
 ·subst ey
  obtain⟨z,hd,vs,rel,dd⟩:=gB I.hok e
  refine wpAny_in_of (tP ry) hd dd.mapOf ?_
  rw[<-(rel.val k).isSome_eq,<-l]
  exact h _ (I.tok _)
 ·subst ey
  cases(show u=Qo b from ry)
  obtain⟨z,hd,xs,rel,dd⟩:=yR I.hok e
  refine wpAny_in_heap (UK hu) (u7 I.hok eb) hd dd ?_
  have q:=(rel.val k).isSome_eq
  rw[V6]at q
  rw[<-q,<-l]
  exact h _ (I.tok _)
theorem Lq{Q:PL->PN->Prop}(hu:A.units+1<cLine)(I:Inv X pins σ H s)(g:pH H a y o)(ry:RelV y u)(h:∀s',Inv X pins σ H s'->Q (.bool (!o.isSome)) s'):
  PQ (model X.prog X.w) A (QO .NotIn u (.ref a)) Q E s:=by
 rcases g with⟨kvs,k,e,ey,l⟩|⟨kvs,k,b,e,ey,eb,l⟩
 ·subst ey
  obtain⟨z,hd,vs,rel,dd⟩:=gB I.hok e
  refine wpAny_notIn_of (tP ry) hd dd.mapOf ?_
  rw[<-(rel.val k).isSome_eq,<-l]
  exact h _ (I.tok _)
 ·subst ey
  cases(show u=Qo b from ry)
  obtain⟨z,hd,xs,rel,dd⟩:=yR I.hok e
  refine wpAny_notIn_heap (UK hu) (u7 I.hok eb) hd dd ?_
  have q:=(rel.val k).isSome_eq
  rw[V6]at q
  rw[<-q,<-l]
  exact h _ (I.tok _)
theorem uY{h':P0}{t':Nat}{ob:HO}(I:Inv X pins σ H s)(mu:NO (H a))(hs:RY a s.heap h')(he:∃q,h'.get? a=some q)(new:c9 X.prog X.w (upd H a ob) h' a ob):
  Inv X pins σ (upd H a ob) {s with heap:=h',toks:=t'}:=
 I.write (x:=a) (e:=a) mu (.inl rfl) (fun b q hb z=>(hs.2 b hb).trans z) he new
theorem xt{P:Qc}{w:P8}{H':Hp}{h':P0}{kvs:List (Key×V)}{vs:List (Key×PL)}(z:kvs.length<=PZ)(hd:(a==Ry)=false)(rel:KV kvs vs)(dd:h'.DictOf (aX P w) a vs):
  c9 P w H' h' a (.dK kvs):=⟨z,hd,vs,rel,dd⟩
theorem FT{H':Hp}{Q:Unit->PN->Prop}(hu:A.units+1<cLine)(I:Inv X pins σ H s)(g:GG H a y v H')(ry:RelV y u)(rv:RelV v r)(h:∀s',Inv X pins σ H' s'->Q () s'):
  PQ (model X.prog X.w) A (setItem (.ref a) u r) Q E s:=by
 rcases g with⟨kvs,k,e,ey,l,eH⟩|⟨kvs,k,b,e,ey,eb,l,eH⟩
 ·subst ey eH
  obtain⟨z,hd,vs,rel,dd⟩:=JW I.hok e
  have hz:vs.length<=PZ:=by rw[<-rel.length];exact z
  have hl:(putK kvs k v).length<=PZ:=by have:=tH kvs k v;omega
  refine wpAny_setItem_pairs (hsz:=hz) (tP ry) dd fun h' dd' hs=>h _ ?_
  have he:∃q,h'.get? a=some q:=let ⟨q,_,_,hq,_⟩:=dd';⟨q,hq⟩
  exact uY I (by rw[e];exact SE) hs he (xt hl hd (rel.put k rv) dd')
 ·subst ey eH
  cases(show u=Qo b from ry)
  obtain⟨z,hd,xs,rel,dd⟩:=Oz I.hok e
  have hz:xs.length<=PZ:=by rw[<-Qv rel];exact z
  have hl:(putK kvs k v).length<=PZ:=by have:=tH kvs k v;omega
  refine wpAny_setItem_heap (hsz:=hz) (UK hu) (u7 I.hok eb) dd fun h' dd' hs=>h _ ?_
  obtain⟨q,es,ep,hq,h2,h3,h4,_,h5⟩:=dd'
  refine uY I (by rw[e];exact SE) hs ⟨q,hq⟩ ⟨hl,hd,_,(rel.put k eb rv).keeps fun c ys ec=>?_,q,es,ep,hq,h2,h3,h4,h5⟩
  rw[ak (Oj ec e (fun z=>nomatch z))]
  exact ec
end
section
variable {X:Cx}{pins:List (PK×PV)}{σ:St}{H:Hp}{s:PN}{a:PK}{kvs:List (Key×V)}{k:Key}{u:PL}{A:Qg}{E:PL->PN->Prop}
theorem NI{Q:Unit->PN->Prop}(I:Inv X pins σ H s)(e:H a=some (.dK kvs))(ry:RelV (kV k) u)(l:(gL kvs k).isSome=true)(h:∀s',Inv X pins σ (upd H a (.dK (q0 kvs k))) s'->Q () s'):
  PQ (model X.prog X.w) A (delItem (.ref a) u) Q E s:=by
 obtain⟨z,hd,vs,rel,dd⟩:=JW I.hok e
 refine wpAny_delItem_slot dd.typeIs (by decide) X9
  (TV X9 dd.typeIs ZQ (Zm _ _) (meets_dict_delitem_pairs (aX X.prog X.w) a (tP ry)) ⟨vs,dd,by rw[<-rel.length];exact z,by rw[<-(rel.val k).isSome_eq];exact l,fun h' dd' hs=>h _ ?_⟩)
 have he:∃q,h'.get? a=some q:=let ⟨q,_,_,hq,_⟩:=dd';⟨q,hq⟩
 exact uY I (by rw[e];exact SE) hs he (xt (P6 (BU kvs k) z) hd (rel.drop k) dd')
theorem Om{v:V}{more:List PL}{Q:PL->PN->Prop}(I:Inv X pins σ H s)(e:H a=some (.dK kvs))(ry:RelV (kV k) u)(l:gL kvs k=some v)(hm:more=[]\/∃x,more=[x])
  (h:∀w' s',Inv X pins σ (upd H a (.dK (q0 kvs k))) s'->RelV v w'->Q w' s'):PQ (model X.prog X.w) A (call (.builtin "dict.pop") (.ref a::u::more)) Q E s:=by
 obtain⟨z,hd,vs,rel,dd⟩:=JW I.hok e
 obtain⟨w',hw,rw'⟩:=mY.some_of (v:=v) (o:=valueAt vs k) (by rw[<-l];exact rel.val k)
 have hp:(keyPart u).isSome=true:=by
  cases k with
  |inl i=>obtain⟨t,q⟩:=(show ∃t,u=R4 i t from ry);subst q;rfl
  |inr x=>obtain⟨t,q⟩:=(show ∃t,u=S4 x t from ry);subst q;rfl
 have ha:argsOk "dict.pop" ⟨.ref a::u::more,[]⟩:=by
  rcases hm with q|⟨x,q⟩
  ·subst q;exact Zc _ _
  ·subst q;exact aaw _ _ _
 refine TV Xc dd.typeIs ZJ ha (meets_dict_pop_there (aX X.prog X.w) a (tP ry) more hm hp)
  ⟨vs,w',dd,by rw[<-rel.length];exact z,hw,fun h' dd' hs=>h w' _ ?_ rw'⟩
 have he:∃q,h'.get? a=some q:=let ⟨q,_,_,hq,_⟩:=dd';⟨q,hq⟩
 exact uY I (by rw[e];exact SE) hs he (xt (P6 (BU kvs k) z) hd (rel.drop k) dd')
theorem ON{Q:PL->PN->Prop}(I:Inv X pins σ H s)(e:Rd H a (.dK kvs))(h:∀t s',Inv X pins σ H s'->Q (.int kvs.length t) s'):PQ (model X.prog X.w) A (call (.builtin "len") [.ref a]) Q E s:=by
 obtain⟨z,hd,vs,rel,dd⟩:=gB I.hok e
 refine call_len_dict hd dd (by rw[<-rel.length];rw[sizeLine_eq]at z;omega) ?_
 rw[<-rel.length]
 exact h _ _ (I.tok _)
theorem LI{Q:Bool->PN->Prop}(I:Inv X pins σ H s)(e:Rd H a (.dK kvs))(h:∀s',Inv X pins σ H s'->Q (!kvs.isEmpty) s'):PQ (model X.prog X.w) A (truthy (.ref a)) Q E s:=by
 obtain⟨z,hd,vs,rel,dd⟩:=gB I.hok e
 refine wpAny_truthy_dict hd dd (by rw[<-rel.length];rw[sizeLine_eq]at z;omega) ?_
 have q:kvs.isEmpty=vs.isEmpty:=by cases rel<;>rfl
 rw[<-q]
 exact h _ (I.tok _)
end
noncomputable def NU(i:PY):Prop:=∀ov iv,subscripted i false ov iv=operate [ov,iv] (getItem ov iv)
theorem Lp{prog:Qc}{w:P8}{A:Qg}{E:PL->PN->Prop}{s:PN}{env:Qq}{value slice:PY}{pos:Qi}{T id:String}{Q:PL->PN->Prop}
  (hl:TY (.type T) "__getitem__"=pure (some (.builtin id))) (hs:NU slice)
  (h:PQ (model prog w) A (eval value env) (fun o s₁=>PQ (model prog w) A (eval slice env) (fun i s₂=>s₂.TypeIs o T/\PQ (model prog w) A (getItem o i) Q E s₂) E s₁) E s):
  PQ (model prog w) A (eval (.Subscript value slice pos) env) Q E s:=by
 refine Subscript_ (Q5 h (fun o s₁ h₁=>Q5 h₁ (fun i s₂ h₂=>?_) fun _ _ x=>x) fun _ _ x=>x)
 obtain⟨hT,h₂⟩:=h₂
 unfold subscriptTail
 refine PR ?_
 rw[getitemInPython_of_ne hT.not_modules]
 refine PR (wpAny_specialOf hT hl ?_)
 have fin:PQ (model prog w) A (subscripted slice false o i) (fun r s₃=>PQ (model prog w) A (letTemporaryGo value o r >>= fun _=>pure r) Q E s₃) E s₂:=by
  rw[hs o i]
  exact wpAny_operating (Q5 h₂ (fun r s₃ h₃=>PR (wpAny_letTemporaryGo (Qh h₃))) fun _ _ x=>x)
 first
  |exact Qh (PR fin)
  |exact PR (Qh (PR fin))
  |exact PR fin
theorem BP{X:Cx}{pins:List (PK×PV)}{σ:St}{H:Hp}{s:PN}{a:PK}{y:V}{o:Option V}(I:Inv X pins σ H s)(g:pH H a y o):s.TypeIs (.ref a) "dict":=by
 rcases g with⟨kvs,k,e,_,_⟩|⟨kvs,k,b,e,_,_,_⟩
 ·obtain⟨_,_,vs,_,dd⟩:=gB I.hok e
  exact dd.typeIs
 ·obtain⟨_,_,xs,_,dd⟩:=yR I.hok e
  exact dd.typeIs
noncomputable def FG(td ty:TE):TE:=fun σ H Q=>td σ H fun x H1=>ty σ H1 fun y H2=>∃a v,x=.ref a/\pH H2 a y (some v)/\Q v H2
noncomputable def Nd(ty td:TE):TE:=fun σ H Q=>ty σ H fun y H1=>td σ H1 fun x H2=>∃a o,x=.ref a/\pH H2 a y o/\Q (.bl o.isSome) H2
noncomputable def uV(ty td:TE):TE:=fun σ H Q=>ty σ H fun y H1=>td σ H1 fun x H2=>∃a o,x=.ref a/\pH H2 a y o/\Q (.bl (!o.isSome)) H2
noncomputable def FJ(td ty tv:TE):TS:=fun D σ H=>tv σ H fun v H1=>td σ H1 fun x H2=>ty σ H2 fun y H3=>∃a H4,x=.ref a/\GG H3 a y v H4/\D.nx σ H4
section
variable {X:Cx}{o i e value:PY}{pos pos' tpos:Qi}{td ty tv:TE}
theorem EW(hu:X.A.units+1<cLine)(ho:PE X o td)(hi:PE X i ty)(hs:NU i):PE X (.Subscript o i pos) (FG td ty):=by
 intro pins s σ H Q I h
 refine Lp Zr.lookup hs (cI (ho pins s σ H _ I h) fun u s1 ⟨x,H1,I1,rx,q1⟩=>cI (hi pins s1 σ H1 _ I1 q1) fun iv s2 ⟨y,H2,I2,ry,a,v,ex,g,q2⟩=>?_)
 subst ex
 obtain rfl:u=Qo a:=rx
 exact⟨BP I2 g,G5 hu I2 g ry fun w' s3 I3 rw'=>⟨v,H2,I3,rw',q2⟩⟩
theorem M7(hu:X.A.units+1<cLine)(hi:PE X i ty)(ho:PE X o td):PC X .In i o (Nd ty td):=by
 intro pins s σ H Q I h
 refine cI (hi pins s σ H _ I h) fun iv s1 ⟨y,H1,I1,ry,q1⟩=>cI (ho pins s1 σ H1 _ I1 q1) fun u s2 ⟨x,H2,I2,rx,a,ov,ex,g,q2⟩=>?_
 subst ex
 obtain rfl:u=Qo a:=rx
 exact Ph hu I2 g ry fun s3 I3=>⟨.bl ov.isSome,H2,I3,rfl,q2⟩
theorem zM(hu:X.A.units+1<cLine)(hi:PE X i ty)(ho:PE X o td):PC X .NotIn i o (uV ty td):=by
 intro pins s σ H Q I h
 refine cI (hi pins s σ H _ I h) fun iv s1 ⟨y,H1,I1,ry,q1⟩=>cI (ho pins s1 σ H1 _ I1 q1) fun u s2 ⟨x,H2,I2,rx,a,ov,ex,g,q2⟩=>?_
 subst ex
 obtain rfl:u=Qo a:=rx
 exact Lq hu I2 g ry fun s3 I3=>⟨.bl (!ov.isSome),H2,I3,rfl,q2⟩
theorem E4(hu:X.A.units+1<cLine)(ho:PE X o td)(hi:PE X i ty)(hv:PE X value tv)(hs:swapsWith value (some (.Subscript o i pos')) pos.line X.env=pure false):
  PS X (.Assign [.Subscript o i pos'] value pos) (FJ td ty tv):=by
 intro pins s σ H D I h
 refine wpAny_Assign_Subscript (cI (hv pins s σ H _ I h) fun r s1 ⟨v,H1,I1,rv,q1⟩=>cI (ho pins s1 σ H1 _ I1 q1) fun u s2 ⟨x,H2,I2,rx,q2⟩=>cI (hi pins s2 σ H2 _ I2 q2) fun iv s3 ⟨y,H3,I3,ry,a,H4,ex,g,q3⟩=>?_) hs
 subst ex
 obtain rfl:u=Qo a:=rx
 exact FT hu I3 g ry rv fun s4 I4=>⟨σ,H4,I4,q3⟩
end
theorem Jo{P:Qc}{w:P8}{H:Hp}(h:P0)(hb:Ry<h.objs.size):c9 P w H (h.push {cls:=.type "dict",data:=.dict #[]}) h.objs.size (.dK []):=
 ⟨Q3 _,beq_eq_false_iff_ne.mpr (Qy (Qt hb)),[],.nil,VY h⟩
noncomputable def AR:TE:=fun _ H Q=>∀p,H p=none->Q (.ref p) (upd H p (.dK []))
section
variable {X:Cx}{pos:Qi}
theorem Cg:PE X (.Dict [] [] pos) AR:=fun pins s σ H Q I h=>
 wpAny_Dict_empty ⟨.ref s.heap.objs.size,_,I.laid (a:=s.heap.objs.size) (o:=.dK []) (t':=s.toks) (fun _ _ q=>Qr _ q) (Qe _) (Jo s.heap I.big),rfl,h _ (I.hok.fresh (Qe _))⟩
end
structure M1(X:Cx)(o:PY)(m:PH)(apos:Qi)(e:PY)(cpos:Qi):Prop where
 base:SO o m X.env (eval o X.env)=eval o X.env
 few:((QF cpos (Qf [e] X.env)).all (fun x=>!x.1)&&(RO cpos (RT [] X.env)).all (fun x=>x.1.isSome)
  && decide (([e]:List PY).length+([]:List Keyword).length+(if([]:List Keyword).isEmpty then 0 else 1)<30))=true
 line:(apos.endLine==cpos.line)=true
 trees:QF cpos (Qf [e] X.env)=[(false,eval e X.env)]
noncomputable def Pn(H:Hp)(a:PK):Prop:=(∃kvs,Rd H a (.dK kvs))\/∃kvs,Rd H a (.dT kvs)
theorem ME{X:Cx}{pins:List (PK×PV)}{σ:St}{H:Hp}{s:PN}{a:PK}(I:Inv X pins σ H s)(d:Pn H a):
  s.TypeIs (.ref a) "dict"/\(∀b,Qo a=.ref b->∃ob,s.heap.get? b=some ob/\ob.dict=none)/\(a==Ry)=false:=by
 rcases d with⟨kvs,e⟩|⟨kvs,e⟩
 ·obtain⟨_,hd,vs,_,dd⟩:=gB I.hok e
  refine⟨dd.typeIs,fun b q=>?_,hd⟩
  cases q
  obtain⟨ob,_,_,h1,h2,_⟩:=dd
  exact⟨ob,h1,h2.2.1⟩
 ·obtain⟨_,hd,xs,_,dd⟩:=yR I.hok e
  refine⟨dd.typeIs,fun b q=>?_,hd⟩
  cases q
  obtain⟨ob,_,_,h1,h2,_⟩:=dd
  exact⟨ob,h1,h2.2.1⟩
section
variable {X:Cx}{pins:List (PK×PV)}{σ:St}{H:Hp}{s:PN}{a:PK}{y d:V}{u r:PL}{o:Option V}{A:Qg}{E:PL->PN->Prop}
end
noncomputable def z9(td ty:TE):TE:=fun σ H Q=>td σ H fun x H1=>∃a,x=.ref a/\Pn H1 a/\ty σ H1 fun y H2=>∃kvs k v,H2 a=some (.dK kvs)/\y=kV k/\gL kvs k=some v/\Q v (upd H2 a (.dK (q0 kvs k)))
section
variable {X:Cx}{o e f:PY}{apos cpos:Qi}{td ty tx:TE}
theorem C6(ho:PE X o td)(he:PE X e ty)(m:M1 X o "pop" apos e cpos):PE X (.Call (.Attribute o "pop" apos) [e] [] cpos) (z9 td ty):=by
 intro pins s σ H Q I h
 refine wpAny_Call_method m.base m.few m.line UJ Xc aai (cI (ho pins s σ H _ I h) fun u s1 ⟨x,H1,I1,rx,a,ex,d,q1⟩=>?_)
 subst ex
 obtain rfl:u=Qo a:=rx
 obtain⟨t1,t2,_⟩:=ME I1 d
 exists t1,t2
 rw[m.trees]
 refine TQ rfl (V2 (Wc (cI (he pins s1 σ H1 _ I1 q1) fun iv s2 ⟨y,H2,I2,ry,kvs,k,v,ea,ey,l,q2⟩=>Vy ?_)))
 subst ey
 exact Om I2 ea ry l (.inl rfl) fun w' s3 I3 rw'=>⟨v,_,I3,rw',q2⟩
end
section
variable {X:Cx}{pins:List (PK×PV)}{σ:St}{H:Hp}{s:PN}{a:PK}{kvs:List (Key×V)}{A:Qg}{E:PL->PN->Prop}
end
section
variable {X:Cx}{pins:List (PK×PV)}{σ:St}{H:Hp}{s:PN}{a:PK}{y:V}{u:PL}{A:Qg}{E:PL->PN->Prop}
end
section
variable {X:Cx}
theorem GK:fw X (.builtin "len") (fun xs H Q=>∃a kvs,xs=[V.ref a]/\H a=some (.dK kvs)/\Q (.int kvs.length) H):=by
 intro pins s σ H xs us Q I r h
 obtain⟨a,kvs,rfl,ha,q⟩:=h
 obtain⟨u,rfl,ru⟩:=vals1 r
 cases ru
 exact ON I (.inl ha) fun t s' I'=>⟨.int kvs.length,H,I',⟨t,rfl⟩,q⟩
end
section
variable {κ:Type} [DecidableEq κ]
end
end L2
namespace L2
open PySem PySem.Spec PyProof.Rows PySem.W
section
variable {X:Cx}{pins:List (PK×PV)}{σ:List (Option V)}{H H':Hp}{s:PN}{h':P0}
noncomputable def y8(v d:PK):HO:=.ext fun h=>h.IsItemsView v d
theorem vU{k:Key}{u:PL}{prog:Qc}{w:P8}(h:(aX prog w).is k u=true):RelV (kV k) u:=by
 rcases cR (show vC k u=true from h)with⟨i,t,rfl,rfl⟩|⟨x,t,rfl,rfl⟩
 ·exact⟨t,rfl⟩
 ·exact⟨t,rfl⟩
theorem nE{κ:Type}:∀{kvs:List (κ×V)}{vs:List (κ×PL)},KV kvs vs->∀(i:Nat)(p:κ×PL),vs[i]?=some p->∃q,kvs[i]?=some q/\q.1=p.1/\RelV q.2 p.2
 |_,_,.nil,i,p,h=>by simp at h
 |q::_,_,.cons hq _,0,p,h=>by
  simp at h
  subst h
  exact⟨q,rfl,hq.1,hq.2⟩
 |_,_,.cons _ t,i+1,p,h=>by
  obtain⟨q,h1,h2⟩:=nE t i p (by simpa using h)
  exact⟨q,by simpa using h1,h2⟩
end
theorem mH:TY (.type "list") "keys"=pure none:=by rw[Wg,builtinLookup_eq_fast];kernel_rfl
section
variable {prog:Qc}{w:P8}{A:Qg}{E:PL->PN->Prop}{s:PN}
theorem GJ{a:PK}{o:PV}{xs:Array PL}{k:Nat}{Q:Option PL->PN->Prop}(hx:s.heap.get? a=some o)(hc:o.cls=.type "list")(hdat:o.data=.seq xs k)(hd:o.dict=none)(hA:A.handled=none)
  (h:∀h' tk,(∀b o,s.heap.get? b=some o->h'.get? b=some o)->Q none {s with heap:=h',toks:=tk}):PQ (model prog w) A (getAttr? (.ref a) "keys") Q E s:=by
 obtain⟨c,dct,dat,sl⟩:=o
 simp only at hc hdat hd
 subst hc hdat hd
 obtain⟨hp,g,d,tk,os⟩:=s
 have hT:∀tk',(⟨hp,g,d,tk',os⟩:PN).TypeIs (.ref a) "list":=fun _=>⟨_,hx,rfl⟩
 have f1:=sub_AttributeError
 have f3:=VQ.lookup
 have f4:=VQ.bind (.ref a)
 have f5:=am_list_getattr_none
 have f6:=mH
 unfold getAttr? getAttrBy? getAttrBy
 repeat (any_goals (first|assumption|exact hT _|((with_reducible show PQ _ _ (call (Tt "list.__getattribute__") _ _) _ _ _);refine RL VQ (hT _) am_entry_list_getattribute (aar _ _) (meets_getattribute_miss_list a xs k sl "keys" _ mH (by decide)) ⟨hx,hA,fun h' tk' e hx'=>?_⟩)|wp_step))
 obtain⟨t',u',he⟩:=hx'.there
 show PQ _ _ (U2 _ _ _ _ _ _ _) _ _ _
 unfold U2
 repeat (any_goals (first|assumption|wp_step))
 exact h _ _ hx'.keeps
end
section
variable {prog:Qc}{w:P8}{K:Type} [DecidableEq K] {knd:KeyKind prog w K}{A:Qg}{R:Result->PN->Prop}{I:PK}{fp wr:List PK}{G:Array GenState->Array GenState->Prop}{n:Nat}{P:Nat->PL->Prop}{St:Nat->PN->Prop}
theorem nW:entryFor table "dict.update.loop"=some RD.«dict.update.loop»:=entryFor_of_tree (by kernel_rfl)
theorem eW:plainId "dict.update.loop"=true:=by decide +kernel
noncomputable def uU(knd:KeyKind prog w K)(h:P0)(T:PK)(kv:K×PL):Prop:=∃o key m,h.get? T=some o/\o.cls=.type "tuple"/\o.data=.seq #[key,kv.2] m/\knd.is kv.1 key=true
theorem EG(W:WalksS prog w A.in1 I fp wr G n P St)(D:PK)(hDf:D∉fp)(vs:List (K×PL))(ts:List PK)(res:PL)(hvn:vs.length=n)(htn:ts.length=n)(hval:∀i v,P i v->∃t,ts[i]?=some t/\v=.ref t)(hT:∀t∈ts,t≠D/\t∉wr)(hn:n<=1000)(nd:(vs.map (·.1)).Nodup):
  ∀(k i:Nat)(s:PN),n-i=k->i<=n->St i s->(∀(j:Nat)(t:PK)(p:K×PL),ts[j]?=some t->vs[j]?=some p->uU knd s.heap t p)->s.heap.DictOf knd D (vs.take i)->
   (∀s',Moved (D::wr) G s s'->s'.heap.DictOf knd D vs->R (.ok (.ret res)) s')->
   RU (model prog w) A (.builtin "dict.update.loop" ⟨[.ref D,.ref I,.int i 0,res],[]⟩) R s:=by
 have hDw:D∉wr:=fun h=>hDf (W.sub _ h)
 have hsub:∀b∈wr,b∈D::wr:=fun b hb=>Qs _ hb
 have dstay:∀{kvs:List (K×PL)}{h h':P0},h.DictOf knd D kvs->(∀o,h.get? D=some o->h'.get? D=some o)->h'.DictOf knd D kvs:=fun x k=>let ⟨o,es,ep,ho,r⟩:=x;⟨o,es,ep,k o ho,r⟩
 intro k
 induction k with
 |zero=>
  intro i s hk hi hst hP hD hR
  have hin:i=n:=by omega
  subst hin
  rw[RI (by omega)]at hD
  refine codeAny_builtin nW ?_
  rw[UC eW _]
  show PQ _ A.in1 (Rg (.ref I) >>= _) _ _ s
  refine PR (W.done s _ _ hst fun s' hm=>?_)
  show PQ _ A.in1 (YB D [] >>= fun _=>ret res) _ _ s'
  exact PR (Qh (Qh (hR s' (hm.mono hsub) (dstay hD fun o e=>hm.heap D _ hDw e))))
 |succ k ih=>
  intro i s hk hi hst hP hD hR
  have hlt:i<n:=by omega
  refine codeAny_builtin nW ?_
  rw[UC eW _]
  show PQ _ A.in1 (Rg (.ref I) >>= _) _ _ s
  refine PR (W.item i s _ _ hlt hst fun v s' hPv hst' hm=>?_)
  obtain⟨t,ht,rfl⟩:=hval i v hPv
  have hvi:vs[i]?=some vs[i]:=Qj (by omega)
  generalize vs[i]=p at hvi
  have hD':=dstay hD fun o e=>hm.heap D _ hDw e
  have hP':∀(j:Nat)(t:PK)(p:K×PL),ts[j]?=some t->vs[j]?=some p->uU knd s'.heap t p:=fun j t p e1 e2=>by
   obtain⟨o,key,m,h1,h2⟩:=hP j t p e1 e2
   exact⟨o,key,m,hm.heap _ _ (hT t (Tg e1)).2 h1,h2⟩
  obtain⟨o,key,m,h1,h2,h3,h4⟩:=hP' i t p ht hvi
  show PQ _ A.in1 (holding [Qo t] _ >>= _) _ _ s'
  refine PR (SS ?_)
  refine PR (wpAny_tryCatch ?_)
  unfold YD
  refine PR (UU (T:="tuple") ⟨o,h1,h2⟩ ?_)
  rw[if_pos (by decide)]
  refine PR (Sd h1 h3 (Qh ?_))
  show PQ _ A.in1 (holding [key,p.2] (dictSet D key p.2)) _ _ s'
  refine SS (wpAny_dictSet_pairs (knd:=knd) h4 hD' (fun h' hd' hsb=>?_) (by rw[QY,sizeLine_eq];omega))
  have hst2:stored (vs.take i) p.1 p.2=vs.take (i+1):=by
   unfold stored
   rw[if_neg]
   ·rw[Us,hvi];rfl
   ·intro z
    obtain⟨x,hx,e⟩:=VR.mp z
    obtain⟨j,hj,ej⟩:=Tw hx
    have hj':j<i/\j<vs.length:=by rw[QY]at hj;omega
    rw[V9]at ej
    have e:x.1=p.1:=by simpa using e
    obtain⟨hi',ei⟩:=QN.mp hvi
    have:=Uo.mp nd j i (by simp;omega) (by simp;omega) hj'.1
    simp only[Wh]at this
    rw[ej,ei]at this
    exact this e
  rw[hst2]at hd'
  refine Qh ⟨plainId_quiet eW _,?_⟩
  refine ih (i+1) _ (by omega) hlt (W.frame _ s' _ _ hst' (RC _) fun b hb o e=>?_) (fun j t p e1 e2=>?_) hd' fun s'' hm'' hS''=>?_
  ·rw[hsb.2 b (fun h:b=D=>hDf (by rw[<-h];exact hb))];exact e
  ·obtain⟨o,key,m,h1,h2⟩:=hP' j t p e1 e2
   exact⟨o,key,m,by rw[hsb.2 _ (hT t (Tg e1)).1];exact h1,h2⟩
  ·refine hR s'' (Moved.trans W.gtrans ((hm.mono hsub).then_heap (RC _) fun b o hb e=>?_) hm'') hS''
   rw[hsb.2 b (fun h:b=D=>hb (by rw[h];exact QH))];exact e
end
section
variable {prog:Qc}{w:P8}{K:Type} [DecidableEq K] {knd:KeyKind prog w K}{A:Qg}{E:PL->PN->Prop}{s:PN}
theorem uz{l:PK}{ts:List PK}{vs:List (K×PL)}{Q:PL->PN->Prop}(hh:A.handled=none)(hl:∃m,s.heap.get? l=some {cls:=.type "list",data:=.seq (ts.map Qo).toArray m})(hlen:ts.length=vs.length)
  (hp:∀(j:Nat)(t:PK)(p:K×PL),ts[j]?=some t->vs[j]?=some p->uU knd s.heap t p) (nd:(vs.map (·.1)).Nodup) (hn:vs.length<=1000)
  (h:∀(h':P0)(tk:Nat),(∀b o,s.heap.get? b=some o->h'.get? b=some o)->h'.DictOf knd s.heap.objs.size vs->Q (.ref s.heap.objs.size) {s with heap:=h',toks:=tk}):
  PQ (model prog w) A (call (.type "dict") [.ref l]) Q E s:=by
 obtain⟨m,hl⟩:=hl
 refine callType_codes (Q₁:=fun obj s₁=>obj=.ref s.heap.objs.size/\s₁={s with heap:=s.heap.push {cls:=.type "dict",data:=.dict #[]}}) XF (Wz _) Xf (kt_code_dict_new _ ⟨rfl,rfl⟩) ?_
 rintro obj s₁ ⟨rfl,rfl⟩
 have hnew:(s.heap.push {cls:=.type "dict",data:=.dict #[]}).DictOf knd s.heap.objs.size []:=VY s.heap
 have hl1:(s.heap.push {cls:=.type "dict",data:=.dict #[]}).get? l=some {cls:=.type "list",data:=.seq (ts.map Qo).toArray m}:=Qr _ hl
 exists hnew.typeIs,XS _ _
 unfold RD.«dict.__init__»
 refine PR ?_
 unfold Xa
 refine PR (wpAny_notOrdered_dict hnew.typeIs ?_)
 show PQ _ _ (pure (s.heap.objs.size,[Qo l])) _ _ _
 refine Qh ?_
 show PQ _ _ (Uz "dict.__init__" s.heap.objs.size (.ref l) [] .none) _ _ _
 unfold Uz
 refine PR (UU (T:="list") ⟨_,hl1,rfl⟩ ?_)
 rw[if_pos (by decide)]
 refine PR (GJ hl1 rfl rfl rfl hh fun h2 tk2 k2=>?_)
 simp only[W0,if_true]
 refine PR (wpAny_rule ?_)
 have hl2:h2.IsList l (ts.map Qo).toArray:=⟨_,k2 _ _ hl1,rfl,m,rfl⟩
 refine PR (U0 hl2 ?_)
 have hdlt:s.heap.objs.size<h2.objs.size:=by
  obtain⟨o,_,_,ho,_⟩:=hnew
  exact Ql (k2 _ _ ho)
 have hllt:l<h2.objs.size:=Ql (k2 _ _ hl1)
 have hls:l<s.heap.objs.size:=Ql hl
 have keep:∀b o,s.heap.get? b=some o->(h2.push {cls:=.type "list_iterator",data:=.fields #[.ref l,.int 0 0]}).get? b=some o:=fun b o e=>Qr _ (k2 _ _ (Qr _ e))
 have hsz:(ts.map Qo).toArray.size=vs.length:=by simp[hlen]
 have htl:∀t∈ts,t<s.heap.objs.size:=fun t ht=>by
  obtain⟨j,hj,e⟩:=Tw ht
  obtain⟨o,_,_,h1,_⟩:=hp j t vs[j] (by rw[Qj hj,e]) (Qj (by omega))
  exact Ql h1
 refine Qh ⟨plainId_quiet eW _,?_⟩
 refine EG (knd:=knd) ((WE (A:=A.in1.in1) hh h2.objs.size l (Qt hllt) (ts.map Qo).toArray).toS) s.heap.objs.size (by simp only[Qb,Rb,or_false,not_or];exact⟨Qt hdlt,Rp hls⟩)
  vs ts .none hsz.symm (by rw[hsz,hlen]) (fun i v hv=>?_) (fun t ht=>⟨Qt (htl t ht),fun z=>?_⟩) (by rw[hsz];exact hn) nd _ 0 _ rfl (Q3 _) ⟨⟨_,Qz _ rfl,rfl,rfl⟩,hl2.push _⟩ (fun j t p e1 e2=>?_) ?_ fun s' hm hD=>?_
 ·have hv:(ts.map Qo).toArray[i]?=some v:=hv
  rw[List.getElem?_toArray,Sg]at hv
  cases e:ts[i]? with
  |none=>rw[e]at hv;cases hv
  |some t=>rw[e]at hv;exact⟨t,rfl,(QX hv).symm⟩
 ·rw[QR.mp z]at ht
  exact Xe hdlt (htl _ ht)
 ·obtain⟨o,key,m',h1,h3⟩:=hp j t p e1 e2
  exact⟨o,key,m',keep _ _ h1,h3⟩
 ·obtain⟨o,es,ep,ho,r⟩:=hnew
  exact⟨o,es,ep,Qr _ (k2 _ _ ho),r⟩
 ·rw[Moved.eq_with hm]
  refine⟨rfl,h s'.heap s'.toks (fun b o e=>hm.heap b o (fun z=>?_) (keep b o e)) hD⟩
  have hb:=Ql e
  rcases Qb.mp z with z|z
  ·rw[z]at hb;exact RB _ hb
  ·rw[QR.mp z]at hb;exact Xe hdlt hb
end
noncomputable def Jz(K:PM):List V->Hp->VK->Prop:=fun xs H Q=>∃(l:PK)(ts:List PK)(kvs:List (Key×V)),xs=[.ref l]/\H l=some (.lst (ts.map V.ref))/\Qd (fun (p:Key×V) t=>kZ K H t [kV p.1,p.2]) kvs ts/\(kvs.map (·.1)).Nodup/\kvs.length<=1000/\
 ∀d,H d=none->Q (.ref d) (upd H d (.dK kvs))
section
variable {X:Cx}
theorem Fc:∀{ts:List PK}{its:List PL},bR (ts.map V.ref) its->its=ts.map Qo
 |[],_,.nil=>rfl
 |t::ts,_,.cons h r=>by
  cases(show _=Qo t from h)
  rw[Fc r];rfl
theorem D8(hc:X.calm=true):fw X (.type "dict") (Jz X.K):=by
 intro pins s σ H xs us Q I r h
 obtain⟨l,ts,kvs,rfl,hl,hp,nd,hn,q⟩:=h
 obtain⟨u,rfl,ru⟩:=vals1 r
 cases ru
 obtain⟨z,its,m,rv,hg⟩:=(show c9 X.prog X.w H s.heap l (.lst (ts.map V.ref))from I.hok l _ hl)
 have ei:=Fc rv
 subst ei
 have hl':kvs.length=ts.length:=Qv hp
 have go:∀(ks:List (Key×V))(bs:List PK),Qd (fun (p:Key×V) t=>kZ X.K H t [kV p.1,p.2]) ks bs->∃vs:List (Key×PL),KV ks vs/\∀(j:Nat)(t:PK)(p:Key×PL),bs[j]?=some t->vs[j]?=some p->uU (aX X.prog X.w) s.heap t p:=by
  intro ks bs hpr
  induction hpr with
  |nil=>exact⟨[],.nil,fun j t p e=>by simp at e⟩
  |@cons p t ks bs hq _ ih=>
   obtain⟨vs,h1,h2⟩:=ih
   obtain⟨its,rv,⟨o,e1,e2,n,e3⟩,_⟩:=I.tuple hq
   cases rv with
   |@cons _ key _ _ rk rr=>
   cases rr with
   |@cons _ x _ _ rx rr=>
   cases rr
   refine⟨(p.1,x)::vs,.cons ⟨rfl,rx⟩ h1,fun j t' p' f1 f2=>?_⟩
   cases j with
   |zero=>
    simp at f1 f2
    subst f1;subst f2
    exact⟨o,key,n,e1,e2,e3,tP rk⟩
   |succ j=>exact h2 j t' p' (by simpa using f1) (by simpa using f2)
 obtain⟨vs,hkv,hpa⟩:=go kvs ts hp
 have hvl:kvs.length=vs.length:=Qv hkv
 have ek:vs.map (·.1)=kvs.map (·.1):=by
  clear hpa hvl go hp q nd hn hl' hl
  induction hkv with
  |nil=>rfl
  |cons h _ ih=>rw[Qu,Qu,ih,h.1]
 refine uz (knd:=aX X.prog X.w) (I.ok.hd hc) ⟨m,hg⟩ (by omega) hpa (by rw[ek];exact nd) (by omega) fun h' tk k' dd=>?_
 refine⟨.ref s.heap.objs.size,_,I.laid (t':=tk) (a:=s.heap.objs.size) (o:=.dK kvs) k' (Qe _) (xt (P6 hn (by decide)) (beq_eq_false_iff_ne.mpr (Qy (Qt I.big))) hkv dd),rfl,q _ (I.hok.fresh (Qe _))⟩
end
section
variable {X:Cx}{pins pins0:List (PK×PV)}{σ σ0:List (Option V)}{H H0:Hp}{s s0:PN}{d:PK}{u u' u0:HO}{o:PV}
theorem Inv.retag(I:Inv X pins σ H s)(hd:H d=some u)(h1:∀a,u≠.own a)(h2:∀xs,u≠.tup xs)(b1:∀xs,X.H₀ d≠some (.tup xs))(b2:∀o v,X.H₀ d≠some (.frz o v))(b3:∀ps,X.H₀ d≠some (.tbl ps))
  (new:c9 X.prog X.w (upd H d u') s.heap d u'):Inv X pins σ (upd H d u') s:=by
 have ne:∀{b:PK},H b=none->b≠d:=fun h z=>by rw[z,hd]at h;cases h
 refine⟨I.ok,I.os,I.bare,⟨I.base.keep,I.base.slot,fun b ob q n hx=>?_,I.base.there,fun b xs q=>?_,fun b ob w q=>?_,fun b ps q=>?_⟩,I.loc,I.cell,?_,fun x c e=>?_,fun p hp=>?_,fun b w q=>?_,I.len⟩
 ·have:=I.base.free b ob q n hx
  rw[ak (ne this)];exact this
 ·rw[ak (fun z=>b1 xs (by rw[<-z];exact q))];exact I.base.tups b xs q
 ·rw[ak (fun z=>b2 ob w (by rw[<-z];exact q))];exact I.base.frzs b ob w q
 ·rw[ak (fun z=>b3 ps (by rw[<-z];exact q))];exact I.base.tbls b ps q
 ·rw[ak (ne I.free)];exact I.free
 ·rw[ak (ne (I.freeC x c e))];exact I.freeC x c e
 ·obtain⟨a1,a2,a3⟩:=I.pin p hp
  exact⟨a1,by rw[ak (ne a2)];exact a2,a3⟩
 ·by_cases hb:b=d
  ·subst hb
   rw[ax]at q
   cases q
   exact new
  ·rw[ak hb]at q
   refine(I.hok b w q).stay (fun c v _ q'=>q') (fun c q'=>?_) fun c xs q'=>?_
   ·rw[ak (fun z=>by rw[z,hd]at q';exact h1 b (QX q'))];exact q'
   ·rw[ak (fun z=>by rw[z,hd]at q';exact h2 xs (QX q'))];exact q'
theorem Inv.base_dK{kvs:List (Key×V)}(I:Inv X pins σ H s)(hd:H d=some (.dK kvs)):(∀xs,X.H₀ d≠some (.tup xs))/\(∀o v,X.H₀ d≠some (.frz o v))/\∀ps,X.H₀ d≠some (.tbl ps):=by
 refine⟨fun xs z=>?_,fun o v z=>?_,fun ps z=>?_⟩
 ·have:=I.base.tups d xs z;rw[hd]at this;cases this
 ·have:=I.base.frzs d o v z;rw[hd]at this;cases this
 ·obtain⟨m,this⟩:=I.base.tbls d ps z;rw[hd]at this;cases this
theorem Inv.freeze{kvs:List (Key×V)}(I:Inv X pins σ H s)(hd:H d=some (.dK kvs))(ho:s.heap.get? d=some o):Inv X pins σ (upd H d (.frz o (.dK kvs))) s:=by
 obtain⟨b1,b2,b3⟩:=I.base_dK hd
 exact I.retag hd (fun a z=>nomatch z) (fun xs z=>nomatch z) b1 b2 b3 ⟨ho,(show c9 X.prog X.w H s.heap d (.dK kvs)from I.hok d _ hd)⟩
theorem Inv.thaw{kvs kvs0:List (Key×V)}(I0:Inv X pins0 σ0 H0 s0)(h0:H0 d=some (.dK kvs0))(I:Inv X pins σ H s)(hd:H d=some (.frz o (.dK kvs))):Inv X pins σ (upd H d (.dK kvs)) s:=by
 obtain⟨b1,b2,b3⟩:=I0.base_dK h0
 exact I.retag hd (fun a z=>nomatch z) (fun xs z=>nomatch z) b1 b2 b3 (show c9 X.prog X.w H s.heap d (.frz o (.dK kvs))from I.hok d _ hd).2
end
noncomputable def OP(d:PK)(o:PV)(kvs:List (Key×V)):It:=
 ⟨fun i H=>H d=some (.frz o (.dK kvs))/\i<kvs.length,fun i H x H'=>∃T p,x=.ref T/\H T=none/\kvs[i]?=some p/\H'=upd H T (.tup [kV p.1,p.2]),fun i H=>H d=some (.frz o (.dK kvs))/\kvs.length<=i⟩
theorem jP{X:Cx}{pins:List (PK×PV)}{σ:List (Option V)}{H:Hp}{s:PN}{d:PK}{o:PV}{kvs:List (Key×V)}{es:Array RQ}{ep:Nat}(I:Inv X pins σ H s)(hd:H d=some (.frz o (.dK kvs)))(ho:o.data=.dict es ep):
  ∃vs,KV kvs vs/\s.heap.DictAt (aX X.prog X.w) d vs ep:=by
 obtain⟨hg,_,_,vs,rel,o',es',ep',h1,h2,h3,h4⟩:=(show c9 X.prog X.w H s.heap d (.frz o (.dK kvs))from I.hok d _ hd)
 rw[hg]at h1
 cases h1
 rw[ho]at h3
 cases h3
 exact⟨vs,rel,o,es,hg,h2,ho,h4⟩
theorem EC{P:Qc}{w:P8}{K:PM}{elts:List PY}{x1}{pos:Qi}(d it:PK)(o:PV)(es:Array RQ)(ep:Nat)(ho:o.data=.dict es ep)(kvs:List (Key×V))(hne:d≠it):
  Turn P w K (.Tuple elts x1 pos) (OP d o kvs) [it] it (fun i h=>∃ok ov,IsItemIter h it d i kvs.length ep ok ov) where
 mem:=by simp
 obj:=fun i h st b hb=>by
  obtain⟨ok,ov,he⟩:=st
  have z:b=it:=by simpa using hb
  subst z
  exact⟨_,he,fun v z=>by
   have z':TU _=SI v:=z
   cases z'⟩
 keep:=fun i h h' st k=>by
  obtain⟨ok,ov,he⟩:=st
  exact⟨ok,ov,k it (by simp) _ he⟩
 item:=by
  intro X hP hw hK hc i pins s σ H E I hf st hg
  subst hP hw hK
  obtain⟨ok,ov,he⟩:=st
  obtain⟨hd,hi⟩:=hg
  obtain⟨vs,rel,hat⟩:=jP I hd ho
  have hlen:kvs.length=vs.length:=Qv rel
  obtain⟨g0,g1,g2,g3,g4,g5⟩:=hf it (by simp)
  have fT:H s.heap.objs.size=none:=I.fresh
  have hvi:vs[i]?=some vs[i]:=Qj (by omega)
  obtain⟨p,hp1,hp2,hp3⟩:=nE rel i _ hvi
  rw[hlen]at he
  refine wpAny_pyNext_items_item (k:=(vs[i]).1) (v:=(vs[i]).2) he hat hvi fun key h' hkey heo ht hsz hk=>⟨_,rfl,?_⟩
  refine wpAny_letOwnedTupleGo_items heo fun h2 he2 hs2=>?_
  have hs2:RY it h' h2:=hs2
  have heT:it≠s.heap.objs.size:=Qt (Ql he)
  have oldK:∀b o,b≠it->s.heap.get? b=some o->h2.get? b=some o:=fun b o h1 q=>hs2.extBut b o h1 (hk b o h1 q)
  have hT2:h2.get? s.heap.objs.size=some {cls:=.type "tuple",data:=.seq #[key,(vs[i]).2]}:=hs2.extBut _ _ (Qy heT) ht
  have neT:∀b o,s.heap.get? b=some o->b≠s.heap.objs.size:=fun b o q=>Qt (Ql q)
  have nH:∀b w',H b=some w'->b≠it:=fun b w' q z=>by rw[z,g0]at q;cases q
  have I2:Inv X pins σ (upd H s.heap.objs.size (.tup [kV p.1,p.2])) {s with heap:=h2,toks:=s.toks}:=by
   refine I.step (g':=s.gens) (d':=s.drawn) (t':=s.toks) (ch:=[it]) (fun b hb=>?_) (fun b o _ _ hb q _=>?_) (fun b o _ _ hb q _=>?_) (fun b o _ q n=>?_) (fun b o hb q=>?_)
    (fun b ys q=>?_) (fun b o w' q=>?_) (fun b ps q=>?_) (fun m hm=>?_) (fun b w' q=>?_) I.bare
   ·have z:b=it:=by simpa using hb
    subst z;exact⟨g3,g1,g4,g5⟩
   ·exact oldK b o (fun z=>hb (by simp[z])) q
   ·exact⟨o.slots,oldK b o (fun z=>hb (by simp[z])) q⟩
   ·rw[ak (neT b o q)];exact n
   ·exact⟨o,oldK b o (fun z=>hb (by simp[z])) q⟩
   ·rw[ak (bc q fT)];exact q
   ·rw[ak (bc q fT)];exact q
   ·exact⟨#[],by rw[ak (bc q fT),q];simp⟩
   ·obtain⟨o,es,ep,ho,r⟩:=hm
    exact⟨o,es,ep,oldK _ o (Qy g1) ho,r⟩
   ·by_cases hb:b=s.heap.objs.size
    ·subst hb
     rw[ax]at q
     cases q
     exact⟨by show 2<=PZ;decide,[key,(vs[i]).2],.cons (by rw[hp2];exact vU hkey) (.cons hp3 .nil),_,hT2,rfl,_,rfl⟩
    ·rw[ak hb]at q
     refine(I.hok b w' q).stay (fun c v hc q'=>oldK c v ?_ q') (fun c q'=>?_) fun c ys q'=>?_
     ·rcases hc with z|z
      ·rw[z];exact nH b w' q
      ·exact nH c _ z
     ·rw[ak (bc q' fT)];exact q'
     ·rw[ak (bc q' fT)];exact q'
  refine⟨.ref s.heap.objs.size,_,I2,rfl,⟨s.heap.objs.size,p,rfl,fT,hp1,rfl⟩,⟨key,(vs[i]).2,?_⟩,fun b hb=>?_⟩
  ·rw[hlen];exact he2
  ·have z:b=it:=by simpa using hb
   rw[z,ak heT];exact g0
 done:=by
  intro X hP hw hK hc i pins s σ H E I hf st hg
  subst hP hw hK
  obtain⟨ok,ov,he⟩:=st
  obtain⟨hd,hi⟩:=hg
  obtain⟨vs,rel,hat⟩:=jP I hd ho
  have hlen:kvs.length=vs.length:=Qv rel
  obtain⟨g0,g1,g2,g3,g4,g5⟩:=hf it (by simp)
  rw[hlen]at he
  refine wpAny_pyNext_items_end (I.ok.hd hc) he hat (SF (by omega)) fun h' eb=>⟨rfl,I.turned (t':=s.toks) (fun b o hb e'=>eb b o hb e') g0 g1 g3 g4 g5⟩
 self:=fun A i s Q E st h=>by
  obtain⟨ok,ov,he⟩:=st
  have hT:s.TypeIs (.ref it) "dict_itemiterator":=⟨_,he,rfl⟩
  refine wpAny_pyIter_slot hT Xp (Ta Xp hT kcp_entry ?_ (Z7 _))
  show PQ _ _ (ret (.ref it)) _ _ s
  exact Qh ⟨_,rfl,"dict_itemiterator",_,hT,aaG.lookup,h⟩
section
variable {X:Cx}
noncomputable def vp(td:TE):TI:=fun σ H R=>td σ H fun x H1=>∃(d:PK)(kvs:List (Key×V)),x=.ref d/\H1 d=some (.dK kvs)/\∀(o:PV)(v:PK),H1 v=none->v≠d->R (OP d o kvs) (upd (upd H1 v (y8 v d)) d (.frz o (.dK kvs)))
theorem CK{e:PY}{td:TE}{elts:List PY}{x1}{apos cpos pt:Qi}(he:PE X e td)
  (hbase:SO e "items" X.env (eval e X.env)=eval e X.env:=by rfl) (hline:(apos.endLine==cpos.line)=true:=by rfl):
  PI X (.Tuple elts x1 pt) (.Call (.Attribute e "items" apos) [] [] cpos) (vp td):=by
 intro pins s σ H R I h
 refine wpAny_Call_method0_late hbase hline (cI (he pins s σ H _ I h) fun v s1 ⟨x,H1,I1,r1,d,kvs,ex,hd,q1⟩=>?_)
 subst ex
 cases(show v=Qo d from r1)
 obtain⟨z,hdS,vs,rel,dd⟩:=gB I1.hok (.inl hd)
 have hlen:kvs.length=vs.length:=Qv rel
 have h2:∀a,Qo d=.ref a->∃ob,s1.heap.get? a=some ob/\ob.dict=none:=fun a e=>by
  cases e
  obtain⟨o,_,_,ho,hex,_⟩:=id dd
  exact⟨o,ho,hex.2.1⟩
 refine⟨"dict","dict.items",UJ,WJ,Zj,dd.typeIs,h2,TQ rfl (VI ?_)⟩
 refine TV WJ dd.typeIs YR (Zn _) (meets_dict_items (aX X.prog X.w) d hdS) ⟨⟨vs,dd⟩,?_⟩
 have fV:H1 s1.heap.objs.size=none:=I1.hok.fresh (Qe _)
 have hdlt:d<s1.heap.objs.size:=I1.hok.lt hd
 have IV:Inv X pins σ (upd H1 s1.heap.objs.size (y8 s1.heap.objs.size d)) {s1 with heap:=s1.heap.push {cls:=.type "dict_items",data:=.fields #[.ref d]},toks:=s1.toks}:=
  I1.laid (t':=s1.toks) (fun b u e=>Qr _ e) (Qe _) ⟨⟨_,Qz _ rfl,rfl,rfl⟩,⟨_,Qz _ rfl⟩,fun h1 h2 x k=>by
   obtain⟨o,ho,r⟩:=x
   exact⟨o,k o ho,r⟩⟩
 have hd':upd H1 s1.heap.objs.size (y8 s1.heap.objs.size d) d=some (.dK kvs):=by rw[ak (Qt hdlt)];exact hd
 obtain⟨o,es,ep,ho,hex,hdat,r⟩:=id dd
 have ho1:(s1.heap.push {cls:=.type "dict_items",data:=.fields #[.ref d]}).get? d=some o:=Qr _ ho
 have IF:=IV.freeze hd' ho1
 have hat:(s1.heap.push {cls:=.type "dict_items",data:=.fields #[.ref d]}).DictAt (aX X.prog X.w) d vs ep:=⟨o,es,ho1,hex,hdat,r⟩
 show PQ _ _ (pyIter (.ref s1.heap.objs.size)) _ _ _
 refine wpAny_pyIter_items (knd:=aX X.prog X.w) (d:=d) ⟨_,Qz _ rfl,rfl,rfl⟩ hat ?_
 have hsz:s1.heap.objs.size<(s1.heap.push {cls:=.type "dict_items",data:=.fields #[.ref d]}).objs.size:=by rw[Rx];exact U9 _
 refine⟨_,[_],_,OP d o kvs,_,rfl,IF.kept (t':=s1.toks) (fun b u e=>Qr _ e),EC d _ o es ep hdat kvs (Qt (UB hdlt hsz)),⟨.none,.none,?_⟩,fun b hb=>?_,q1 o _ fV (Rp hdlt)⟩
 ·rw[hlen]
  exact Qz _ rfl
 ·have zb:b=(s1.heap.push {cls:=.type "dict_items",data:=.fields #[.ref d]}).objs.size:=by simpa using hb
  subst zb
  exact IF.fpOk (Qe _) (IF.hok.fresh (Qe _))
noncomputable def gR(te:TE):TE:=fun σ H Q=>∃(d:PK)(kvs0:List (Key×V)),H d=some (.dK kvs0)/\te σ H fun v H'=>∃o kvs,H' d=some (.frz o (.dK kvs))/\Q v (upd H' d (.dK kvs))
theorem uW{e:PY}{te:TE}(he:PE X e te):PE X e (gR te):=by
 intro pins s σ H Q I h
 obtain⟨d,kvs0,hd,q⟩:=h
 refine cI (he pins s σ H _ I q) fun v s1 ⟨x,H1,I1,r1,o,kvs,hf,q1⟩=>?_
 exact⟨x,_,Inv.thaw I hd I1 hf,r1,q1⟩
end
section
variable {X:Cx}
noncomputable def Oq(t:TE):TT:=fun σ H Q=>t σ H fun x H1=>∃a kvs,x=.ref a/\H1 a=some (.dK kvs)/\Q (!kvs.isEmpty) H1
theorem Dm{e:PY}{t:TE}(h:PE X e t)(he:∀whole,isTrue e X.env whole=(do let v <-whole;standAt e.pos;holding [v] (truthy v)):=by intro _;rfl):PT X e (Oq t):=by
 intro pins s σ H Q I hw
 refine isTrue_plain (cI (h pins s σ H _ I hw) fun v s1 ⟨x,H1,I1,r1,q1⟩=>?_) (he _)
 obtain⟨a,kvs,rfl,hd,q⟩:=q1
 cases r1
 exact LI I1 (.inl hd) fun s' I'=>⟨H1,I',q⟩
noncomputable def xo:List V->Hp->VK->Prop:=fun xs H Q=>∃a kvs,xs=[V.ref a]/\H a=some (.dK kvs)/\Q (.int kvs.length) H
theorem iL:fw X (.builtin "len") xo:=GK
end
section
variable {K:PM}{σ:St}{H:Hp}{Q:VK}{D:Ends}{R:Hp->Prop}{ta td ty tv:TE}{t:TA}{f m n:PH}{sp:Sp}{E:XK}{C c d dx:PK}{fs:List (PH×V)}{v y:V}{kvs:List (Key×V)}
noncomputable def NN(K:PM)(f:PH)(Q:VK):VK:=fun x H1=>∃a C dx fs v,x=.ref a/\H1 a=some (.ins C dx fs)/\gT K C/\df K C f/\fs.lookup f=some v/\Q v H1
theorem N2(h:ta σ H (NN K f Q)):c7 K ta f σ H Q:=h
theorem bW(h:H c=some (.ins C dx fs))(cl:gT K C)(na:df K C f)(l:fs.lookup f=some v)(q:Q v H):NN K f Q (.ref c) H:=⟨c,C,dx,fs,v,rfl,h,cl,na,l,q⟩
noncomputable def NR(K:PM)(f:PH)(y:V)(R:Hp->Prop):VK:=fun x H2=>∃a C dx fs,x=.ref a/\H2 a=some (.ins C dx fs)/\gT K C/\df K C f/\fs.length<1000/\R (upd H2 a (.ins C dx (cj f y fs)))
theorem MM(h:tv σ H fun y H1=>ta σ H1 (NR K f y (D.nx σ))):rG K ta tv f D σ H:=h
theorem ma(h:H c=some (.ins C dx fs))(cl:gT K C)(na:df K C f)(l:fs.length<1000)(q:R (upd H c (.ins C dx (cj f y fs)))):NR K f y R (.ref c) H:=⟨c,C,dx,fs,rfl,h,cl,na,l,q⟩
noncomputable def N9(K:PM)(f:PH)(tv:TE)(rd:V->V->Hp->VK->Prop)(σ:St)(R:Hp->Prop):VK:=fun x H1=>∃a C dx fs v,x=.ref a/\H1 a=some (.ins C dx fs)/\gT K C/\df K C f/\fs.lookup f=some v/\
 tv σ H1 fun y H2=>rd v y H2 fun z H3=>∃dx' fs',H3 a=some (.ins C dx' fs')/\fs'.length<1000/\R (upd H3 a (.ins C dx' (cj f z fs')))
theorem Ng{rd:V->V->Hp->VK->Prop}(h:ta σ H (N9 K f tv rd σ (D.nx σ))):ju K ta tv rd f D σ H:=h
theorem zA{rd:V->V->Hp->VK->Prop}(h:H c=some (.ins C dx fs))(cl:gT K C)(na:df K C f)(l:fs.lookup f=some v)
  (q:tv σ H fun y H2=>rd v y H2 fun z H3=>∃dx' fs',H3 c=some (.ins C dx' fs')/\fs'.length<1000/\R (upd H3 c (.ins C dx' (cj f z fs')))):N9 K f tv rd σ R (.ref c) H:=⟨c,C,dx,fs,v,rfl,h,cl,na,l,q⟩
noncomputable def Kx(C:PK)(m:PH)(sp:Sp)(E:XK)(t:TA)(σ:St)(Q:VK):VK:=fun x H1=>∃a dx fs,x=.ref a/\H1 a=some (.ins C dx fs)/\fs.lookup m=none/\t σ H1 fun vs H2=>sp (x::vs) H2 Q E
theorem Na(h:ta σ H (Kx C m sp E t σ Q)):cD C m sp [] E ta t σ H Q:=by
 have e:(fun x H1=>∃a dx fs,x=V.ref a/\H1 a=some (HO.ins C dx fs)/\fs.lookup m=none/\t σ H1 fun vs H2=>sp (x::(vs++[])) H2 Q E)=Kx C m sp E t σ Q:=by
  unfold Kx
  simp only[Um]
 show ta σ H (fun x H1=>∃a dx fs,x=V.ref a/\H1 a=some (HO.ins C dx fs)/\fs.lookup m=none/\t σ H1 fun vs H2=>sp (x::(vs++[])) H2 Q E)
 rw[e]
 exact h
theorem cC(h:H c=some (.ins C dx fs))(l:fs.lookup m=none)(q:t σ H fun vs H2=>sp (.ref c::vs) H2 Q E):Kx C m sp E t σ Q (.ref c) H:=⟨c,dx,fs,rfl,h,l,q⟩
theorem EM(h:∀x dx,H x=none->H dx=none->dx≠x->sp [.ref x] (upd (upd H dx (.own x)) x (.ins C dx [])) (fun v H2=>v=.non/\Q (.ref x) H2) E):yW C sp [] E az σ H Q:=h
noncomputable def Pw(Q:VK)(x y:V)(H:Hp):Prop:=∃a v,x=.ref a/\pH H a y (some v)/\Q v H
theorem Mj(h:td σ H fun x H1=>ty σ H1 fun y H2=>Pw Q x y H2):FG td ty σ H Q:=h
theorem JL(h:H d=some (.dK kvs))(l:gL kvs (.inr n)=some v)(q:Q v H):Pw Q (.ref d) (.str n) H:=⟨d,v,rfl,by rw[<-l];exact pH.k (k:=.inr n) h,q⟩
noncomputable def Pr(v:V)(R:Hp->Prop)(x y:V)(H:Hp):Prop:=∃a H4,x=.ref a/\GG H a y v H4/\R H4
theorem Nf(h:tv σ H fun v H1=>td σ H1 fun x H2=>ty σ H2 fun y H3=>Pr v (D.nx σ) x y H3):FJ td ty tv D σ H:=h
theorem Ij(h:H d=some (.dK kvs))(l:kvs.length<PZ)(q:R (upd H d (.dK (putK kvs (.inr n) v)))):Pr v R (.ref d) (.str n) H:=⟨d,_,rfl,GG.k (k:=.inr n) h l,q⟩
noncomputable def M5(Q:VK)(neg:Bool)(y x:V)(H:Hp):Prop:=∃a o,x=.ref a/\pH H a y o/\Q (.bl (o.isSome != neg)) H
theorem Of(h:ty σ H fun y H1=>td σ H1 fun x H2=>M5 Q false y x H2):Nd ty td σ H Q:=by
 have e:(fun y H1=>td σ H1 fun x H2=>M5 Q false y x H2)=fun y H1=>td σ H1 fun x H2=>∃a o,x=.ref a/\pH H2 a y o/\Q (.bl o.isSome) H2:=by
  unfold M5
  simp only[T7]
 rw[e]at h
 exact h
theorem MC(h:ty σ H fun y H1=>td σ H1 fun x H2=>M5 Q true y x H2):uV ty td σ H Q:=by
 have e:(fun y H1=>td σ H1 fun x H2=>M5 Q true y x H2)=fun y H1=>td σ H1 fun x H2=>∃a o,x=.ref a/\pH H2 a y o/\Q (.bl (!o.isSome)) H2:=by
  unfold M5
  simp only[TJ]
 rw[e]at h
 exact h
theorem FD{neg:Bool}(h:H d=some (.dK kvs))(q:Q (.bl ((gL kvs (.inr n)).isSome != neg)) H):M5 Q neg (.str n) (.ref d) H:=⟨d,_,rfl,pH.k (k:=.inr n) h,q⟩
noncomputable def OY(ty:TE)(σ:St)(Q:VK):VK:=fun x H1=>∃a,x=.ref a/\Pn H1 a/\ty σ H1 fun y H2=>∃kvs k v,H2 a=some (.dK kvs)/\y=kV k/\gL kvs k=some v/\Q v (upd H2 a (.dK (q0 kvs k)))
theorem OA(h:td σ H (OY ty σ Q)):z9 td ty σ H Q:=h
theorem Oo{R:Bool->Hp->Prop}(h:td σ H fun x H1=>∃a kvs,x=.ref a/\H1 a=some (.dK kvs)/\R (!kvs.isEmpty) H1):Oq td σ H R:=h
theorem vi(h:H d=some (.dK kvs))(q:Q (.int kvs.length) H):xo [.ref d] H Q:=⟨d,kvs,rfl,h,q⟩
theorem IJ(h:∀p H1,H p=none->av H H1->H1 p=some (.dK [])->Q (.ref p) H1):AR σ H Q:=fun p hp=>h p _ hp (av.updN hp) ax
end
theorem eV{α β γ:Type}{F:β->γ->Prop}{f:α->β}:∀{xs:List α}{ys:List γ},Qd (fun x y=>F (f x) y) xs ys->Qd F (xs.map f) ys
 |_,_,.nil=>.nil
 |_,_,.cons h t=>.cons h (eV t)
theorem gx{α β:Type}{F:α->β->Prop}:∀{l₁:List α}{l₂:List β}{i:Nat}{a:α},Qd F l₁ l₂->l₁[i]?=some a->∃b,l₂[i]?=some b/\F a b
 |_,_,_,_,.nil,e=>by simp at e
 |_,_,0,_,.cons r _,e=>by simp at e;subst e;exact⟨_,rfl,r⟩
 |_,_,i+1,x,.cons _ t,e=>by
  obtain⟨u,h1,h2⟩:=gx (i:=i) (a:=x) t (by simpa using e)
  exact⟨u,by simpa using h1,h2⟩
section
variable {mp:List (Option Nat)}{g:TG}{tt:TT}{te:TE}{J:It}{P:Hp->Prop}{n:Nat}{f:Nat->St->St}{σ:St}{H:Hp}{Q:VK}
theorem nP(Y:Ys J g P n f)(st:Nat->St)(hf:∀i σ',(σ'=c5 mp σ\/∃j,σ'=st j)->f i σ'=st i)(hP:∀H',av H H'->P H')(hz:n<=PZ)(b:Nat->Bool)(row:Nat->List V)
  (ht:∀i,i<n->∀(H':Hp)(G:Bool->Hp->Prop),av H H'->(∀H'',av H' H''->G (b i) H'')->tt (st i) H' G)
  (he:∀i,i<n->b i=true->∀(H':Hp)(G:VK),av H H'->(∀a H'',H' a=none->av H' H''->H'' a=some (.tup (row i))->G (.ref a) H'')->te (st i) H' G)
  (hd:∀l bs H',H l=none->av H H'->H' l=some (.lst (bs.map V.ref))->Qd (fun i a=>H' a=some (.tup (row i))) ((P4 n).filter b) bs->Q (.ref l) H'):dq mp g tt te J σ H Q:=by
 refine gh Y st hf hP hz b (fun l i v H'=>∃a,v=.ref a/\a≠l/\H' a=some (.tup (row i))) (fun l i v H1 H2 s ⟨a,e,hl,h1⟩=>⟨a,e,hl,s a _ hl h1⟩) ht
  (fun l i hi hb H' G hl ⟨o,ho⟩ s k=>he i hi hb H' G s fun a H'' h0 s' h1=>k _ H'' ⟨a,rfl,(fun e=>by rw[e,ho]at h0;cases h0),h1⟩ s') fun l ys H' h0 s h1 pr=>?_
 obtain⟨bs,rfl,pr'⟩:=jt (T:=fun a i=>a≠l/\H' a=some (.tup (row i))) pr
 exact hd l bs H' h0 s h1 (Paired.mapP pr' fun _ _ q=>q.2)
end
theorem BV{K:PM}{d:PK}{o:PV}{kvs:List (Key×V)}(p r:Nat)(u v:Nat->V)(hu:∀i q,kvs[i]?=some q->kV q.1=u i/\q.2=v i):
  Ys (OP d o kvs) (fZ K 2 (bz (au p) (bz (au r) fS))) (fun H=>H d=some (.frz o (.dK kvs))) kvs.length (fun i σ=>(σ.set p (some (u i))).set r (some (v i))) where
 go:=fun i H hi h=>⟨h,hi⟩
 stop:=fun H h=>⟨h,Qe _⟩
 yld:=fun i H x H' σ Q hi h y q=>by
  obtain⟨T,w,rfl,hT,hw,rfl⟩:=y
  obtain⟨e1,e2⟩:=hu i w hw
  exists T,_,rfl,kZ.of ax,rfl,_,_,rfl,_,_,rfl,rfl
  have:=q _ (av.updN hT (o:=.tup [kV w.1,w.2]))
  rw[<-e1,<-e2]at this
  exact this
section
variable {K:PM}{mp:List (Option Nat)}{te td:TE}{σ:St}{H:Hp}{Q:VK}{d:PK}{kvs:List (Key×V)}
theorem Dp(htd:∀k:VK,k (.ref d) H->td σ H k)(hd:H d=some (.dK kvs))(hz:kvs.length<=PZ)(u v:Nat->V)(hu:∀i q,kvs[i]?=some q->kV q.1=u i/\q.2=v i)
  (st:Nat->St) (hf:∀i σ',(σ'=c5 mp σ\/∃j,σ'=st j)->(σ'.set 0 (some (u i))).set 1 (some (v i))=st i) (row:Nat->List V)
  (he:∀i,i<kvs.length->∀(H':Hp)(G:VK),(∀a H'',H' a=none->av H' H''->H'' a=some (.tup (row i))->G (.ref a) H'')->te (st i) H' G)
  (hq:∀l bs H2,H l=none->av H H2->H2 l=some (.lst (bs.map V.ref))->Qd (fun i a=>H2 a=some (.tup (row i))) (P4 kvs.length) bs->Q (.ref l) H2):
  gR (bP mp (vp td) (fZ K 2 (bz (au 0) (bz (au 1) fS))) du te) σ H Q:=by
 exists d,kvs,hd
 refine mS ?_
 refine htd _ ⟨d,kvs,rfl,hd,fun o w hw hne=>?_⟩
 have hl0:∀a,upd (upd H w (y8 w d)) d (.frz o (.dK kvs)) a=none->H a=none:=fun a ha=>by
  by_cases h1:a=d
  ·subst h1;rw[ax]at ha;cases ha
  ·rw[ak h1]at ha
   by_cases h2:a=w
   ·subst h2;exact hw
   ·rwa [ak h2]at ha
 refine nP (BV 0 1 u v hu) st hf (fun H' s=>s _ _ ax) hz (fun _=>true) row (fun i hi H' G s k=>k H' (av.refl _)) (fun i hi _ H' G _ k=>he i hi H' G k) fun l bs H' h0 s h1 pr=>?_
 rw[R7.mpr (fun _ _=>rfl)]at pr
 have hfd:H' d=some (.frz o (.dK kvs)):=s _ _ ax
 have hld:l≠d:=fun e=>by rw[e,ax]at h0;cases h0
 refine⟨o,kvs,hfd,hq l bs _ (hl0 l h0) (fun a x ha=>?_) (by rw[ak hld];exact h1) (Paired.mapP pr fun i a q=>?_)⟩
 ·by_cases h1:a=d
  ·subst h1
   rw[ax,<-hd];exact ha
  ·rw[ak h1]
   have hw2:a≠w:=fun e=>by rw[e,hw]at ha;cases ha
   exact s _ _ (by rw[ak h1,ak hw2];exact ha)
 ·rw[ak (fun e=>by rw[e,hfd]at q;cases q)];exact q
end
noncomputable def Oy(d:PK)(o:PV)(kvs:List (Key×V)):It:=
 ⟨fun i H=>H d=some (.frz o (.dK kvs))/\i<kvs.length,fun i H x H'=>H'=H/\∃p,kvs[i]?=some p/\x=kV p.1,fun i H=>H d=some (.frz o (.dK kvs))/\kvs.length<=i⟩
theorem Ho{P:Qc}{w:P8}{K:PM}{tg:PY}(d it:PK)(o:PV)(es:Array RQ)(ep:Nat)(ho:o.data=.dict es ep)(kvs:List (Key×V)):
  Turn P w K tg (Oy d o kvs) [it] it (fun i h=>h.IsKeyIter it d i kvs.length ep) where
 mem:=by simp
 obj:=fun i h st b hb=>by
  have z:b=it:=by simpa using hb
  subst z
  obtain⟨io,e,c,dt⟩:=st
  exact⟨io,e,fun v z=>by rw[dt]at z;cases z⟩
 keep:=fun i h h' st k=>by
  obtain⟨io,e,r⟩:=st
  exact⟨io,k it (by simp) io e,r⟩
 item:=by
  intro X hP hw hK hc i pins s σ H E I hf st hg
  subst hP hw hK
  obtain⟨hd,hi⟩:=hg
  obtain⟨vs,rel,hat⟩:=jP I hd ho
  have hlen:kvs.length=vs.length:=Qv rel
  obtain⟨f0,f1,f2,f3,f4,f5⟩:=hf it (by simp)
  have hvi:vs[i]?=some vs[i]:=Qj (by omega)
  obtain⟨p,hp1,hp2,hp3⟩:=nE rel i _ hvi
  have st':s.heap.IsKeyIter it d i vs.length ep:=by rw[<-hlen];exact st
  refine wpAny_pyNext_dict_item (knd:=aX X.prog X.w) (k:=(vs[i]).1) (v:=(vs[i]).2) st' hat hvi fun key h' hkey hit' sb=>?_
  have I1:Inv X pins σ H {s with heap:=h',toks:=s.toks}:=I.turned (t':=s.toks) (fun b o hb e=>(sb.2 b hb).trans e) f0 f1 f3 f4 f5
  obtain⟨io,e,c,dt⟩:=id hit'
  refine⟨_,rfl,B8 (s:={s with heap:=h'}) e c dt (by decide) ⟨kV p.1,H,I1,by rw[hp2];exact vU hkey,⟨rfl,p,hp1,rfl⟩,by rw[hlen];exact hit',fun b hb=>(hf b hb).1⟩⟩
 done:=by
  intro X hP hw hK hc i pins s σ H E I hf st hg
  subst hP hw hK
  obtain⟨hd,hi⟩:=hg
  obtain⟨vs,rel,hat⟩:=jP I hd ho
  have hlen:kvs.length=vs.length:=Qv rel
  obtain⟨f0,f1,f2,f3,f4,f5⟩:=hf it (by simp)
  have st':s.heap.IsKeyIter it d i vs.length ep:=by rw[<-hlen];exact st
  exact wpAny_pyNext_dict_end (knd:=aX X.prog X.w) (I.ok.hd hc) st' hat (SF (by omega)) fun h' eb=>⟨rfl,I.turned (t':=s.toks) (fun b o hb e'=>eb b o hb e') f0 f1 f3 f4 f5⟩
 self:=fun _ _ _ _ _ st h=>wpAny_pyIter_keyiter st h
section
variable {X:Cx}{tg:PY}
noncomputable def CJ(td:TE):TI:=fun σ H R=>td σ H fun x H1=>∃(d:PK)(kvs:List (Key×V)),x=.ref d/\H1 d=some (.dK kvs)/\∀(o:PV),R (Oy d o kvs) (upd H1 d (.frz o (.dK kvs)))
theorem E5{l:PY}{tl:TE}(hl:PE X l tl):PI X tg l (CJ tl):=by
 intro pins s σ H R I h
 refine cI (hl pins s σ H _ I h) fun v s1 ⟨x,H1,I1,r1,d,kvs,ex,hd,q1⟩=>?_
 subst ex
 cases(show v=Qo d from r1)
 obtain⟨z,hdS,vs,rel,dd⟩:=gB I1.hok (.inl hd)
 have hlen:kvs.length=vs.length:=Qv rel
 obtain⟨o,es,ep,ho,hex,hdat,r⟩:=id dd
 have IF:=I1.freeze hd ho
 have hat:s1.heap.DictAt (aX X.prog X.w) d vs ep:=⟨o,es,ho,hex,hdat,r⟩
 refine Up (knd:=aX X.prog X.w) hdS hat ?_
 refine⟨_,[_],_,Oy d o kvs,_,rfl,IF.kept (t':=s1.toks) (fun b u e=>Qr _ e),Ho d _ o es ep hdat kvs,⟨_,Qz _ rfl,rfl,by rw[hlen];rfl⟩,fun b hb=>?_,q1 o⟩
 have zb:b=s1.heap.objs.size:=by simpa using hb
 subst zb
 exact IF.fpOk (Qe _) (IF.hok.fresh (Qe _))
end
theorem Fl{d:PK}{o:PV}{kvs:List (Key×V)}(p:Nat)(u:Nat->V)(hu:∀i q,kvs[i]?=some q->kV q.1=u i):
  Ys (Oy d o kvs) (au p) (fun H=>H d=some (.frz o (.dK kvs))) kvs.length (fun i σ=>σ.set p (some (u i))) where
 go:=fun i H hi h=>⟨h,hi⟩
 stop:=fun H h=>⟨h,Qe _⟩
 yld:=fun i H x H' σ Q hi h y q=>by
  obtain⟨e,w,hw,ex⟩:=y
  subst e ex
  rw[hu i w hw]
  exact q _ (av.refl _)
section
variable {K:PM}{mp:List (Option Nat)}{tt:TT}{te td:TE}{σ:St}{H:Hp}{Q:VK}{d:PK}{kvs:List (Key×V)}
theorem F2(htd:∀k:VK,k (.ref d) H->td σ H k)(hd:H d=some (.dK kvs))(hz:kvs.length<=PZ)(u:Nat->V)(hu:∀i q,kvs[i]?=some q->kV q.1=u i)
  (st:Nat->St) (hf:∀i σ',(σ'=c5 mp σ\/∃j,σ'=st j)->σ'.set 0 (some (u i))=st i) (b:Nat->Bool) (F:Nat->V)
  (ht:∀i,i<kvs.length->∀(H':Hp)(G:Bool->Hp->Prop),eh d H H'->(∀H'',av H' H''->G (b i) H'')->tt (st i) H' G)
  (he:∀i,i<kvs.length->b i=true->∀(H':Hp)(G:VK),eh d H H'->(∀H'',av H' H''->G (F i) H'')->te (st i) H' G)
  (hq:∀l H2,H l=none->av H H2->H2 l=some (.lst (((P4 kvs.length).filter b).map F))->Q (.ref l) H2):
  gR (bP mp (CJ td) (au 0) tt te) σ H Q:=by
 exists d,kvs,hd
 refine mS ?_
 refine htd _ ⟨d,kvs,rfl,hd,fun o=>?_⟩
 have hl0:∀a,upd H d (.frz o (.dK kvs)) a=none->H a=none:=fun a ha=>by
  by_cases h1:a=d
  ·subst h1;rw[ax]at ha;cases ha
  ·rwa [ak h1]at ha
 have hx:∀H',av (upd H d (.frz o (.dK kvs))) H'->eh d H H':=fun H' s a x ha h=>s _ _ (by rw[ak ha];exact h)
 refine kQ (Fl 0 u hu) st hf (fun H' s=>s _ _ ax) hz b F (fun i hi H' G s k=>ht i hi H' G (hx H' s) k) (fun i hi hb H' G s k=>he i hi hb H' G (hx H' s) k) fun l H' h0 s h1=>?_
 have hfd:H' d=some (.frz o (.dK kvs)):=s _ _ ax
 have hld:l≠d:=fun e=>by rw[e,ax]at h0;cases h0
 refine⟨o,kvs,hfd,hq l _ (hl0 l h0) (fun a x ha=>?_) (by rw[ak hld];exact h1)⟩
 by_cases h1:a=d
 ·subst h1
  rw[ax,<-hd];exact ha
 ·rw[ak h1]
  exact hx H' s a x h1 ha
end
section
variable {X:Cx}
noncomputable def F1(K:PM)(neg:Bool):R2:=fun x y H Q=>∃(ds:List Qw)(d:Qw),eF K H y (.list ds)/\eF K H x d/\fQ 8 (.list ds)/\fQ 8 d/\Q (.bl ((ds.any fun y=>same y d) != neg)) H
theorem CB{ds:List Qw}{d:Qw}(h1:dW ds=true)(h2:nice d=true):(ds.any fun y=>PyData.eqv y d)=ds.any fun y=>same y d:=by
 induction ds with
 |nil=>rfl
 |cons a r ih=>
  rw[dW,QW]at h1
  rw[Sb,Sb,ih h1.2,SeqAt.same_eq_eqv a d (vE a d h1.1 h2)]
theorem Fv{ds:List Qw}(h:fQ 8 (.list ds)):dW ds=true/\SM ds<=8:=by
 obtain⟨h1,h2⟩:=h
 rw[nice]at h1
 rw[SW]at h2
 exact⟨h1,by omega⟩
theorem J6(hu:X.A.units+64<cLine):iz X (QO .In) (F1 X.K false):=by
 intro pins s σ H x y u v Q I rx ry h
 obtain⟨ds,d,h1,h2,n1,n2,q⟩:=h
 obtain⟨as,a⟩:=fA I h1 ry
 obtain⟨bs,b⟩:=fA I h2 rx
 obtain⟨m1,m2⟩:=Fv n1
 refine SeqAt.in_list_reads a b (gz ds m1) (rb d n2.1) (by have:=n2.2;omega) ?_
 rw[CB m1 n2.1]
 rw[T7]at q
 exact⟨.bl _,H,I,rfl,q⟩
theorem KJ(hu:X.A.units+64<cLine):iz X (QO .NotIn) (F1 X.K true):=by
 intro pins s σ H x y u v Q I rx ry h
 obtain⟨ds,d,h1,h2,n1,n2,q⟩:=h
 obtain⟨as,a⟩:=fA I h1 ry
 obtain⟨bs,b⟩:=fA I h2 rx
 obtain⟨m1,m2⟩:=Fv n1
 refine SeqAt.notIn_list_reads a b (gz ds m1) (rb d n2.1) (by have:=n2.2;omega) ?_
 rw[CB m1 n2.1]
 rw[TJ]at q
 exact⟨.bl _,H,I,rfl,q⟩
end
end L2
namespace L2
open PySem PySem.Spec PyProof.Rows PySem.W PySem.SeqAt PySem.MeetsSeq
open PySem.AutoSeq1 (wpAny_loadPart')
section
variable {X:Cx}
end
end L2
namespace L2
open PySem PySem.Spec PyProof.Rows PySem.W
section
variable {X:Cx}
noncomputable def HS:List V->Hp->VK->Prop:=fun xs H Q=>∃(d:PK)(kvs:List (Key×V)),xs=[.ref d]/\H d=some (.dK kvs)/\∀l,H l=none->Q (.ref l) (upd H l (.lst (kvs.map fun p=>kV p.1)))
theorem DS(hc:X.calm=true):fw X (.type "list") HS:=by
 intro pins s σ H xs us Q I r h
 obtain⟨d,kvs,rfl,hd,q⟩:=h
 obtain⟨u,rfl,ru⟩:=vals1 r
 cases ru
 obtain⟨z,hdS,vs,rel,dd⟩:=gB I.hok (.inl hd)
 obtain⟨ep,hat⟩:=dd.dictAt
 have hlen:kvs.length=vs.length:=Qv rel
 refine kdl_call (kdl_dict (knd:=aX X.prog X.w) (kvs:=vs) (ep:=ep) hdS) (I.ok.hd hc) hat (by rw[<-hlen];exact z) fun h' tk acc c hk hl hacc=>?_
 have hal:acc.toList.length=vs.length:=by rw[UE];exact hacc.1
 refine⟨.ref s.heap.objs.size,_,I.laid (t':=tk) (a:=s.heap.objs.size) (o:=.lst (kvs.map fun p=>kV p.1)) hk (Qe _) ⟨by rw[P7];exact z,acc.toList,c,?_,by rw[Vl];exact hl⟩,rfl,q _ (I.hok.fresh (Qe _))⟩
 refine mK (by rw[P7,hal,hlen]) fun i x u e1 e2=>?_
 obtain⟨k,y,hx,hkey⟩:=hacc.2 i u (by rw[<-Xv];exact e2)
 obtain⟨p,hp1,hp2,_⟩:=nE rel i _ hx
 rw[Sg,hp1]at e1
 cases e1
 show RelV (kV p.1) u
 rw[hp2]
 exact vU hkey
noncomputable def mU(v d:PK):HO:=.ext fun h=>h.IsValuesView v d
noncomputable def HJ:V->List V->Hp->VK->Prop:=fun x vs H Q=>∃(d:PK)(kvs:List (Key×V)),x=.ref d/\vs=[]/\H d=some (.dK kvs)/\∀v,H v=none->Q (.ref v) (upd H v (mU v d))
theorem KG:Pk X "dict.values" HJ:=by
 intro pins s σ H x xs v us Q I rx r h
 obtain⟨d,kvs,rfl,rfl,e,q⟩:=h
 cases r
 cases(show v=Qo d from rx)
 obtain⟨z,hd,vs,rel,dd⟩:=gB I.hok (.inl e)
 refine TV UR dd.typeIs Xh (Yi _) (meets_dict_values (aX X.prog X.w) d hd) ⟨⟨vs,dd⟩,?_⟩
 refine⟨.ref s.heap.objs.size,upd H s.heap.objs.size (mU s.heap.objs.size d),I.laid (t':=s.toks) (fun b u e=>Qr _ e) (Qe _) ⟨⟨_,Qz _ rfl,rfl,rfl⟩,⟨_,Qz _ rfl⟩,fun h1 h2 x k=>?_⟩,rfl,q _ (I.hok.fresh (Qe _))⟩
 obtain⟨o,ho,r⟩:=x
 exact⟨o,k o ho,r⟩
noncomputable def Ce:List V->Hp->VK->Prop:=fun xs H Q=>∃(v d:PK)(kvs:List (Key×V)),xs=[.ref v]/\H v=some (mU v d)/\H d=some (.dK kvs)/\∀l,H l=none->Q (.ref l) (upd H l (.lst (kvs.map (·.2))))
theorem A3(hc:X.calm=true):fw X (.type "list") Ce:=by
 intro pins s σ H xs us Q I r h
 obtain⟨v,d,kvs,rfl,hv,hd,q⟩:=h
 obtain⟨u,rfl,ru⟩:=vals1 r
 cases ru
 obtain⟨z,hdS,vs,rel,dd⟩:=gB I.hok (.inl hd)
 obtain⟨ep,hat⟩:=dd.dictAt
 have hlen:kvs.length=vs.length:=Qv rel
 have hvw:s.heap.IsValuesView v d:=(show c9 X.prog X.w H s.heap v (mU v d)from I.hok v _ hv).1
 refine kdl_call (kdl_values (knd:=aX X.prog X.w) (kvs:=vs) (ep:=ep)) (I.ok.hd hc) ⟨hvw,hat⟩ (by rw[<-hlen];exact z) fun h' tk acc c hk hl hacc=>?_
 have hal:acc.toList.length=vs.length:=by rw[UE];exact hacc.1
 refine⟨.ref s.heap.objs.size,_,I.laid (t':=tk) (a:=s.heap.objs.size) (o:=.lst (kvs.map (·.2))) hk (Qe _) ⟨by rw[P7];exact z,acc.toList,c,?_,by rw[Vl];exact hl⟩,rfl,q _ (I.hok.fresh (Qe _))⟩
 refine mK (by rw[P7,hal,hlen]) fun i x u e1 e2=>?_
 obtain⟨k,hx⟩:=hacc.2 i u (by rw[<-Xv];exact e2)
 obtain⟨p,hp1,hp2,hp3⟩:=nE rel i _ hx
 rw[Sg,hp1]at e1
 cases e1
 exact hp3
end
noncomputable def OH(d:PK)(o:PV)(kvs:List (Key×V)):It:=
 ⟨fun i H=>H d=some (.frz o (.dK kvs))/\i<kvs.length,fun i H x H'=>H'=H/\∃p,kvs[i]?=some p/\x=p.2,fun i H=>H d=some (.frz o (.dK kvs))/\kvs.length<=i⟩
theorem Gj{P:Qc}{w:P8}{K:PM}{tg:PY}(d it:PK)(o:PV)(es:Array RQ)(ep:Nat)(ho:o.data=.dict es ep)(kvs:List (Key×V)):
  Turn P w K tg (OH d o kvs) [it] it (fun i h=>h.IsValIter it d i kvs.length ep) where
 mem:=by simp
 obj:=fun i h st b hb=>by
  have z:b=it:=by simpa using hb
  subst z
  obtain⟨io,e,c,dt⟩:=st
  exact⟨io,e,fun v z=>by rw[dt]at z;cases z⟩
 keep:=fun i h h' st k=>by
  obtain⟨io,e,r⟩:=st
  exact⟨io,k it (by simp) io e,r⟩
 item:=by
  intro X hP hw hK hc i pins s σ H E I hf st hg
  subst hP hw hK
  obtain⟨hd,hi⟩:=hg
  obtain⟨vs,rel,hat⟩:=jP I hd ho
  have hlen:kvs.length=vs.length:=Qv rel
  obtain⟨f0,f1,f2,f3,f4,f5⟩:=hf it (by simp)
  have hvi:vs[i]?=some vs[i]:=Qj (by omega)
  obtain⟨p,hp1,hp2,hp3⟩:=nE rel i _ hvi
  have st':s.heap.IsValIter it d i vs.length ep:=by rw[<-hlen];exact st
  refine wpAny_pyNext_values_item (knd:=aX X.prog X.w) (k:=(vs[i]).1) (v:=(vs[i]).2) st' hat hvi fun h' hit' sb=>?_
  have I1:Inv X pins σ H {s with heap:=h',toks:=s.toks}:=I.turned (t':=s.toks) (fun b o hb e=>(sb.2 b hb).trans e) f0 f1 f3 f4 f5
  obtain⟨io,e,c,dt⟩:=id hit'
  refine⟨_,rfl,B8 (s:={s with heap:=h'}) e c dt (by decide) ⟨p.2,H,I1,hp3,⟨rfl,p,hp1,rfl⟩,by rw[hlen];exact hit',fun b hb=>(hf b hb).1⟩⟩
 done:=by
  intro X hP hw hK hc i pins s σ H E I hf st hg
  subst hP hw hK
  obtain⟨hd,hi⟩:=hg
  obtain⟨vs,rel,hat⟩:=jP I hd ho
  have hlen:kvs.length=vs.length:=Qv rel
  obtain⟨f0,f1,f2,f3,f4,f5⟩:=hf it (by simp)
  have st':s.heap.IsValIter it d i vs.length ep:=by rw[<-hlen];exact st
  exact wpAny_pyNext_values_end (knd:=aX X.prog X.w) (I.ok.hd hc) st' hat (SF (by omega)) fun h' eb=>⟨rfl,I.turned (t':=s.toks) (fun b o hb e'=>eb b o hb e') f0 f1 f3 f4 f5⟩
 self:=fun _ _ _ _ _ st h=>wpAny_pyIter_valiter st h
section
variable {X:Cx}{tg:PY}
noncomputable def HD(td:TE):TI:=fun σ H R=>td σ H fun x H1=>∃(d:PK)(kvs:List (Key×V)),x=.ref d/\H1 d=some (.dK kvs)/\∀(o:PV)(v:PK),H1 v=none->v≠d->R (OH d o kvs) (upd (upd H1 v (mU v d)) d (.frz o (.dK kvs)))
theorem Kl{e:PY}{td:TE}{apos cpos:Qi}(he:PE X e td)
  (hbase:SO e "values" X.env (eval e X.env)=eval e X.env:=by rfl) (hline:(apos.endLine==cpos.line)=true:=by rfl):
  PI X tg (.Call (.Attribute e "values" apos) [] [] cpos) (HD td):=by
 intro pins s σ H R I h
 refine wpAny_Call_method0_late hbase hline (cI (he pins s σ H _ I h) fun v s1 ⟨x,H1,I1,r1,d,kvs,ex,hd,q1⟩=>?_)
 subst ex
 cases(show v=Qo d from r1)
 obtain⟨z,hdS,vs,rel,dd⟩:=gB I1.hok (.inl hd)
 have hlen:kvs.length=vs.length:=Qv rel
 have h2:∀a,Qo d=.ref a->∃ob,s1.heap.get? a=some ob/\ob.dict=none:=fun a e=>by
  cases e
  obtain⟨o,_,_,ho,hex,_⟩:=id dd
  exact⟨o,ho,hex.2.1⟩
 refine⟨"dict","dict.values",UJ,UR,Yz,dd.typeIs,h2,TQ rfl (VI ?_)⟩
 refine TV UR dd.typeIs Xh (Yi _) (meets_dict_values (aX X.prog X.w) d hdS) ⟨⟨vs,dd⟩,?_⟩
 have fV:H1 s1.heap.objs.size=none:=I1.hok.fresh (Qe _)
 have hdlt:d<s1.heap.objs.size:=I1.hok.lt hd
 have IV:Inv X pins σ (upd H1 s1.heap.objs.size (mU s1.heap.objs.size d)) {s1 with heap:=s1.heap.push {cls:=.type "dict_values",data:=.fields #[.ref d]},toks:=s1.toks}:=
  I1.laid (t':=s1.toks) (fun b u e=>Qr _ e) (Qe _) ⟨⟨_,Qz _ rfl,rfl,rfl⟩,⟨_,Qz _ rfl⟩,fun h1 h2 x k=>by
   obtain⟨o,ho,r⟩:=x
   exact⟨o,k o ho,r⟩⟩
 have hd':upd H1 s1.heap.objs.size (mU s1.heap.objs.size d) d=some (.dK kvs):=by rw[ak (Qt hdlt)];exact hd
 obtain⟨o,es,ep,ho,hex,hdat,r⟩:=id dd
 have ho1:(s1.heap.push {cls:=.type "dict_values",data:=.fields #[.ref d]}).get? d=some o:=Qr _ ho
 have IF:=IV.freeze hd' ho1
 have hat:(s1.heap.push {cls:=.type "dict_values",data:=.fields #[.ref d]}).DictAt (aX X.prog X.w) d vs ep:=⟨o,es,ho1,hex,hdat,r⟩
 show PQ _ _ (pyIter (.ref s1.heap.objs.size)) _ _ _
 refine wpAny_pyIter_values (knd:=aX X.prog X.w) (d:=d) ⟨_,Qz _ rfl,rfl,rfl⟩ hat ?_
 refine⟨_,[_],_,OH d o kvs,_,rfl,IF.kept (t':=s1.toks) (fun b u e=>Qr _ e),Gj d _ o es ep hdat kvs,⟨_,Qz _ rfl,rfl,by rw[hlen];rfl⟩,fun b hb=>?_,q1 o _ fV (Rp hdlt)⟩
 have zb:b=(s1.heap.push {cls:=.type "dict_values",data:=.fields #[.ref d]}).objs.size:=by simpa using hb
 subst zb
 exact IF.fpOk (Qe _) (IF.hok.fresh (Qe _))
end
section
variable {prog:Qc}{w:P8}{κ:Type} [DecidableEq κ] {knd:KeyKind prog w κ}{A:Qg}{E:PL->PN->Prop}{s:PN}
theorem kG{it d:PK}{i ep:Nat}{kvs:List (κ×PL)}{k:κ}{v:PL}{Q:PL->PN->Prop}(st:s.heap.IsKeyIter it d i kvs.length ep)(hm:s.heap.DictAt knd d kvs ep)(hx:kvs[i]?=some (k,v))
  (q:∀key h',knd.is k key=true->h'.IsKeyIter it d (i+1) kvs.length ep->RY it s.heap h'->Q key {s with heap:=h'}):PQ (model prog w) A (R3 (.ref it)) Q E s:=by
 unfold R3
 exact PR (kdk_special st hm hx fun key h' h1 h2 h3=>Qh (q key h' h1 h2 h3))
theorem mW{it d:PK}{i ep:Nat}{kvs:List (κ×PL)}{Q:PL->PN->Prop}(hA:A.handled=none)(st:s.heap.IsKeyIter it d i kvs.length ep)(hm:s.heap.DictAt knd d kvs ep)(none_:kvs[i]?=none)
  (q:∀h' e,Heap.ExtBut it s.heap h'->(∃x,h'.get? e=some x/\x.cls=.type "StopIteration")->E (.ref e) {s with heap:=h'}):PQ (model prog w) A (R3 (.ref it)) Q E s:=by
 obtain⟨io,g1,g2,g3⟩:=id st
 obtain⟨od,es,k1,k2,k3,k4,k5,k6⟩:=id hm
 have len:es.size=kvs.length:=by have:=k5.length;simpa using this
 have past:es.size<=i:=by rw[len];exact List.getElem?_eq_none_iff.mp none_
 unfold R3
 refine PR (TH (name:=TN "__next__") st.typeIs XQ (Ta XQ st.typeIs ZS ?_ (Y6 _)))
 refine PR (Qh (PR (PR ?_)))
 first|refine PR (wpAny_typeNameOfWhole_keyiter st.typeIs (Qh (PR (wpAny_fieldsOf g1 g3 ?_))))|refine PR (wpAny_typeNameOf_keyiter st.typeIs (Qh (PR (wpAny_fieldsOf g1 g3 ?_))))
 rw[show Zk "dict_keyiterator"=false from by decide]
 simp only[Sw,if_false]
 show PQ _ _ (if(Qo d==Rf)=true then _ else _) _ _ s
 refine wpAny_ite_split (fun z=>absurd z QM) fun _=>PR (Qh (PR (wpAny_dictEntries k1 k3 ?_)))
 rw[if_neg (by rw[len];simp)]
 refine PR (Qh (PR (wpAny_dictEpoch k1 k3 ?_)))
 rw[if_neg (by simp)]
 refine Qh ?_
 simp only[show ¬(((i:Nat):Int)<0)from by omega,if_false,VA,Array.getElem?_eq_none past]
 refine PR ?_
 first|refine PR (wpAny_typeNameOfWhole_keyiter st.typeIs (Qh ?_))|refine PR (wpAny_typeNameOf_keyiter st.typeIs (Qh ?_))
 show PQ _ _ (setField (.ref it) 0 .none >>= _) _ _ s
 refine PR (wpAny_setField g1 g3 (by simp) ?_)
 show PQ _ _ (newExc (.type "StopIteration") [] >>= _) _ _ _
 refine PR ?_
 simp only[newExc,newTuple]
 refine PR (wpAny_newObj_type (PR (m:=firstArgMember _ _) (wpAny_of_eq (a:=Rf) (by first|rfl|(simp only[firstArgMember];rfl)) (wpAny_newObj_type ?_ (by size_fits)))) (by size_fits))
 simp only[raiseNew]
 refine PR (wpAny_handled ?_)
 first|rw[show A.in1.handled=none from hA]|rw[hA]
 exact PR (Qh (wpAny_throw (q _ _ (((Y2 ..).extBut.push _).push _) ⟨_,Qz _ rfl,rfl⟩)))
theorem u4(hA:A.handled=none)(it d:PK)(hne:d≠it)(kvs:List (κ×PL))(ep:Nat):
  Draws prog w A it [it,d] kvs.length (fun i v=>∃k x,kvs[i]?=some (k,x)/\knd.is k v=true) (fun i h=>h.IsKeyIter it d i kvs.length ep/\h.DictAt knd d kvs ep) where
 live:=fun _ _ st=>let ⟨o,ho,_⟩:=st.1;⟨o,ho⟩
 frame:=fun _ _ _ st hk=>⟨st.1.at fun o e=>hk it (by simp) o e,st.2.at' fun o e=>hk d (by simp) o e⟩
 item:=fun i s Q E hi st hQ=>by
  obtain⟨⟨k,x⟩,hx⟩:∃p,kvs[i]?=some p:=⟨kvs[i],by simp[hi]⟩
  exact kG st.1 st.2 hx fun key h' h1 h2 h3=>hQ key h' s.toks ⟨k,x,hx,h1⟩ ⟨h2,st.2.extBut h3.extBut hne⟩ h3
 done:=fun s Q E st hE=>mW hA st.1 st.2 (by simp) hE
noncomputable def oI(d:PK)(n ep:Nat):PV:={cls:=.type "dict_keyiterator",data:=.fields #[.ref d,.int 0 0,.int n 0,.int ep 0]}
noncomputable def z0(it:PK):PV:={cls:=.type "enumerate",data:=.fields #[.none,.bool false,.ref it,QQ 0,.none,.none]}
theorem xU(d:PK)(lo:(d==Ry)=false)(kvs:List (κ×PL))(ep:Nat):
  MeetsIn prog w (RD.«enumerate.__new__» ⟨[.type "enumerate",.ref d],[]⟩) (fun _ R s=>s.heap.DictAt knd d kvs ep/\R (.ok (.ret (.ref (s.heap.push (oI d kvs.length ep)).objs.size))) {s with heap:=(s.heap.push (oI d kvs.length ep)).push (z0 s.heap.objs.size)}):=by
 refine Yc fun A R s h=>?_
 obtain⟨hp,g,dr,tk,os⟩:=s
 obtain⟨hm,h⟩:=h
 have hsub:=sub_enumerate
 wp_walk
 refine wpAny_stack_any fun st=>Qh ?_
 split
 ·rename_i c _ _ _ _ _
  cases(c==VF "enumerate")
  ·wp_walk using(Up (knd:=knd) lo hm)
   exact⟨_,rfl,h⟩
  ·wp_walk using(Up (knd:=knd) lo hm)
   exact⟨_,rfl,h⟩
 ·wp_walk using(Up (knd:=knd) lo hm)
  exact⟨_,rfl,h⟩
end
noncomputable def Kp(d:PK)(o:PV)(kvs:List (Key×V)):It:=
 ⟨fun i H=>H d=some (.frz o (.dK kvs))/\i<kvs.length,fun i H x H'=>∃T p,x=.ref T/\H T=none/\kvs[i]?=some p/\H'=upd H T (.tup [.int i,kV p.1]),fun i H=>H d=some (.frz o (.dK kvs))/\kvs.length=i⟩
theorem EK{P:Qc}{w:P8}{K:PM}{elts:List PY}{x1}{pos:Qi}(d e it:PK)(o:PV)(es:Array RQ)(ep:Nat)(ho:o.data=.dict es ep)(kvs:List (Key×V))(hne:e≠it)(hdi:d≠it)(hde:d≠e):
  Turn P w K (.Tuple elts x1 pos) (Kp d o kvs) [e,it] e (fun i h=>(∃old,IsEnum h e it ((i:Nat):Int) old)/\h.IsKeyIter it d i kvs.length ep) where
 mem:=by simp
 obj:=fun i h st b hb=>by
  obtain⟨⟨old,he⟩,o,ho,hc,hd⟩:=st
  rcases Qb.mp hb with z|hb
  ·subst z
   exact⟨_,he,fun v z=>by
    have z':TU _=SI v:=z
    cases z'⟩
  ·have z:b=it:=by simpa using hb
   subst z
   exact⟨o,ho,fun v z=>by rw[hd]at z;cases z⟩
 keep:=fun i h h' st k=>by
  obtain⟨⟨old,he⟩,o,ho,r⟩:=st
  exact⟨⟨old,k e (by simp) _ he⟩,o,k it (by simp) _ ho,r⟩
 item:=by
  intro X hP hw hK hc i pins s σ H E I hf st hg
  subst hP hw hK
  obtain⟨⟨old,he⟩,hit⟩:=st
  obtain⟨hd,hi⟩:=hg
  obtain⟨vs,rel,hat⟩:=jP I hd ho
  have hlen:kvs.length=vs.length:=Qv rel
  have hit0:s.heap.IsKeyIter it d i vs.length ep:=by rw[<-hlen];exact hit
  obtain⟨f0,f1,f2,f3,f4,f5⟩:=hf e (by simp)
  obtain⟨g0,g1,g2,g3,g4,g5⟩:=hf it (by simp)
  have fT:H s.heap.objs.size=none:=I.fresh
  refine wpAny_pyNext_enum_itemD (u4 (knd:=aX X.prog X.w) (A:=X.A.in1) (I.ok.hd hc) it d hdi vs ep) he ⟨hit0,hat⟩ (by omega) hne (by simp[hne,Qy hde]) fun u h' tk hP heo hit' ht hsz hk=>⟨_,rfl,?_⟩
  obtain⟨k,y,hxy,hkey⟩:=hP
  obtain⟨p,hp1,hp2,_⟩:=nE rel i _ hxy
  have ru:RelV (kV p.1) u:=by rw[hp2];exact vU hkey
  refine wpAny_letOwnedTupleGo_enum heo fun h2 he2 hs2=>?_
  have hs2:RY e h' h2:=hs2
  have heT:e≠s.heap.objs.size:=Qt (Ql he)
  have oldK:∀b o,b≠e->b≠it->s.heap.get? b=some o->h2.get? b=some o:=fun b o h1 h2' q=>hs2.extBut b o h1 (hk b o h1 h2' q)
  have hT2:h2.get? s.heap.objs.size=some {cls:=.type "tuple",data:=.seq #[.int i tk,u]}:=hs2.extBut _ _ (Qy heT) ht
  have neT:∀b o,s.heap.get? b=some o->b≠s.heap.objs.size:=fun b o q=>Qt (Ql q)
  have nH:∀b w',H b=some w'->b≠e/\b≠it:=fun b w' q=>⟨fun z=>(by rw[z,f0]at q;cases q),fun z=>(by rw[z,g0]at q;cases q)⟩
  have I2:Inv X pins σ (upd H s.heap.objs.size (.tup [.int i,kV p.1])) {s with heap:=h2,toks:=tk+1}:=by
   refine I.step (g':=s.gens) (d':=s.drawn) (t':=tk+1) (ch:=[e,it]) (fun b hb=>?_) (fun b o _ _ hb q _=>?_) (fun b o _ _ hb q _=>?_) (fun b o _ q n=>?_) (fun b o hb q=>?_)
    (fun b ys q=>?_) (fun b o w' q=>?_) (fun b ps q=>?_) (fun m hm=>?_) (fun b w' q=>?_) I.bare
   ·rcases Qb.mp hb with z|hb
    ·subst z;exact⟨f3,f1,f4,f5⟩
    ·have z:b=it:=by simpa using hb
     subst z;exact⟨g3,g1,g4,g5⟩
   ·exact oldK b o (fun z=>hb (by simp[z])) (fun z=>hb (by simp[z])) q
   ·exact⟨o.slots,oldK b o (fun z=>hb (by simp[z])) (fun z=>hb (by simp[z])) q⟩
   ·rw[ak (neT b o q)];exact n
   ·exact⟨o,oldK b o (fun z=>hb (by simp[z])) (fun z=>hb (by simp[z])) q⟩
   ·rw[ak (bc q fT)];exact q
   ·rw[ak (bc q fT)];exact q
   ·exact⟨#[],by rw[ak (bc q fT),q];simp⟩
   ·obtain⟨o,es,ep,ho,r⟩:=hm
    exact⟨o,es,ep,oldK _ o (Qy f1) (Qy g1) ho,r⟩
   ·by_cases hb:b=s.heap.objs.size
    ·subst hb
     rw[ax]at q
     cases q
     exact⟨by show 2<=PZ;decide,[.int i tk,u],.cons ⟨_,rfl⟩ (.cons ru .nil),_,hT2,rfl,_,rfl⟩
    ·rw[ak hb]at q
     refine(I.hok b w' q).stay (fun c v hc q'=>oldK c v ?_ ?_ q') (fun c q'=>?_) fun c ys q'=>?_
     ·rcases hc with z|z
      ·rw[z];exact(nH b w' q).1
      ·exact(nH c _ z).1
     ·rcases hc with z|z
      ·rw[z];exact(nH b w' q).2
      ·exact(nH c _ z).2
     ·rw[ak (bc q' fT)];exact q'
     ·rw[ak (bc q' fT)];exact q'
  refine⟨.ref s.heap.objs.size,_,I2,rfl,⟨s.heap.objs.size,p,rfl,fT,hp1,rfl⟩,⟨⟨u,?_⟩,?_⟩,fun b hb=>?_⟩
  ·have e1:((i+1:Nat):Int)=(i:Int)+1:=by omega
   rw[e1];exact he2
  ·rw[hlen]
   exact hit'.1.at fun o e=>hs2.extBut _ _ (Qy hne) e
  ·have:b≠s.heap.objs.size:=by
    rcases Qb.mp hb with z|hb
    ·rw[z];exact heT
    ·have z:b=it:=by simpa using hb
     rw[z]
     obtain⟨o,ho,_⟩:=hit
     exact neT it o ho
   rw[ak this]
   exact(hf b hb).1
 done:=by
  intro X hP hw hK hc i pins s σ H E I hf st hg
  subst hP hw hK
  obtain⟨⟨old,he⟩,hit⟩:=st
  obtain⟨hd,hi⟩:=hg
  obtain⟨vs,rel,hat⟩:=jP I hd ho
  have hlen:kvs.length=vs.length:=Qv rel
  obtain⟨g0,g1,g2,g3,g4,g5⟩:=hf it (by simp)
  have hit0:s.heap.IsKeyIter it d i vs.length ep:=by rw[<-hlen];exact hit
  have en:i=vs.length:=by omega
  subst en
  exact wpAny_pyNext_enum_endD (u4 (knd:=aX X.prog X.w) (A:=X.A.in1) (I.ok.hd hc) it d hdi vs ep) he ⟨hit0,hat⟩ fun h' eb=>⟨rfl,I.turned (t':=s.toks) (fun b o hb e'=>eb b o hb e') g0 g1 g3 g4 g5⟩
 self:=fun A i s Q E st h=>by
  obtain⟨⟨old,he⟩,_⟩:=st
  exact UW he h
section
variable {X:Cx}
noncomputable def D9(td:TE):TI:=fun σ H R=>td σ H fun x H1=>∃(d:PK)(kvs:List (Key×V)),x=.ref d/\H1 d=some (.dK kvs)/\∀(o:PV),R (Kp d o kvs) (upd H1 d (.frz o (.dK kvs)))
theorem Ic{l:PY}{tl:TE}{elts:List PY}{x1}{p pos pt:Qi}(hg:Gl X "enumerate")(hm:X.mg "enumerate"=none)(hl:PE X l tl)(hs:Qf [l] X.env=[(false,eval l X.env)]:=by rfl):
  PI X (.Tuple elts x1 pt) (.Call (.Name "enumerate" p) [l] [] pos) (D9 tl):=by
 intro pins s σ H R I h
 refine Call_ (jC I hg hm boot_enumerate (Sy (cI (aa hl ag hs pos pins s σ H (fun vs H1=>∃x,vs=[x]/\∃(d:PK)(kvs:List (Key×V)),x=.ref d/\H1 d=some (.dK kvs)/\∀(o:PV),R (Kp d o kvs) (upd H1 d (.frz o (.dK kvs)))) I ?_) fun us s1 ⟨vs,H1,I1,r1,q1⟩=>?_) hs rfl))
 ·have e:(fun (x:V) (H1:Hp)=>∃y,[x]=[y]/\∃(d:PK)(kvs:List (Key×V)),y=V.ref d/\H1 d=some (HO.dK kvs)/\∀(o:PV),R (Kp d o kvs) (upd H1 d (.frz o (.dK kvs))))=fun x H1=>∃(d:PK)(kvs:List (Key×V)),x=.ref d/\H1 d=some (.dK kvs)/\∀(o:PV),R (Kp d o kvs) (upd H1 d (.frz o (.dK kvs))):=by
   funext x H1
   simp
  show tl σ H (fun (x:V) (H1:Hp)=>∃y,[x]=[y]/\∃(d:PK)(kvs:List (Key×V)),y=V.ref d/\H1 d=some (HO.dK kvs)/\∀(o:PV),R (Kp d o kvs) (upd H1 d (.frz o (.dK kvs))))
  rw[e]
  exact h
 ·obtain⟨x,rfl,d,kvs,rfl,hd,q⟩:=q1
  obtain⟨u,rfl,ru⟩:=vals1 r1
  cases ru
  obtain⟨z,hdS,vs,rel,dd⟩:=gB I1.hok (.inl hd)
  have hlen:kvs.length=vs.length:=Qv rel
  obtain⟨o,es,ep,ho,hex,hdat,r⟩:=id dd
  have IF:=I1.freeze hd ho
  have hat:s1.heap.DictAt (aX X.prog X.w) d vs ep:=⟨o,es,ho,hex,hdat,r⟩
  have hdlt:d<s1.heap.objs.size:=I1.hok.lt hd
  refine callType_newIn Z8 (by decide) (aam _) (Zt _) (fun obj=>aak obj _) ZC (xU (knd:=aX X.prog X.w) d hdS vs ep) ⟨hat,?_⟩
  have hz1:(s1.heap.push (oI d vs.length ep)).objs.size=s1.heap.objs.size+1:=Rx ..
  show _/\_
  rw[hz1]
  have he:IsEnum ((s1.heap.push (oI d vs.length ep)).push (z0 s1.heap.objs.size)) (s1.heap.objs.size+1) s1.heap.objs.size 0 .none:=by
   have:=Qz (s1.heap.push (oI d vs.length ep)) (o:=z0 s1.heap.objs.size) rfl
   rw[hz1]at this;exact this
  refine⟨⟨_,he,rfl⟩,UW he ?_⟩
  have hk:∀b u,s1.heap.get? b=some u->((s1.heap.push (oI d vs.length ep)).push (z0 s1.heap.objs.size)).get? b=some u:=fun b u e=>Qr _ (Qr _ e)
  refine⟨s1.heap.objs.size+1,[s1.heap.objs.size+1,s1.heap.objs.size],_,Kp d o kvs,_,rfl,IF.kept (t':=s1.toks) hk,EK d _ _ o es ep hdat kvs (W9 _) (Qt hdlt) (Qt (U6 hdlt)),⟨⟨.none,he⟩,⟨_,Qr _ (Qz _ rfl),rfl,by rw[hlen];rfl⟩⟩,fun b hb=>?_,q o⟩
  have hb':s1.heap.objs.size<=b:=by
   rcases Qb.mp hb with z|hb
   ·rw[z];exact RC _
   ·have z:b=s1.heap.objs.size:=by simpa using hb
    rw[z];exact Qe _
  exact IF.fpOk hb' (IF.hok.fresh hb')
end
theorem Jn{K:PM}{d:PK}{o:PV}{kvs:List (Key×V)}(p r:Nat)(u:Nat->V)(hu:∀i q,kvs[i]?=some q->kV q.1=u i):
  Ys (Kp d o kvs) (fZ K 2 (bz (au p) (bz (au r) fS))) (fun H=>H d=some (.frz o (.dK kvs))) kvs.length (fun i σ=>(σ.set p (some (.int i))).set r (some (u i))) where
 go:=fun i H hi h=>⟨h,hi⟩
 stop:=fun H h=>⟨h,rfl⟩
 yld:=fun i H x H' σ Q hi h y q=>by
  obtain⟨T,w,rfl,hT,hw,rfl⟩:=y
  exists T,_,rfl,kZ.of ax,rfl,_,_,rfl,_,_,rfl,rfl
  have:=q _ (av.updN hT (o:=.tup [.int i,kV w.1]))
  rw[<-hu i w hw]at this
  exact this
section
variable {prog:Qc}{w:P8}{κ:Type} [DecidableEq κ] {knd:KeyKind prog w κ}{A:Qg}{E:PL->PN->Prop}{s:PN}
variable {z TI TO i1 i2 d l:PK}{n ep:Nat}{kvs:List (κ×PL)}{ys:Array PL}{a b:PL}
noncomputable abbrev dZ(s:PN)(z TO i1 i2:PK)(h':P0):Prop:=∀c o,c≠z->c≠TO->c≠i1->c≠i2->s.heap.get? c=some o->h'.get? c=some o
theorem FW{k:κ}{v y:PL}{Q:PL->PN->Prop}(D:RG z TI TO i1 i2 d l)(hz:Rc s.heap z TI TO .none)(hTI:QE s.heap TI (.ref i1) (.ref i2))(hTO:QE s.heap TO a b)
  (h1:s.heap.IsKeyIter i1 d n kvs.length ep) (hd:s.heap.DictAt knd d kvs ep) (h2:s.heap.IsListIter i2 l n) (hl:s.heap.IsList l ys) (hx:kvs[n]?=some (k,v)) (hy:ys[n]?=some y)
  (q:∀x h',knd.is k x=true->Rc h' z TI TO (QQ s.heap.objs.size)->QE h' TO x y->h'.IsKeyIter i1 d (n+1) kvs.length ep->h'.IsListIter i2 l (n+1)->QE h' s.heap.objs.size x y->h'.objs.size=s.heap.objs.size+1->dZ s z TO i1 i2 h'->Q (.ref s.heap.objs.size) {s with heap:=h'}):
  PQ (model prog w) A (RD.«zip.__next__» ⟨[.ref z],[]⟩) (fun fin s'=>∃v,fin=.done (.ret v)/\Q v s') E s:=by
 show PQ _ _ (field (.ref z) 2 >>= _) _ _ _
 refine PR (Q1 hz rfl (x:=.bool false) rfl (PR (Q1 hz rfl (x:=.ref TI) rfl (PR (Sd hTI rfl (PR ?_))))))
 unfold UZ
 refine PR (Q1 hz rfl (x:=.none) rfl (Qh ?_))
 simp only[if_true]
 refine PR (wpAny_rule (PR (Q1 hz rfl (x:=.ref TO) rfl (PR (Tq hz (by simp) fun m1 z1 e1=>PR ?_)))))
 have z1:Rc m1 z TI TO .ellipsis:=z1
 simp only[WK,Wy,TF,Uh]
 refine PR (PR (wpAny_onRaise ?_))
 show PQ _ _ (R3 (.ref i1) >>= _) _ _ _
 refine PR (kG (knd:=knd) (h1.at fun o e=>e1.extBut _ _ D.i1z e) (hd.extBut e1.extBut D.l1z) hx fun x m2 hkey g1 e2=>Qh ?_)
 have t2:QE m2 TO a b:=e2.extBut _ _ D.TOi1 (e1.extBut _ _ D.TOz hTO)
 refine PR (Sd t2 rfl (PR (wpAny_updateSeq_pair t2 fun m3 t3 e3=>PR (wpAny_letGo (Qh (PR (PR (wpAny_onRaise ?_))))))))
 have t3:QE m3 TO x b:=t3
 show PQ _ _ (R3 (.ref i2) >>= _) _ _ _
 refine PR (W5 (h2.at fun o e=>e3.extBut _ _ D.TOi2.symm (e2.extBut _ _ D.i12.symm (e1.extBut _ _ D.i2z e))) (hl.at fun o e=>e3.extBut _ _ D.l2TO (e2.extBut _ _ D.l2i1 (e1.extBut _ _ D.l2z e))) hy fun m4 g2 e4=>Qh ?_)
 have t4:QE m4 TO x b:=e4.extBut _ _ D.TOi2 t3
 refine PR (Sd t4 rfl (PR (wpAny_updateSeq_pair t4 fun m5 t5 e5=>PR (wpAny_letGo (Qh (Qh ?_))))))
 have t5:QE m5 TO x y:=t5
 refine PR (Sd t5 rfl (PR (wpAny_newTuple ?_)))
 have sz:m5.objs.size=s.heap.objs.size:=by rw[e5.1,e4.1,e3.1,e2.1,e1.1]
 have z5:Rc m5 z TI TO .ellipsis:=e5.extBut _ _ D.TOz.symm (e4.extBut _ _ D.i2z.symm (e3.extBut _ _ D.TOz.symm (e2.extBut _ _ D.i1z.symm z1)))
 have old:∀c o,c≠z->c≠TO->c≠i1->c≠i2->s.heap.get? c=some o->m5.get? c=some o:=fun c o c1 c2 c3 c4 e=>e5.extBut _ _ c2 (e4.extBut _ _ c4 (e3.extBut _ _ c2 (e2.extBut _ _ c3 (e1.extBut _ _ c1 e))))
 have g1':m5.IsKeyIter i1 d (n+1) kvs.length ep:=g1.at fun o e=>e5.extBut _ _ D.TOi1.symm (e4.extBut _ _ D.i12 (e3.extBut _ _ D.TOi1.symm e))
 have g2':m5.IsListIter i2 l (n+1):=g2.at fun o e=>e5.extBut _ _ D.TOi2.symm e
 have zlt:z<m5.objs.size:=Ql z5
 show PQ _ _ (Yf (.ref z) (.ref m5.objs.size) >>= _) _ _ _
 refine PR ?_
 unfold Yf
 have z6:Rc (m5.push {cls:=.type "tuple",data:=.seq #[x,y]}) z TI TO .ellipsis:=Qr _ z5
 refine PR (Tq z6 (by simp) fun m7 z7 e7=>?_)
 have z7:Rc m7 z TI TO (QQ m5.objs.size):=z7
 refine Tq z7 (by simp) fun m8 z8 e8=>?_
 have z8:Rc m8 z TI TO (QQ m5.objs.size):=z8
 have lift:∀c o,c≠z->m5.get? c=some o->m8.get? c=some o:=fun c o c1 e=>e8.extBut _ _ c1 (e7.extBut _ _ c1 (Qr _ e))
 have t8:QE m8 m5.objs.size x y:=e8.extBut _ _ (Rp zlt) (e7.extBut _ _ (Rp zlt) (Qz _ rfl))
 have s8:m8.objs.size=m5.objs.size+1:=by rw[e8.1,e7.1,Rx]
 rw[sz]at z8 t8 s8
 refine Qh ⟨_,rfl,?_⟩
 show Q (.ref m5.objs.size) _
 rw[sz]
 exact q x m8 hkey z8 (lift _ _ D.TOz t5) (g1'.at fun o e=>lift _ o D.i1z e) (g2'.at fun o e=>lift _ o D.i2z e) t8 s8 fun c o c1 c2 c3 c4 e=>lift c o c1 (old c o c1 c2 c3 c4 e)
theorem IP{Q:Fin->PN->Prop}(hA:A.handled=none)(D:RG z TI TO i1 i2 d l)(hz:Rc s.heap z TI TO .none)(hTI:QE s.heap TI (.ref i1) (.ref i2))
  (h1:s.heap.IsKeyIter i1 d n kvs.length ep) (hd:s.heap.DictAt knd d kvs ep) (hx:kvs[n]?=none)
  (q:∀h' e,dZ s z TO i1 i2 h'->(∃o,h'.get? e=some o/\o.cls=.type "StopIteration")->E (.ref e) {s with heap:=h'}):PQ (model prog w) A (RD.«zip.__next__» ⟨[.ref z],[]⟩) Q E s:=by
 show PQ _ _ (field (.ref z) 2 >>= _) _ _ _
 refine PR (Q1 hz rfl (x:=.bool false) rfl (PR (Q1 hz rfl (x:=.ref TI) rfl (PR (Sd hTI rfl (PR ?_))))))
 unfold UZ
 refine PR (Q1 hz rfl (x:=.none) rfl (Qh ?_))
 simp only[if_true]
 refine PR (wpAny_rule (PR (Q1 hz rfl (x:=.ref TO) rfl (PR (Tq hz (by simp) fun m1 z1 e1=>PR ?_)))))
 have z1:Rc m1 z TI TO .ellipsis:=z1
 simp only[WK,Wy,TF,Uh]
 refine PR (PR (wpAny_onRaise ?_))
 show PQ _ _ (R3 (.ref i1) >>= _) _ _ _
 refine PR (mW (knd:=knd) hA (h1.at fun o e=>e1.extBut _ _ D.i1z e) (hd.extBut e1.extBut D.l1z) hx fun m2 e e2 ⟨oe,he,hc⟩=>?_)
 have z2:Rc m2 z TI TO .ellipsis:=e2 _ _ D.i1z.symm z1
 have ez:e≠z:=fun x=>by subst x;rw[z2]at he;cases he;simp at hc
 exact Tq z2 (by simp) fun m3 _ e3=>q m3 e (fun c o c1 _ c3 _ x=>e3.extBut _ _ c1 (e2 _ _ c3 (e1.extBut _ _ c1 x))) ⟨oe,e3.extBut _ _ ez he,hc⟩
theorem oK{k:κ}{v y:PL}{Q:Option PL->PN->Prop}(D:RG z TI TO i1 i2 d l)(hz:Rc s.heap z TI TO .none)(hTI:QE s.heap TI (.ref i1) (.ref i2))(hTO:QE s.heap TO a b)
  (h1:s.heap.IsKeyIter i1 d n kvs.length ep) (hd:s.heap.DictAt knd d kvs ep) (h2:s.heap.IsListIter i2 l n) (hl:s.heap.IsList l ys) (hx:kvs[n]?=some (k,v)) (hy:ys[n]?=some y)
  (q:∀x h',knd.is k x=true->Rc h' z TI TO (QQ s.heap.objs.size)->QE h' TO x y->h'.IsKeyIter i1 d (n+1) kvs.length ep->h'.IsListIter i2 l (n+1)->QE h' s.heap.objs.size x y->h'.objs.size=s.heap.objs.size+1->dZ s z TO i1 i2 h'->Q (some (.ref s.heap.objs.size)) {s with heap:=h'}):
  PQ (model prog w) A (Rg (.ref z)) Q E s:=by
 have hT:s.TypeIs (.ref z) "zip":=⟨_,hz,rfl⟩
 unfold Rg
 exact PR (UY (TH (name:=TN "__next__") hT Sn (Ta Sn hT U8 (FW D hz hTI hTO h1 hd h2 hl hx hy fun x h' a0 a1 a2 a3 a4 a5 a6 a7=>Qh (q x h' a0 a1 a2 a3 a4 a5 a6 a7)) (UA _))))
theorem qP{Q:Option PL->PN->Prop}(hA:A.handled=none)(D:RG z TI TO i1 i2 d l)(hz:Rc s.heap z TI TO .none)(hTI:QE s.heap TI (.ref i1) (.ref i2))
  (h1:s.heap.IsKeyIter i1 d n kvs.length ep) (hd:s.heap.DictAt knd d kvs ep) (hx:kvs[n]?=none) (q:∀h',dZ s z TO i1 i2 h'->Q none {s with heap:=h'}):PQ (model prog w) A (Rg (.ref z)) Q E s:=by
 have hT:s.TypeIs (.ref z) "zip":=⟨_,hz,rfl⟩
 unfold Rg
 refine PR (UY (TH (name:=TN "__next__") hT Sn (Ta Sn hT U8 (IP (knd:=knd) (by first|exact hA|exact(show A.in1.handled=none from hA)) D hz hTI h1 hd hx fun h' e hk ⟨o,ho,hc⟩=>?_) (UA _))))
 exact PR (wpAny_isInstance (T:="StopIteration") (b:=true) ⟨o,ho,hc⟩ isSubtype_stop (Qh (q _ hk)))
end
noncomputable def OX(K:PM)(d l:PK)(o:PV)(kvs:List (Key×V)):It:=
 ⟨fun i H=>H d=some (.frz o (.dK kvs))/\∃ys y p,aY K H l ys/\ys[i]?=some y/\kvs[i]?=some p,
  fun i H x H'=>∃T p v,x=.ref T/\H T=none/\H'=upd H T (.tup [kV p.1,v])/\kvs[i]?=some p/\∀ys,aY K H l ys->ys[i]?=some v,
  fun i H=>H d=some (.frz o (.dK kvs))/\kvs.length=i⟩
theorem GV{P:Qc}{w:P8}{K:PM}{elts:List PY}{x1}{pos:Qi}(d l z TI TO i1 i2:PK)(o:PV)(es:Array RQ)(ep:Nat)(ho:o.data=.dict es ep)(kvs:List (Key×V))(D:RG z TI TO i1 i2 d l):
  Turn P w K (.Tuple elts x1 pos) (OX K d l o kvs) [z,TO,i1,i2,TI] z (fun i h=>Rc h z TI TO .none/\QE h TI (.ref i1) (.ref i2)/\(∃u v,QE h TO u v)/\h.IsKeyIter i1 d i kvs.length ep/\h.IsListIter i2 l i) where
 mem:=by simp
 obj:=fun i h st c hb=>by
  obtain⟨hz,hTI,⟨u,v,hTO⟩,⟨o1,ho1,hc1,hd1⟩,o2,ho2,hc2,hd2⟩:=st
  have hb':c=z\/c=TO\/c=i1\/c=i2\/c=TI:=by simpa using hb
  rcases hb' with rfl|rfl|rfl|rfl|rfl
  ·exact⟨_,hz,fun v q=>by have q':TU _=SI v:=q;cases q'⟩
  ·exact⟨_,hTO,fun v q=>by have q':V0 _ _=SI v:=q;cases q'⟩
  ·exact⟨o1,ho1,fun v q=>by rw[hd1]at q;cases q⟩
  ·exact⟨o2,ho2,fun v q=>by rw[hd2]at q;cases q⟩
  ·exact⟨_,hTI,fun v q=>by have q':V0 _ _=SI v:=q;cases q'⟩
 keep:=fun i h h' st k=>by
  obtain⟨hz,hTI,⟨u,v,hTO⟩,⟨o1,ho1,r1⟩,o2,ho2,r2⟩:=st
  exact⟨k z (by simp) _ hz,k TI (by simp) _ hTI,⟨u,v,k TO (by simp) _ hTO⟩,⟨o1,k i1 (by simp) _ ho1,r1⟩,o2,k i2 (by simp) _ ho2,r2⟩
 item:=by
  intro X hP hw hK hc i pins s σ H E I hf st hg
  subst hP hw hK
  obtain⟨hz,hTI,⟨u0,v0,hTO⟩,hi1,hi2⟩:=st
  obtain⟨hd,ys,y,p,hS2,hy,hp⟩:=hg
  obtain⟨vs,rel,hat⟩:=jP I hd ho
  have hlen:kvs.length=vs.length:=Qv rel
  have hi10:s.heap.IsKeyIter i1 d i vs.length ep:=by rw[<-hlen];exact hi1
  obtain⟨its2,rv2,pl2,hz2⟩:=I.list hS2
  obtain⟨v,hv,rv⟩:=rv2.get hy
  have hik:i<vs.length:=by rw[<-hlen];exact(QN.mp hp).1
  have hvi:vs[i]?=some ((vs[i]).1,(vs[i]).2):=Qj hik
  obtain⟨p',hp1,hp2,_⟩:=nE rel i _ hvi
  rw[hp]at hp1
  cases hp1
  have fT:H s.heap.objs.size=none:=I.fresh
  refine oK (knd:=aX X.prog X.w) D hz hTI hTO hi10 hat hi2 pl2.isList (y:=v) hvi (by simpa using hv) fun u h' hkey kz kTO k1 k2 hT hsz hk=>⟨_,rfl,?_⟩
  have ru:RelV (kV p.1) u:=by rw[hp2];exact vU hkey
  refine wpAny_letOwnedTupleGo_zip kz fun h2 kz2 hs2=>?_
  have hs2:RY z h' h2:=hs2
  have zT:z≠s.heap.objs.size:=Qt (Ql hz)
  have oldK:∀c o,c∉[z,TO,i1,i2,TI]->s.heap.get? c=some o->h2.get? c=some o:=fun c o hc q=>by
   have hc':¬(c=z\/c=TO\/c=i1\/c=i2\/c=TI):=by simpa using hc
   exact hs2.extBut c o (fun e=>hc' (.inl e)) (hk c o (fun e=>hc' (.inl e)) (fun e=>hc' (.inr (.inl e))) (fun e=>hc' (.inr (.inr (.inl e)))) (fun e=>hc' (.inr (.inr (.inr (.inl e))))) q)
  have hT2:h2.get? s.heap.objs.size=some {cls:=.type "tuple",data:=.seq #[u,v]}:=hs2.extBut _ _ (Qy zT) hT
  have neT:∀b o,s.heap.get? b=some o->b≠s.heap.objs.size:=fun b o q=>Qt (Ql q)
  have nH:∀b w',H b=some w'->b∉[z,TO,i1,i2,TI]:=fun b w' q hb=>by rw[(hf b hb).1]at q;cases q
  have I2:Inv X pins σ (upd H s.heap.objs.size (.tup [kV p.1,y])) {s with heap:=h2}:=by
   refine I.step (g':=s.gens) (d':=s.drawn) (t':=s.toks) (ch:=[z,TO,i1,i2,TI]) (fun b hb=>?_) (fun b o _ _ hb q _=>oldK b o hb q) (fun b o _ _ hb q _=>⟨o.slots,oldK b o hb q⟩) (fun b o _ q n=>?_) (fun b o hb q=>⟨o,oldK b o hb q⟩)
    (fun b ys' q=>?_) (fun b o w' q=>?_) (fun b ps q=>?_) (fun m hm=>?_) (fun b w' q=>?_) I.bare
   ·obtain⟨_,f1,_,f3,f4,f5⟩:=hf b hb
    exact⟨f3,f1,f4,f5⟩
   ·rw[ak (neT b o q)];exact n
   ·rw[ak (bc q fT)];exact q
   ·rw[ak (bc q fT)];exact q
   ·exact⟨#[],by rw[ak (bc q fT),q];simp⟩
   ·obtain⟨o,es,ep,ho,r⟩:=hm
    exact⟨o,es,ep,oldK _ o (fun q=>(hf _ q).2.1 rfl) ho,r⟩
   ·by_cases hb:b=s.heap.objs.size
    ·subst hb
     rw[ax]at q
     cases q
     exact⟨by show 2<=PZ;decide,[u,v],.cons ru (.cons rv .nil),_,hT2,rfl,_,rfl⟩
    ·rw[ak hb]at q
     refine(I.hok b w' q).stay (fun c v' hc q'=>oldK c v' ?_ q') (fun c q'=>?_) fun c ys' q'=>?_
     ·rcases hc with e|e
      ·rw[e];exact nH b w' q
      ·exact nH c _ e
     ·rw[ak (bc q' fT)];exact q'
     ·rw[ak (bc q' fT)];exact q'
  refine⟨.ref s.heap.objs.size,_,I2,rfl,⟨s.heap.objs.size,p,y,rfl,fT,rfl,hp,fun ys' hys=>?_⟩,⟨kz2,?_,⟨u,v,?_⟩,?_,?_⟩,fun b hb=>?_⟩
  ·rw[I.list_inj hys hS2];exact hy
  ·exact hs2.extBut _ _ D.TIz (hk _ _ D.TIz D.TITO D.TIi1 D.TIi2 hTI)
  ·exact hs2.extBut _ _ D.TOz kTO
  ·rw[hlen];exact k1.at fun o e=>hs2.extBut _ _ D.i1z e
  ·exact k2.extBut hs2.extBut D.i2z
  ·have:b≠s.heap.objs.size:=by
    have hb':b=z\/b=TO\/b=i1\/b=i2\/b=TI:=by simpa using hb
    obtain⟨o1,ho1,_⟩:=hi1
    obtain⟨o2,ho2,_⟩:=hi2
    rcases hb' with rfl|rfl|rfl|rfl|rfl
    ·exact zT
    ·exact neT _ _ hTO
    ·exact neT _ _ ho1
    ·exact neT _ _ ho2
    ·exact neT _ _ hTI
   rw[ak this]
   exact(hf b hb).1
 done:=by
  intro X hP hw hK hc i pins s σ H E I hf st hg
  subst hP hw hK
  obtain⟨hz,hTI,⟨u0,v0,hTO⟩,hi1,hi2⟩:=st
  obtain⟨hd,hi⟩:=hg
  obtain⟨vs,rel,hat⟩:=jP I hd ho
  have hlen:kvs.length=vs.length:=Qv rel
  have hi10:s.heap.IsKeyIter i1 d i vs.length ep:=by rw[<-hlen];exact hi1
  refine qP (knd:=aX X.prog X.w) (I.ok.hd hc) D hz hTI hi10 hat (SF (by omega)) fun h' hk=>⟨rfl,I.turnedL (t':=s.toks) (ch:=[z,TO,i1,i2,TI]) hf fun c o hc q=>?_⟩
  have hc':¬(c=z\/c=TO\/c=i1\/c=i2\/c=TI):=by simpa using hc
  exact hk c o (fun e=>hc' (.inl e)) (fun e=>hc' (.inr (.inl e))) (fun e=>hc' (.inr (.inr (.inl e)))) (fun e=>hc' (.inr (.inr (.inr (.inl e))))) q
 self:=fun A i s Q E st h=>Vs st.1 h
noncomputable def Ir(l:PK):PV:={cls:=.type "list_iterator",data:=.fields #[.ref l,.int 0 0]}
noncomputable def M8(h:P0)(d n ep:Nat):P0:=h.push (oI d n ep)
noncomputable def Mu(h:P0)(d n ep l:Nat):P0:=(M8 h d n ep).push (Ir l)
noncomputable def Mw(h:P0)(d n ep l:Nat):P0:=(Mu h d n ep l).push {cls:=.type "tuple",data:=.seq #[.ref h.objs.size,.ref (M8 h d n ep).objs.size]}
noncomputable def MW(h:P0)(d n ep l:Nat):P0:=(Mw h d n ep l).push {cls:=.type "tuple",data:=.seq #[.none,.none]}
noncomputable def O0(h:P0)(d n ep l:Nat):P0:=(MW h d n ep l).push {cls:=.type "zip",data:=.fields #[.none,.bool false,.bool false,.ref (Mu h d n ep l).objs.size,.ref (Mw h d n ep l).objs.size]}
section
variable {prog:Qc}{w:P8}{κ:Type} [DecidableEq κ] {knd:KeyKind prog w κ}{A:Qg}{E:PL->PN->Prop}{s:PN}
theorem HX(d l:PK)(lo:(d==Ry)=false)(kvs:List (κ×PL))(ep:Nat)(ys:Array PL):
  MeetsIn prog w (RD.«zip.__new__» ⟨[.type "zip",.ref d,.ref l],[]⟩) (fun _ R s=>s.heap.DictAt knd d kvs ep/\s.heap.IsList l ys/\R (.ok (.ret (.ref (MW s.heap d kvs.length ep l).objs.size))) {s with heap:=O0 s.heap d kvs.length ep l}):=by
 refine Yc fun A R s h=>?_
 obtain⟨hp,g,dr,tk,os⟩:=s
 obtain⟨hm,hl,h⟩:=h
 have hsub:=sub_zip
 have hL:Heap.IsList (Shared.heap ⟨hp.push (oI d kvs.length ep),g,dr,tk,os⟩) l ys:=Zf hl _
 unfold oI at hL
 wp_walk using(Up (knd:=knd) lo hm),(U0 hL)
 exact⟨_,rfl,h⟩
theorem zL{d l:PK}(lo:(d==Ry)=false){kvs:List (κ×PL)}{ep:Nat}{ys:Array PL}{Q:PL->PN->Prop}(hm:s.heap.DictAt knd d kvs ep)(hl:s.heap.IsList l ys)
  (q:∀h',Rc h' (s.heap.objs.size+4) (s.heap.objs.size+2) (s.heap.objs.size+3) .none->QE h' (s.heap.objs.size+2) (.ref s.heap.objs.size) (.ref (s.heap.objs.size+1))->QE h' (s.heap.objs.size+3) .none .none->h'.IsKeyIter s.heap.objs.size d 0 kvs.length ep->h'.IsListIter (s.heap.objs.size+1) l 0->
   (∀c o,s.heap.get? c=some o->h'.get? c=some o)->Q (.ref (s.heap.objs.size+4)) {s with heap:=h'}):PQ (model prog w) A (call (.type "zip") [.ref d,.ref l]) Q E s:=by
 refine callType_newIn ZX (by decide) (aaK _ _) (Zh _ _) (fun obj=>ZA obj _ _) ZT (HX (knd:=knd) d l lo kvs ep ys) ⟨hm,hl,?_⟩
 have a1:(M8 s.heap d kvs.length ep).objs.size=s.heap.objs.size+1:=Rx ..
 have a2:(Mu s.heap d kvs.length ep l).objs.size=s.heap.objs.size+2:=by unfold Mu;rw[Rx,a1]
 have a3:(Mw s.heap d kvs.length ep l).objs.size=s.heap.objs.size+3:=by unfold Mw;rw[Rx,a2]
 have a4:(MW s.heap d kvs.length ep l).objs.size=s.heap.objs.size+4:=by unfold MW;rw[Rx,a3]
 have b1:∀c o,s.heap.get? c=some o->(M8 s.heap d kvs.length ep).get? c=some o:=fun c o e=>Qr _ e
 have b2:∀c o,(M8 s.heap d kvs.length ep).get? c=some o->(Mu s.heap d kvs.length ep l).get? c=some o:=fun c o e=>Qr _ e
 have b3:∀c o,(Mu s.heap d kvs.length ep l).get? c=some o->(Mw s.heap d kvs.length ep l).get? c=some o:=fun c o e=>Qr _ e
 have b4:∀c o,(Mw s.heap d kvs.length ep l).get? c=some o->(MW s.heap d kvs.length ep l).get? c=some o:=fun c o e=>Qr _ e
 have b5:∀c o,(MW s.heap d kvs.length ep l).get? c=some o->(O0 s.heap d kvs.length ep l).get? c=some o:=fun c o e=>Qr _ e
 have g1:=b5 _ _ (b4 _ _ (b3 _ _ (b2 _ _ (Qz s.heap (o:=oI d kvs.length ep) rfl))))
 have g2:=b5 _ _ (b4 _ _ (b3 _ _ (Qz (M8 s.heap d kvs.length ep) (o:=Ir l) rfl)))
 have g3:=b5 _ _ (b4 _ _ (Qz (Mu s.heap d kvs.length ep l) (o:={cls:=.type "tuple",data:=.seq #[.ref s.heap.objs.size,.ref (M8 s.heap d kvs.length ep).objs.size]}) rfl))
 have g4:=b5 _ _ (Qz (Mw s.heap d kvs.length ep l) (o:={cls:=.type "tuple",data:=.seq #[.none,.none]}) rfl)
 have g5:(O0 s.heap d kvs.length ep l).get? (MW s.heap d kvs.length ep l).objs.size=some _:=Qz _ rfl
 rw[a1]at g2
 rw[a2,a1]at g3
 rw[a3]at g4
 rw[a4,a2,a3]at g5
 show _/\_
 rw[a4]
 exact⟨⟨_,g5,rfl⟩,q _ g5 g3 g4 ⟨_,g1,rfl,rfl⟩ ⟨_,g2,rfl,rfl⟩ fun c o e=>b5 _ _ (b4 _ _ (b3 _ _ (b2 _ _ (b1 _ _ e))))⟩
end
section
variable {X:Cx}
noncomputable def IZ(K:PM)(ta:TA):TI:=fun σ H R=>ta σ H fun vs H1=>∃(d l:PK)(kvs:List (Key×V)),vs=[.ref d,.ref l]/\H1 d=some (.dK kvs)/\(∃ys,aY K H1 l ys)/\d≠l/\∀(o:PV),R (OX K d l o kvs) (upd H1 d (.frz o (.dK kvs)))
theorem KO{a b:PY}{ta:TA}{elts:List PY}{x1}{p pos pt:Qi}(hg:Gl X "zip")(hm:X.mg "zip"=none)(ha:PA X [a,b] ta)(hs:Qf [a,b] X.env=(false,eval a X.env)::Qf [b] X.env:=by rfl)(hs2:(QF pos (Qf [b] X.env)).any (·.1)=false:=by rfl):
  PI X (.Tuple elts x1 pt) (.Call (.Name "zip" p) [a,b] [] pos) (IZ X.K ta):=by
 intro pins s σ H R I h
 refine Call_ (jC I hg hm boot_zip (Sy (cI (ha pos pins s σ H _ I h) fun us s1 ⟨vs,H1,I1,r1,q1⟩=>?_) hs hs2))
 obtain⟨d,l,kvs,e,hd,⟨ys,hS2⟩,hdl,q⟩:=q1
 subst e
 cases r1 with
 |cons r rr=>
  cases rr with
  |cons r' rr=>
   cases rr
   cases r
   cases r'
   obtain⟨z,hdS,vs,rel,dd⟩:=gB I1.hok (.inl hd)
   have hlen:kvs.length=vs.length:=Qv rel
   obtain⟨o,es,ep,ho,hex,hdat,r⟩:=id dd
   have IF:=I1.freeze hd ho
   have hat:s1.heap.DictAt (aX X.prog X.w) d vs ep:=⟨o,es,ho,hex,hdat,r⟩
   obtain⟨its2,rv2,pl2,hz2⟩:=I1.list hS2
   have lt1:d<s1.heap.objs.size:=I1.hok.lt hd
   have lt2:l<s1.heap.objs.size:=by obtain⟨o,e,_⟩:=pl2.isList;exact Ql e
   refine zL (knd:=aX X.prog X.w) hdS hat pl2.isList fun h' kz kTI kTO k1 k2 hk=>?_
   refine Vs kz ?_
   refine⟨s1.heap.objs.size+4,[s1.heap.objs.size+4,s1.heap.objs.size+3,s1.heap.objs.size,s1.heap.objs.size+1,s1.heap.objs.size+2],_,_,_,rfl,IF.kept (t':=s1.toks) hk,GV d l _ _ _ _ _ o es ep hdat kvs (Xi _ _ _ lt1 lt2),⟨kz,kTI,⟨_,_,kTO⟩,by rw[hlen];exact k1,k2⟩,fun c hc=>?_,q o⟩
   have hc':s1.heap.objs.size<=c:=by
    have hc':c=s1.heap.objs.size+4\/c=s1.heap.objs.size+3\/c=s1.heap.objs.size\/c=s1.heap.objs.size+1\/c=s1.heap.objs.size+2:=by simpa using hc
    rcases hc' with e|e|e|e|e
    ·rw[e];exact So _ _
    ·rw[e];exact So _ _
    ·rw[e];exact Qe _
    ·rw[e];exact So _ _
    ·rw[e];exact So _ _
   exact IF.fpOk hc' (IF.hok.fresh hc')
end
theorem KU{K:PM}{d l:PK}{o:PV}{kvs:List (Key×V)}{ys:List V}(p r:Nat)(u:Nat->V)(hu:∀i q,kvs[i]?=some q->kV q.1=u i)(hl:kvs.length<=ys.length):
  Ys (OX K d l o kvs) (fZ K 2 (bz (au p) (bz (au r) fS))) (fun H=>H d=some (.frz o (.dK kvs))/\aY K H l ys) kvs.length (fun i σ=>(σ.set p (some (u i))).set r (some (ys.getD i .non))) where
 go:=fun i H hi h=>⟨h.1,ys,ys[i]'(by omega),kvs[i],h.2,Qj (by omega),Qj hi⟩
 stop:=fun H h=>⟨h.1,rfl⟩
 yld:=fun i H x H' σ Q hi h y q=>by
  obtain⟨T,w,v,rfl,hT,rfl,hw,hv⟩:=y
  have e:ys.getD i .non=v:=by simp[Qm,hv ys h.2]
  exists T,_,rfl,kZ.of ax,rfl,_,_,rfl,_,_,rfl,rfl
  have:=q _ (av.updN hT (o:=.tup [kV w.1,v]))
  rw[<-hu i w hw,e]at this
  exact this
theorem oZ:TY (.type "zip") "keys"=pure none:=by rw[Wg,builtinLookup_eq_fast];kernel_rfl
theorem sy:TY (.type "zip") "__getattr__"=pure none:=by rw[Wg,builtinLookup_eq_fast];kernel_rfl
theorem kO:entryFor table "zip.__getattribute__"=some RD.«object.__getattribute__»:=
 entryFor_alias (id':="object.__getattribute__") (by kernel_rfl) (by decide +kernel) (by decide +kernel) (by kernel_rfl)
theorem xF(a:PK)(xs:Array PL)(sl:Array (Option PL))(u:Tok):
  Meets (RD.«object.__getattribute__» ⟨[.ref a,.str "keys" u],[]⟩) (fun A R s=>s.heap.get? a=some {cls:=.type "zip",dict:=none,data:=.fields xs,slots:=sl}/\raisesAttr (.ref a) "keys" A R s):=
 Meets.of_wp fun prog w A R s hs=>by
  obtain⟨hp,g,d,tk,os⟩:=s
  obtain⟨hx,hs⟩:=hs
  have hT:(⟨hp,g,d,tk,os⟩:PN).TypeIs (.ref a) "zip":=⟨_,hx,rfl⟩
  have hmiss:=oZ
  have hname:(["__module__","__name__","__qualname__","__doc__","__annotations__"]:List PH).contains "keys"=false:=by decide +kernel
  unfold RD.«object.__getattribute__»
  repeat (any_goals (first|assumption|wp_step))
  exact wpAny_raiseAttrError hs.1 hs.2 (attrMsg_fits (by decide +kernel) (by size_fits))
section
variable {prog:Qc}{w:P8}{A:Qg}{E:PL->PN->Prop}{s:PN}
theorem Du{a:PK}{o:PV}{xs:Array PL}{Q:Option PL->PN->Prop}(hx:s.heap.get? a=some o)(hc:o.cls=.type "zip")(hdat:o.data=.fields xs)(hd:o.dict=none)(hA:A.handled=none)
  (h:∀h' tk,(∀b o,s.heap.get? b=some o->h'.get? b=some o)->Q none {s with heap:=h',toks:=tk}):PQ (model prog w) A (getAttr? (.ref a) "keys") Q E s:=by
 obtain⟨c,dct,dat,sl⟩:=o
 simp only at hc hdat hd
 subst hc hdat hd
 obtain⟨hp,g,d,tk,os⟩:=s
 have hT:∀tk',(⟨hp,g,d,tk',os⟩:PN).TypeIs (.ref a) "zip":=fun _=>⟨_,hx,rfl⟩
 have f1:=sub_AttributeError
 have f3:=Wa.lookup
 have f4:=Wa.bind (.ref a)
 have f5:=sy
 have f6:=oZ
 unfold getAttr? getAttrBy? getAttrBy
 repeat (any_goals (first|assumption|exact hT _|((with_reducible show PQ _ _ (call (Tt "zip.__getattribute__") _ _) _ _ _);refine RL Wa (hT _) kO (YQ _ _) (xF a xs sl _) ⟨hx,hA,fun h' tk' e hx'=>?_⟩)|wp_step))
 obtain⟨t',u',he⟩:=hx'.there
 show PQ _ _ (U2 _ _ _ _ _ _ _) _ _ _
 unfold U2
 repeat (any_goals (first|assumption|wp_step))
 exact h _ _ hx'.keeps
end
noncomputable abbrev jE(h:P0)(z TI TO:PK)(f0:PL)(f:Bool):Prop:=h.get? z=some {cls:=.type "zip",data:=.fields #[f0,.bool f,.bool false,.ref TI,.ref TO]}
section
variable {prog:Qc}{w:P8}{κ:Type} [DecidableEq κ] {knd:KeyKind prog w κ}{A:Qg}{E:PL->PN->Prop}{s:PN}
variable {z TI TO i1 i2 d l T:PK}{n ep:Nat}{kvs:List (κ×PL)}{ys:Array PL}{f:Bool}{oT:PV}
theorem y0{Q:Bool->PN->Prop}(hz:jE s.heap z TI TO (QQ T) f)(hT:s.heap.get? T=some oT)(q:∀h',jE h' z TI TO (QQ T) true->RY z s.heap h'->Q false {s with heap:=h'}):
  PQ (model prog w) A (UZ (.ref z)) Q E s:=by
 unfold UZ
 refine PR (Q1 hz rfl (x:=QQ T) rfl ?_)
 show PQ _ _ (loadIfAlive ((T:Int).toNat) >>= _) _ _ _
 rw[VA]
 refine PR (kdx_alive hT ?_)
 simp only[Option.isNone_some,Sw,if_false]
 refine PR (Q1 hz rfl (x:=.bool f) rfl ?_)
 cases f with
 |true=>
  rw[if_neg (show ¬((Sl true != Sl true)=true)from QM)]
  exact Qh (q _ hz (aaR _ _))
 |false=>
  rw[if_pos (show(Sl false != Sl true)=true from rfl)]
  exact PR (Tq hz (by simp) fun h₃ he₃ hs₃=>Qh (q h₃ he₃ hs₃))
theorem G2{k:κ}{v y:PL}{Q:PL->PN->Prop}(D:RG z TI TO i1 i2 d l)(hz:jE s.heap z TI TO (QQ T) f)(hT:s.heap.get? T=some oT)(hTI:QE s.heap TI (.ref i1) (.ref i2))
  (h1:s.heap.IsKeyIter i1 d n kvs.length ep) (hd:s.heap.DictAt knd d kvs ep) (h2:s.heap.IsListIter i2 l n) (hl:s.heap.IsList l ys) (hx:kvs[n]?=some (k,v)) (hy:ys[n]?=some y)
  (q:∀x h',knd.is k x=true->jE h' z TI TO (QQ T) true->h'.IsKeyIter i1 d (n+1) kvs.length ep->h'.IsListIter i2 l (n+1)->QE h' s.heap.objs.size x y->h'.objs.size=s.heap.objs.size+1->dZ s z TO i1 i2 h'->Q (.ref s.heap.objs.size) {s with heap:=h'}):
  PQ (model prog w) A (RD.«zip.__next__» ⟨[.ref z],[]⟩) (fun fin s'=>∃v,fin=.done (.ret v)/\Q v s') E s:=by
 show PQ _ _ (field (.ref z) 2 >>= _) _ _ _
 refine PR (Q1 hz rfl (x:=.bool false) rfl (PR (Q1 hz rfl (x:=.ref TI) rfl (PR (Sd hTI rfl (PR ?_))))))
 refine y0 hz hT fun m1 z1 e1=>?_
 simp only[Sw,if_false]
 refine PR ?_
 simp only[<-WQ,TF,Uh]
 refine PR (PR (SS ?_))
 show PQ _ _ (R3 (.ref i1) >>= _) _ _ _
 refine PR (kG (knd:=knd) (h1.at fun o e=>e1.extBut _ _ D.i1z e) (hd.extBut e1.extBut D.l1z) hx fun x m2 hkey g1 e2=>Qh (Qh ?_))
 refine PR (PR (SS ?_))
 show PQ _ _ (R3 (.ref i2) >>= _) _ _ _
 refine PR (W5 (h2.at fun o e=>e2.extBut _ _ D.i12.symm (e1.extBut _ _ D.i2z e)) (hl.at fun o e=>e2.extBut _ _ D.l2i1 (e1.extBut _ _ D.l2z e)) hy fun m3 g2 e3=>Qh (Qh (Qh ?_)))
 show PQ _ _ (newTuple [x,y] >>= _) _ _ _
 refine PR (wpAny_newTuple (Qh ⟨_,rfl,?_⟩))
 have sz:m3.objs.size=s.heap.objs.size:=by rw[e3.1,e2.1,e1.1]
 have old:∀c o,c≠z->c≠i1->c≠i2->s.heap.get? c=some o->m3.get? c=some o:=fun c o c1 c3 c4 e=>e3.extBut _ _ c4 (e2.extBut _ _ c3 (e1.extBut _ _ c1 e))
 have z3:jE m3 z TI TO (QQ T) true:=e3.extBut _ _ D.i2z.symm (e2.extBut _ _ D.i1z.symm z1)
 have t8:QE (m3.push {cls:=.type "tuple",data:=.seq #[x,y]}) m3.objs.size x y:=Qz _ rfl
 show Q (.ref m3.objs.size) _
 rw[sz]
 rw[sz]at t8
 exact q x (m3.push {cls:=.type "tuple",data:=.seq #[x,y]}) hkey (Qr _ z3) (g1.at fun o e=>Qr _ (e3.extBut _ _ D.i12 e)) (g2.at fun o e=>Qr _ e) t8 (by rw[Rx,sz]) fun c o c1 _ c3 c4 e=>Qr _ (old c o c1 c3 c4 e)
theorem IW{Q:Fin->PN->Prop}(hA:A.handled=none)(D:RG z TI TO i1 i2 d l)(hz:jE s.heap z TI TO (QQ T) f)(hT:s.heap.get? T=some oT)(hTI:QE s.heap TI (.ref i1) (.ref i2))
  (h1:s.heap.IsKeyIter i1 d n kvs.length ep) (hd:s.heap.DictAt knd d kvs ep) (hx:kvs[n]?=none)
  (q:∀h' e,dZ s z TO i1 i2 h'->(∃o,h'.get? e=some o/\o.cls=.type "StopIteration")->E (.ref e) {s with heap:=h'}):PQ (model prog w) A (RD.«zip.__next__» ⟨[.ref z],[]⟩) Q E s:=by
 show PQ _ _ (field (.ref z) 2 >>= _) _ _ _
 refine PR (Q1 hz rfl (x:=.bool false) rfl (PR (Q1 hz rfl (x:=.ref TI) rfl (PR (Sd hTI rfl (PR ?_))))))
 refine y0 hz hT fun m1 z1 e1=>?_
 simp only[Sw,if_false]
 refine PR ?_
 simp only[<-WQ,TF,Uh]
 refine PR (PR (SS ?_))
 show PQ _ _ (R3 (.ref i1) >>= _) _ _ _
 exact PR (mW (knd:=knd) hA (h1.at fun o e=>e1.extBut _ _ D.i1z e) (hd.extBut e1.extBut D.l1z) hx fun m2 e e2 he=>q m2 e (fun c o c1 _ c3 _ x=>e2 _ _ c3 (e1.extBut _ _ c1 x)) he)
theorem xR{k:κ}{v y:PL}{Q:Option PL->PN->Prop}(D:RG z TI TO i1 i2 d l)(hz:jE s.heap z TI TO (QQ T) f)(hT:s.heap.get? T=some oT)(hTI:QE s.heap TI (.ref i1) (.ref i2))
  (h1:s.heap.IsKeyIter i1 d n kvs.length ep) (hd:s.heap.DictAt knd d kvs ep) (h2:s.heap.IsListIter i2 l n) (hl:s.heap.IsList l ys) (hx:kvs[n]?=some (k,v)) (hy:ys[n]?=some y)
  (q:∀x h',knd.is k x=true->jE h' z TI TO (QQ T) true->h'.IsKeyIter i1 d (n+1) kvs.length ep->h'.IsListIter i2 l (n+1)->QE h' s.heap.objs.size x y->h'.objs.size=s.heap.objs.size+1->dZ s z TO i1 i2 h'->Q (some (.ref s.heap.objs.size)) {s with heap:=h'}):
  PQ (model prog w) A (Rg (.ref z)) Q E s:=by
 have hTy:s.TypeIs (.ref z) "zip":=⟨_,hz,rfl⟩
 unfold Rg
 exact PR (UY (TH (name:=TN "__next__") hTy Sn (Ta Sn hTy U8 (G2 D hz hT hTI h1 hd h2 hl hx hy fun x h' a0 a1 a3 a4 a5 a6 a7=>Qh (q x h' a0 a1 a3 a4 a5 a6 a7)) (UA _))))
theorem Aa{Q:Option PL->PN->Prop}(hA:A.handled=none)(D:RG z TI TO i1 i2 d l)(hz:jE s.heap z TI TO (QQ T) f)(hT:s.heap.get? T=some oT)(hTI:QE s.heap TI (.ref i1) (.ref i2))
  (h1:s.heap.IsKeyIter i1 d n kvs.length ep) (hd:s.heap.DictAt knd d kvs ep) (hx:kvs[n]?=none) (q:∀h',dZ s z TO i1 i2 h'->Q none {s with heap:=h'}):PQ (model prog w) A (Rg (.ref z)) Q E s:=by
 have hTy:s.TypeIs (.ref z) "zip":=⟨_,hz,rfl⟩
 unfold Rg
 refine PR (UY (TH (name:=TN "__next__") hTy Sn (Ta Sn hTy U8 (IW (knd:=knd) (by first|exact hA|exact(show A.in1.handled=none from hA)) D hz hT hTI h1 hd hx fun h' e hk ⟨o,ho,hc⟩=>?_) (UA _))))
 exact PR (wpAny_isInstance (T:="StopIteration") (b:=true) ⟨o,ho,hc⟩ isSubtype_stop (Qh (q _ hk)))
noncomputable def wN(h:P0)(z TI TO i1 i2 d l D:PK)(i n ep:Nat):Prop:=
 ((Rc h z TI TO .none/\∃u v,QE h TO u v)\/∃(T:PK)(oT:PV)(f:Bool),jE h z TI TO (QQ T) f/\h.get? T=some oT/\T≠z/\T≠TO/\T≠i1/\T≠i2/\T≠D)/\QE h TI (.ref i1) (.ref i2)/\h.IsKeyIter i1 d i n ep/\h.IsListIter i2 l i
theorem wN.at{h h':P0}{Dn:PK}{i:Nat}(x:wN h z TI TO i1 i2 d l Dn i n ep)(k:∀b o,b≠Dn->h.get? b=some o->h'.get? b=some o)(a1:z≠Dn)(a2:TI≠Dn)(a3:TO≠Dn)(a4:i1≠Dn)(a5:i2≠Dn):wN h' z TI TO i1 i2 d l Dn i n ep:=by
 obtain⟨x1,x2,x3,x4⟩:=x
 refine⟨?_,k _ _ a2 x2,x3.at fun o e=>k _ _ a4 e,x4.at fun o e=>k _ _ a5 e⟩
 rcases x1 with⟨p,u,v,r⟩|⟨T,oT,f,p,r,t1,t2,t3,t4,t5⟩
 ·exact .inl ⟨k _ _ a1 p,u,v,k _ _ a3 r⟩
 ·exact .inr ⟨T,oT,f,k _ _ a1 p,k _ _ t5 r,t1,t2,t3,t4,t5⟩
theorem Ew{k:κ}{v y:PL}{Dn:PK}{Q:Option PL->PN->Prop}(D:RG z TI TO i1 i2 d l)(hs:wN s.heap z TI TO i1 i2 d l Dn n kvs.length ep)(hDn:Dn<s.heap.objs.size)(hd:s.heap.DictAt knd d kvs ep)(hl:s.heap.IsList l ys)(hx:kvs[n]?=some (k,v))(hy:ys[n]?=some y)
  (q:∀x h',knd.is k x=true->wN h' z TI TO i1 i2 d l Dn (n+1) kvs.length ep->QE h' s.heap.objs.size x y->h'.objs.size=s.heap.objs.size+1->dZ s z TO i1 i2 h'->Q (some (.ref s.heap.objs.size)) {s with heap:=h'}):PQ (model prog w) A (Rg (.ref z)) Q E s:=by
 obtain⟨x1,hTI,h1,h2⟩:=hs
 have kTI:∀h',dZ s z TO i1 i2 h'->QE h' TI (.ref i1) (.ref i2):=fun h' hk=>hk _ _ D.TIz D.TITO D.TIi1 D.TIi2 hTI
 have l1:i1<s.heap.objs.size:=by obtain⟨o,e,_⟩:=h1;exact Ql e
 have l2:i2<s.heap.objs.size:=by obtain⟨o,e,_⟩:=h2;exact Ql e
 rcases x1 with⟨hz,u,v',hTO⟩|⟨T,oT,f,hz,hT,t1,t2,t3,t4,t5⟩
 ·refine oK (knd:=knd) D hz hTI hTO h1 hd h2 hl hx hy fun x h' a0 a1 a2 a3 a4 a5 a6 a7=>q x h' a0 ⟨.inr ⟨_,_,false,a1,a5,?_,?_,?_,?_,?_⟩,kTI _ a7,a3,a4⟩ a5 a6 a7
  ·exact Rp (Ql hz)
  ·exact Rp (Ql hTO)
  ·exact Rp l1
  ·exact Rp l2
  ·exact Rp hDn
 ·exact xR (knd:=knd) D hz hT hTI h1 hd h2 hl hx hy fun x h' a0 a1 a3 a4 a5 a6 a7=>q x h' a0 ⟨.inr ⟨T,oT,true,a1,a7 _ _ t1 t2 t3 t4 hT,t1,t2,t3,t4,t5⟩,kTI _ a7,a3,a4⟩ a5 a6 a7
theorem G9{Dn:PK}{Q:Option PL->PN->Prop}(hA:A.handled=none)(D:RG z TI TO i1 i2 d l)(hs:wN s.heap z TI TO i1 i2 d l Dn n kvs.length ep)(hd:s.heap.DictAt knd d kvs ep)(hx:kvs[n]?=none)
  (q:∀h',dZ s z TO i1 i2 h'->Q none {s with heap:=h'}):PQ (model prog w) A (Rg (.ref z)) Q E s:=by
 obtain⟨x1,hTI,h1,h2⟩:=hs
 rcases x1 with⟨hz,u,v',hTO⟩|⟨T,oT,f,hz,hT,t1,t2,t3,t4,t5⟩
 ·exact qP (knd:=knd) hA D hz hTI h1 hd hx q
 ·exact Aa (knd:=knd) hA D hz hT hTI h1 hd hx q
end
section
variable {prog:Qc}{w:P8}{κ:Type} [DecidableEq κ] {knd:KeyKind prog w κ}{A:Qg}{R:Result->PN->Prop}{E:PL->PN->Prop}
variable {z TI TO i1 i2 d l Dn:PK}{ep:Nat}{kvs:List (κ×PL)}{ys:Array PL}
theorem Hq(hA:A.handled=none)(Dz:RG z TI TO i1 i2 d l)(a1:z≠Dn)(a2:TI≠Dn)(a3:TO≠Dn)(a4:i1≠Dn)(a5:i2≠Dn)(a6:d≠Dn)(a7:l≠Dn)(vs:List (κ×PL))(res:PL)
  (hlen:vs.length=kvs.length) (hvs:∀(i:Nat)(p:κ×PL),vs[i]?=some p->∃v,kvs[i]?=some (p.1,v)/\ys[i]?=some p.2) (hn:vs.length<=1000) (nd:(vs.map (·.1)).Nodup):
  ∀(k i:Nat)(s:PN),kvs.length-i=k->i<=kvs.length->wN s.heap z TI TO i1 i2 d l Dn i kvs.length ep->s.heap.DictAt knd d kvs ep->s.heap.IsList l ys->s.heap.DictOf knd Dn (vs.take i)->
   (∀h' tk,(∀b o,b≠z->b≠TO->b≠i1->b≠i2->b≠Dn->s.heap.get? b=some o->h'.get? b=some o)->h'.DictOf knd Dn vs->R (.ok (.ret res)) {s with heap:=h',toks:=tk})->
   RU (model prog w) A (.builtin "dict.update.loop" ⟨[.ref Dn,.ref z,.int i 0,res],[]⟩) R s:=by
 have dstay:∀{kvs:List (κ×PL)}{h h':P0},h.DictOf knd Dn kvs->(∀o,h.get? Dn=some o->h'.get? Dn=some o)->h'.DictOf knd Dn kvs:=fun x k=>let ⟨o,es,ep,ho,r⟩:=x;⟨o,es,ep,k o ho,r⟩
 intro k
 induction k with
 |zero=>
  intro i s hk hi hst hd hl hD hR
  have hin:i=kvs.length:=by omega
  rw[RI (by omega)]at hD
  refine codeAny_builtin nW ?_
  rw[UC eW _]
  show PQ _ A.in1 (Rg (.ref z) >>= _) _ _ s
  refine PR (G9 (knd:=knd) hA Dz hst hd (SF (by omega)) fun h' hk=>?_)
  show PQ _ A.in1 (YB Dn [] >>= fun _=>ret res) _ _ _
  exact PR (Qh (Qh (hR h' s.toks (fun b o b1 b2 b3 b4 _ e=>hk b o b1 b2 b3 b4 e) (dstay hD fun o e=>hk Dn o a1.symm a3.symm a4.symm a5.symm e))))
 |succ k ih=>
  intro i s hk hi hst hd hl hD hR
  have hlt:i<kvs.length:=by omega
  have hvi:vs[i]?=some vs[i]:=Qj (by omega)
  generalize vs[i]=p at hvi
  obtain⟨x0,hx,hy⟩:=hvs i p hvi
  have hDlt:Dn<s.heap.objs.size:=by obtain⟨o,_,_,ho,_⟩:=id hD;exact Ql ho
  refine codeAny_builtin nW ?_
  rw[UC eW _]
  show PQ _ A.in1 (Rg (.ref z) >>= _) _ _ s
  refine PR (Ew (knd:=knd) Dz hst hDlt hd hl hx hy fun key h1 hkey hst1 hp1 hsz1 hk1=>?_)
  have hD1:=dstay hD fun o e=>hk1 Dn o a1.symm a3.symm a4.symm a5.symm e
  show PQ _ A.in1 (holding [Qo s.heap.objs.size] _ >>= _) _ _ _
  refine PR (SS ?_)
  refine PR (wpAny_tryCatch ?_)
  unfold YD
  refine PR (UU (T:="tuple") ⟨_,hp1,rfl⟩ ?_)
  rw[if_pos (by decide)]
  refine PR (Sd hp1 rfl (Qh ?_))
  show PQ _ A.in1 (holding [key,p.2] (dictSet Dn key p.2)) _ _ _
  refine SS (wpAny_dictSet_pairs (knd:=knd) hkey hD1 (fun h2 hd2 hsb=>?_) (by rw[QY,sizeLine_eq];omega))
  have hst2:stored (vs.take i) p.1 p.2=vs.take (i+1):=by
   unfold stored
   rw[if_neg]
   ·rw[Us,hvi];rfl
   ·intro z
    obtain⟨x,hx,e⟩:=VR.mp z
    obtain⟨j,hj,ej⟩:=Tw hx
    have hj':j<i/\j<vs.length:=by rw[QY]at hj;omega
    rw[V9]at ej
    have e:x.1=p.1:=by simpa using e
    obtain⟨hi',ei⟩:=QN.mp hvi
    have:=Uo.mp nd j i (by simp;omega) (by simp;omega) hj'.1
    simp only[Wh]at this
    rw[ej,ei]at this
    exact this e
  rw[hst2]at hd2
  have k2:∀b o,b≠Dn->h1.get? b=some o->h2.get? b=some o:=fun b o hb e=>by rw[hsb.2 b hb];exact e
  refine Qh ⟨plainId_quiet eW _,?_⟩
  refine ih (i+1) {s with heap:=h2,toks:=s.toks+1} (by omega) hlt (hst1.at k2 a1 a2 a3 a4 a5) ?_ ?_ hd2 fun h' tk' hk' hS'=>?_
  ·exact hd.at' fun o e=>k2 _ _ a6 (hk1 _ _ Dz.l1z Dz.l1TO Dz.l1i1 Dz.l1i2 e)
  ·exact hl.at fun o e=>k2 _ _ a7 (hk1 _ _ Dz.l2z Dz.l2TO Dz.l2i1 Dz.l2i2 e)
  ·exact hR h' tk' (fun b o b1 b2 b3 b4 b5 e=>hk' b o b1 b2 b3 b4 b5 (k2 _ _ b5 (hk1 b o b1 b2 b3 b4 e))) hS'
theorem yA{s:PN}{Q:PL->PN->Prop}(hh:A.handled=none)(Dz:RG z TI TO i1 i2 d l)(hz:Rc s.heap z TI TO .none)(hTI:QE s.heap TI (.ref i1) (.ref i2))(hTO:∃u v,QE s.heap TO u v)(h1:s.heap.IsKeyIter i1 d 0 kvs.length ep)(h2:s.heap.IsListIter i2 l 0)
  (hd:s.heap.DictAt knd d kvs ep) (hl:s.heap.IsList l ys) (vs:List (κ×PL)) (hlen:vs.length=kvs.length) (hvs:∀(i:Nat)(p:κ×PL),vs[i]?=some p->∃v,kvs[i]?=some (p.1,v)/\ys[i]?=some p.2) (hn:vs.length<=1000) (nd:(vs.map (·.1)).Nodup)
  (h:∀(h':P0)(tk:Nat),(∀b o,b≠z->b≠TO->b≠i1->b≠i2->s.heap.get? b=some o->h'.get? b=some o)->h'.DictOf knd s.heap.objs.size vs->Q (.ref s.heap.objs.size) {s with heap:=h',toks:=tk}):
  PQ (model prog w) A (call (.type "dict") [.ref z]) Q E s:=by
 refine callType_codes (Q₁:=fun obj s₁=>obj=.ref s.heap.objs.size/\s₁={s with heap:=s.heap.push {cls:=.type "dict",data:=.dict #[]}}) XF (Wz _) Xf (kt_code_dict_new _ ⟨rfl,rfl⟩) ?_
 rintro obj s₁ ⟨rfl,rfl⟩
 have hnew:(s.heap.push {cls:=.type "dict",data:=.dict #[]}).DictOf knd s.heap.objs.size []:=VY s.heap
 have up:∀b o,s.heap.get? b=some o->(s.heap.push {cls:=.type "dict",data:=.dict #[]}).get? b=some o:=fun b o e=>Qr _ e
 exists hnew.typeIs,XS _ _
 unfold RD.«dict.__init__»
 refine PR ?_
 unfold Xa
 refine PR (wpAny_notOrdered_dict hnew.typeIs ?_)
 show PQ _ _ (pure (s.heap.objs.size,[Qo z])) _ _ _
 refine Qh ?_
 show PQ _ _ (Uz "dict.__init__" s.heap.objs.size (.ref z) [] .none) _ _ _
 unfold Uz
 refine PR (UU (T:="zip") ⟨_,up _ _ hz,rfl⟩ ?_)
 rw[if_pos (by decide)]
 refine PR (Du (up _ _ hz) rfl rfl rfl hh fun m2 tk2 k2=>?_)
 have up2:∀b o,s.heap.get? b=some o->m2.get? b=some o:=fun b o e=>k2 _ _ (up _ _ e)
 simp only[W0,if_true]
 refine PR (wpAny_rule ?_)
 refine PR (Vs (up2 _ _ hz) ?_)
 refine Qh ⟨plainId_quiet eW _,?_⟩
 have lt:∀{b:PK}{o:PV},s.heap.get? b=some o->b≠s.heap.objs.size:=fun e=>Qt (Ql e)
 obtain⟨u,v,hTO⟩:=hTO
 have n4:i1≠s.heap.objs.size:=by obtain⟨o,e,_⟩:=h1;exact lt e
 have n5:i2≠s.heap.objs.size:=by obtain⟨o,e,_⟩:=h2;exact lt e
 have n6:d≠s.heap.objs.size:=by obtain⟨o,es,e,_⟩:=hd;exact lt e
 have n7:l≠s.heap.objs.size:=by obtain⟨o,e,_⟩:=hl;exact lt e
 refine Hq (knd:=knd) (A:=A.in1) hh Dz (lt hz) (lt hTI) (lt hTO) n4 n5 n6 n7 vs .none hlen hvs hn nd _ 0 {s with heap:=m2,toks:=tk2} rfl (Q3 _) ⟨.inl ⟨up2 _ _ hz,u,v,up2 _ _ hTO⟩,up2 _ _ hTI,h1.at fun o e=>up2 _ _ e,h2.at fun o e=>up2 _ _ e⟩ (hd.at' fun o e=>up2 _ _ e) (hl.at fun o e=>up2 _ _ e) ?_ fun h' tk' hk hS=>?_
 ·obtain⟨o,es,ep,ho,r⟩:=hnew
  exact⟨o,es,ep,k2 _ _ ho,r⟩
 ·exact⟨rfl,h h' tk' (fun b o b1 b2 b3 b4 e=>hk b o b1 b2 b3 b4 (lt e) (up2 _ _ e)) hS⟩
end
noncomputable def BF(kvs:List (Key×V))(ys:List V):List (Key×V):=kvs.zipWith (fun p y=>(p.1,y)) ys
noncomputable def Ed(K:PM)(ta:TA):TE:=fun σ H Q=>ta σ H fun vs H1=>∃(d l:PK)(kvs:List (Key×V))(ys:List V),vs=[.ref d,.ref l]/\H1 d=some (.dK kvs)/\aY K H1 l ys/\kvs.length<=ys.length/\kvs.length<=1000/\(kvs.map (·.1)).Nodup/\∀e,H1 e=none->Q (.ref e) (upd H1 e (.dK (BF kvs ys)))
section
variable {X:Cx}
theorem HK(hc:X.calm=true){a b:PY}{ta:TA}{p p2 pos pos2:Qi}(hgd:Gl X "dict")(hmd:X.mg "dict"=none)(hg:Gl X "zip")(hm:X.mg "zip"=none)(ha:PA X [a,b] ta)(hs:Qf [a,b] X.env=(false,eval a X.env)::Qf [b] X.env:=by rfl)(hs2:(QF pos (Qf [b] X.env)).any (·.1)=false:=by rfl)
  (hs3:Qf [.Call (.Name "zip" p) [a,b] [] pos] X.env=[(false,eval (.Call (.Name "zip" p) [a,b] [] pos) X.env)]:=by rfl):
  PE X (.Call (.Name "dict" p2) [.Call (.Name "zip" p) [a,b] [] pos] [] pos2) (Ed X.K ta):=by
 intro pins s σ H Q I h
 refine Call_ (jC I hgd hmd boot_dict (Sy ?_ hs3 rfl))
 rw[hs3]
 show PQ _ _ (spliced ((false,eval (.Call (.Name "zip" p) [a,b] [] pos) X.env)::QF pos2 [])) _ _ s
 refine Wc ?_
 refine Call_ (jC I hg hm boot_zip (Sy (cI (ha pos pins s σ H _ I h) fun us s1 ⟨vs,H1,I1,r1,q1⟩=>?_) hs hs2))
 obtain⟨d,l,kvs,ys,e,hd,hS2,hkl,hk1,nd,q⟩:=q1
 subst e
 cases r1 with
 |cons r rr=>
  cases rr with
  |cons r' rr=>
   cases rr
   cases r
   cases r'
   obtain⟨zz,hdS,vs,rel,dd⟩:=gB I1.hok (.inl hd)
   have hlen:kvs.length=vs.length:=Qv rel
   obtain⟨o,es,ep,ho,hex,hdat,r⟩:=id dd
   have hat:s1.heap.DictAt (aX X.prog X.w) d vs ep:=⟨o,es,ho,hex,hdat,r⟩
   obtain⟨its2,rv2,pl2,hz2⟩:=I1.list hS2
   have lt1:d<s1.heap.objs.size:=I1.hok.lt hd
   have lt2:l<s1.heap.objs.size:=by obtain⟨o,e,_⟩:=pl2.isList;exact Ql e
   have hil:ys.length=its2.length:=rv2.length
   refine zL (knd:=aX X.prog X.w) hdS hat pl2.isList fun h' kz kTI kTO k1 k2 hk=>Vy ?_
   have hkv:KV (BF kvs ys) (vs.zipWith (fun (p:Key×PL) y=>(p.1,y)) its2):=by
    unfold BF
    clear q nd hk1 hkl hat r hdat hex ho dd hlen zz hd hS2 pl2 k1 hz2 hil
    induction rel generalizing ys its2 with
    |nil=>exact .nil
    |cons h _ ih=>
     cases rv2 with
     |nil=>exact .nil
     |cons h2 r2=>exact .cons ⟨h.1,h2⟩ (ih _ _ r2)
   have ek:(vs.map (·.1))=kvs.map (·.1):=by
    clear hkv q nd hk1 hkl hat r hdat hex ho dd hlen zz hd k1
    induction rel with
    |nil=>rfl
    |cons h _ ih=>rw[Qu,Qu,ih,h.1]
   have hzl:(vs.zipWith (fun (p:Key×PL) y=>(p.1,y)) its2).length=vs.length:=by rw[Xx];omega
   have ekz:((vs.zipWith (fun (p:Key×PL) y=>(p.1,y)) its2).map (·.1))=vs.map (·.1):=by
    apply S2 (by simp;omega)
    intro i h1 h2
    simp
   refine yA (knd:=aX X.prog X.w) (I.ok.hd hc) (Xi _ _ _ lt1 lt2) kz kTI ⟨_,_,kTO⟩ k1 k2 (hat.at' fun o e=>hk _ _ e) (pl2.isList.at fun o e=>hk _ _ e) (vs.zipWith (fun (p:Key×PL) y=>(p.1,y)) its2) hzl ?_ (by omega) (by rw[ekz,ek];exact nd) fun h2 tk hk2 hD=>?_
   ·intro i p hp
    rw[List.getElem?_zipWith]at hp
    cases e1:vs[i]? with
    |none=>rw[e1]at hp;simp at hp
    |some p1=>
     cases e2:its2[i]? with
     |none=>rw[e1,e2]at hp;simp at hp
     |some y=>
      rw[e1,e2]at hp
      simp at hp
      subst hp
      exact⟨p1.2,rfl,by simpa using e2⟩
   ·have hlt:s1.heap.objs.size<=h'.objs.size:=by
     exact SU (VN (So _ 4) (Ql kz))
    have kk:∀b u,s1.heap.get? b=some u->h2.get? b=some u:=fun b u e=>by
     have hb:=Ql e
     exact hk2 b u (Qt (QD hb (So _ _))) (Qt (QD hb (So _ _))) (Qt hb) (Qt (QD hb (So _ _))) (hk b u e)
    refine⟨.ref h'.objs.size,_,I1.laid (t':=tk) (a:=h'.objs.size) (o:=.dK (BF kvs ys)) kk hlt (xt ?_ ?_ hkv hD),rfl,q _ (I1.hok.fresh hlt)⟩
    ·rw[BF,Xx]
     exact P6 (P6 (WV _ _) hk1) (by decide)
    ·exact beq_eq_false_iff_ne.mpr (Qy (Qt (QD I1.big hlt)))
end
structure Lv(d:PK)(kvs:List (Key×V))(o:PV)(H Hf:Hp):Prop where
 fd:Hf d=some (.frz o (.dK kvs))
 low:∀a,Hf a=none->H a=none
 keep:∀a x,a≠d->H a=some x->Hf a=some x
section
variable {K:PM}{mp:List (Option Nat)}{tt:TT}{te td:TE}{ta:TA}{σ:St}{H Hf:Hp}{Q:VK}{d l:PK}{kvs:List (Key×V)}{o:PV}
theorem AO:Lv d kvs o H (upd H d (.frz o (.dK kvs))):=
 ⟨ax,fun a ha=>by
  by_cases h1:a=d
  ·subst h1;rw[ax]at ha;cases ha
  ·rwa [ak h1]at ha,fun a x ha h=>by rw[ak ha];exact h⟩
theorem HB{w:PK}{x:HO}(hw:H w=none):Lv d kvs o H (upd (upd H w x) d (.frz o (.dK kvs))):=
 ⟨ax,fun a ha=>by
  by_cases h1:a=d
  ·subst h1;rw[ax]at ha;cases ha
  ·rw[ak h1]at ha
   by_cases h2:a=w
   ·subst h2;exact hw
   ·rwa [ak h2]at ha,fun a y ha h=>by
  have hw2:a≠w:=fun e=>by rw[e,hw]at h;cases h
  rw[ak ha,ak hw2];exact h⟩
noncomputable def Ni(d:PK)(Q:VK):VK:=fun v H'=>∃o kvs,H' d=some (.frz o (.dK kvs))/\Q v (upd H' d (.dK kvs))
theorem Hn{g:TG}(htd:∀k:VK,k (.ref d) H->td σ H k)(hd:H d=some (.dK kvs))(h:∀o Hf,Lv d kvs o H Hf->dq mp g tt te (Oy d o kvs) σ Hf (Ni d Q)):gR (bP mp (CJ td) g tt te) σ H Q:=
 ⟨d,kvs,hd,mS (htd _ ⟨d,kvs,rfl,hd,fun o=>h o _ AO⟩)⟩
theorem GD{g:TG}(htd:∀k:VK,k (.ref d) H->td σ H k)(hd:H d=some (.dK kvs))(h:∀o Hf,Lv d kvs o H Hf->dq mp g tt te (OH d o kvs) σ Hf (Ni d Q)):gR (bP mp (HD td) g tt te) σ H Q:=
 ⟨d,kvs,hd,mS (htd _ ⟨d,kvs,rfl,hd,fun o v hv hne=>h o _ (HB hv)⟩)⟩
theorem DF{g:TG}(htd:∀k:VK,k (.ref d) H->td σ H k)(hd:H d=some (.dK kvs))(h:∀o Hf,Lv d kvs o H Hf->dq mp g tt te (Kp d o kvs) σ Hf (Ni d Q)):gR (bP mp (D9 td) g tt te) σ H Q:=
 ⟨d,kvs,hd,mS (htd _ ⟨d,kvs,rfl,hd,fun o=>h o _ AO⟩)⟩
theorem Hi{g:TG}{ys:List V}(hta:∀k:List V->Hp->Prop,k [.ref d,.ref l] H->ta σ H k)(hd:H d=some (.dK kvs))(hl:aY K H l ys)(hne:d≠l)(h:∀o Hf,Lv d kvs o H Hf->dq mp g tt te (OX K d l o kvs) σ Hf (Ni d Q)):gR (bP mp (IZ K ta) g tt te) σ H Q:=
 ⟨d,kvs,hd,mS (hta _ ⟨d,l,kvs,rfl,hd,⟨ys,hl⟩,hne,fun o=>h o _ AO⟩)⟩
variable {J:It}{g:TG}{P:Hp->Prop}{n:Nat}{f:Nat->St->St}
theorem B0(F:Lv d kvs o H Hf)(hd:H d=some (.dK kvs))(Y:Ys J g P n f)(st:Nat->St)(hf:∀i σ',(σ'=c5 mp σ\/∃j,σ'=st j)->f i σ'=st i)(hP:∀H',H' d=some (.frz o (.dK kvs))->eh d H H'->P H')(hz:n<=PZ)(b:Nat->Bool)(R:PK->Nat->V->Hp->Prop)
  (hR:∀l i v H1 H2,eh l H1 H2->R l i v H1->R l i v H2) (hRd:∀l i v H1,H1 d=some (.frz o (.dK kvs))->R l i v H1->R l i v (upd H1 d (.dK kvs)))
  (ht:∀i,i<n->∀(H':Hp)(G:Bool->Hp->Prop),eh d H H'->(∀H'',av H' H''->G (b i) H'')->tt (st i) H' G)
  (he:∀l i,i<n->b i=true->∀(H':Hp)(G:VK),H l=none->(∃o,H' l=some o)->(∃o,H' d=some o)->eh d H H'->(∀v H'',R l i v H''->av H' H''->G v H'')->te (st i) H' G)
  (hq:∀l ys H2,H l=none->av H H2->H2 l=some (.lst ys)->Qd (fun i v=>R l i v H2) ((P4 n).filter b) ys->Q (.ref l) H2):dq mp g tt te J σ Hf (Ni d Q):=by
 have hx:∀H',av Hf H'->eh d H H':=fun H' s a x ha h=>s _ _ (F.keep a x ha h)
 refine gh Y st hf (fun H' s=>hP H' (s _ _ F.fd) (hx H' s)) hz b R hR (fun i hi H' G s k=>ht i hi H' G (hx H' s) k) (fun l i hi hb H' G h0 h1 s k=>he l i hi hb H' G (F.low l h0) h1 ⟨_,s _ _ F.fd⟩ (hx H' s) k) fun l ys H' h0 s h1 pr=>?_
 have hfd:H' d=some (.frz o (.dK kvs)):=s _ _ F.fd
 have hld:l≠d:=fun e=>by rw[e,F.fd]at h0;cases h0
 refine⟨o,kvs,hfd,hq l ys _ (F.low l h0) (fun a x ha=>?_) (by rw[ak hld];exact h1) (Paired.mapP pr fun i v q=>hRd l i v H' hfd q)⟩
 by_cases h1:a=d
 ·subst h1
  rw[ax,<-hd];exact ha
 ·rw[ak h1]
  exact hx H' s a x h1 ha
theorem zf(F:Lv d kvs o H Hf)(hd:H d=some (.dK kvs))(Y:Ys J g P n f)(st:Nat->St)(hf:∀i σ',(σ'=c5 mp σ\/∃j,σ'=st j)->f i σ'=st i)(hP:∀H',H' d=some (.frz o (.dK kvs))->eh d H H'->P H')(hz:n<=PZ)(b:Nat->Bool)(U:Nat->V)
  (ht:∀i,i<n->∀(H':Hp)(G:Bool->Hp->Prop),eh d H H'->(∀H'',av H' H''->G (b i) H'')->tt (st i) H' G)
  (he:∀i,i<n->b i=true->∀(H':Hp)(G:VK),eh d H H'->(∀H'',av H' H''->G (U i) H'')->te (st i) H' G)
  (hq:∀l H2,H l=none->av H H2->H2 l=some (.lst (((P4 n).filter b).map U))->Q (.ref l) H2):dq mp g tt te J σ Hf (Ni d Q):=by
 refine B0 F hd Y st hf hP hz b (fun _ i v _=>v=U i) (fun _ _ _ _ _ _ h=>h) (fun _ _ _ _ _ h=>h) ht (fun l i hi hb H' G _ _ _ s k=>he i hi hb H' G s fun H'' s'=>k _ H'' rfl s') fun l ys H' h0 s h1 pr=>?_
 have e:=lj pr
 subst e
 exact hq l H' h0 s h1
theorem yS(F:Lv d kvs o H Hf)(hd:H d=some (.dK kvs))(Y:Ys J g P n f)(st:Nat->St)(hf:∀i σ',(σ'=c5 mp σ\/∃j,σ'=st j)->f i σ'=st i)(hP:∀H',H' d=some (.frz o (.dK kvs))->eh d H H'->P H')(hz:n<=PZ)(b:Nat->Bool)(U:Nat->HO)
  (ht:∀i,i<n->∀(H':Hp)(G:Bool->Hp->Prop),eh d H H'->(∀H'',av H' H''->G (b i) H'')->tt (st i) H' G)
  (he:∀i,i<n->b i=true->∀(H':Hp)(G:VK),eh d H H'->(∀a H'',H' a=none->av H' H''->H'' a=some (U i)->G (.ref a) H'')->te (st i) H' G)
  (hq:∀l bs H2,H l=none->av H H2->H2 l=some (.lst (bs.map V.ref))->Qd (fun i a=>H a=none/\a≠l/\H2 a=some (U i)) ((P4 n).filter b) bs->Q (.ref l) H2):dq mp g tt te J σ Hf (Ni d Q):=by
 refine B0 F hd Y st hf hP hz b (fun l i v H'=>∃a,v=.ref a/\H a=none/\a≠l/\H' a=some (U i)) (fun l i v H1 H2 s ⟨a,e,g0,hl,h1⟩=>⟨a,e,g0,hl,s a _ hl h1⟩) (fun l i v H1 hfr ⟨a,e,g0,hl,h1⟩=>⟨a,e,g0,hl,by
  have:a≠d:=fun z=>by rw[z,hd]at g0;cases g0
  rw[ak this];exact h1⟩) ht
  (fun l i hi hb H' G hl ⟨o,ho⟩ ⟨o2,ho2⟩ s k=>he i hi hb H' G s fun a H'' h0 s' h1=>k _ H'' ⟨a,rfl,?_,(fun e=>by rw[e,ho]at h0;cases h0),h1⟩ s') fun l ys H' h0 s h1 pr=>?_
 ·cases e:H a with
  |none=>rfl
  |some x=>
   have:a≠d:=fun z=>by rw[z,ho2]at h0;cases h0
   rw[s a x this e]at h0;cases h0
 ·obtain⟨bs,rfl,pr'⟩:=jt (T:=fun a i=>H a=none/\a≠l/\H' a=some (U i)) pr
  exact hq l bs H' h0 s h1 pr'
end
theorem KC{d:PK}{o:PV}{kvs:List (Key×V)}(p:Nat)(u:Nat->V)(hu:∀i q,kvs[i]?=some q->q.2=u i):
  Ys (OH d o kvs) (au p) (fun H=>H d=some (.frz o (.dK kvs))) kvs.length (fun i σ=>σ.set p (some (u i))) where
 go:=fun i H hi h=>⟨h,hi⟩
 stop:=fun H h=>⟨h,Qe _⟩
 yld:=fun i H x H' σ Q hi h y q=>by
  obtain⟨e,w,hw,ex⟩:=y
  subst e ex
  rw[hu i w hw]
  exact q _ (av.refl _)
theorem vW{X:Cx}{st:P5}{te:TE}{i:Nat}(h:PS X st (bG te (au i))):PS X st (bG (gR te) (au i)):=by
 intro pins s σ H D I q
 obtain⟨d,kvs0,hd,q⟩:=q
 refine cI (h pins s σ H {nx:=fun σ' H'=>∃o kvs,H' d=some (.frz o (.dK kvs))/\D.nx σ' (upd H' d (.dK kvs)),rt:=fun _ _=>False} I q) fun f s1 q1=>?_
 match f,q1 with
 |.next,⟨σ',H',I',o,kvs,hf,q2⟩=>exact⟨σ',_,Inv.thaw I hd I' hf,q2⟩
 |.brk,⟨σ',H',I',q2⟩=>exact q2.elim
 |.cont,⟨σ',H',I',q2⟩=>exact q2.elim
 |.ret u,⟨v,σ',H',I',r,q2⟩=>exact q2.elim
end L2
namespace L2
open PySem PySem.Spec PyProof.Rows
section
variable {X:Cx}
noncomputable def sY(te:TE):TE:=fun σ H Q=>te σ H fun x H1=>∃z:PH,x=.str z/\z.length<=PZ/\Q (.str z) H1
theorem kh{e:PY}{te:TE}{pos:Qi}(he:PE X e te):PE X (.FormattedValue e (-1) none pos) (sY te):=by
 intro pins s σ H Q I h
 refine wpAny_FormattedValue_plain (cI (he pins s σ H _ I h) fun v s1 ⟨x,H1,I1,r1,z,hx,hl,q⟩=>?_)
 subst hx
 obtain⟨tk,rfl⟩:=(show ∃t,v=S4 z t from r1)
 have fin:∀(t':Tok)(k:Nat),EP X pins σ Q (.str z t') {s1 with toks:=k}:=fun t' k=>⟨.str z,H1,I1.tok k,⟨t',rfl⟩,q⟩
 exact wpAny_formatField_str (fin _ _) (fin _ _) (hx:=hl)
end
section
variable {X:Cx}{k:Nat}{c m:PH}{ps:List PH}{sp:Sp}{o e:PY}{es:List PY}{ta:TE}{t:TA}{apos pos:Qi}{pl:Sem Bool}
theorem Ko{E:XK}(M:eL (eC X.prog X.w X.base) X.prog X.w X.K X.mg X.base k c m ps sp)(C:mi X.K X.mg c)(hr:di k X.A)(hx:∀b,b∉X.ex)(he:PE X.nox o ta)(ha:PA X.nox (e::es) t)
  (hst:Qf (e::es) X.env=(false,eval e X.env)::Qf es X.env:=by rfl) (hpl:(QF pos (Qf es X.env)).any (·.1)=false:=by rfl)
  (ht:eval (.Call (.Attribute o m apos) (e::es) [] pos) X.env=(do
   let ov <-eval o X.env
   standAt apos.atName
   let (f,first) <-holding [ov] (RZ ov m pl)
   callWith pos f first (QF pos (Qf (e::es) X.env)) (RO pos (RT [] X.env))):=by rfl):PX X (.Call (.Attribute o m apos) (e::es) [] pos) E (cD (ao X.K c) m sp [] E ta t):=by
 obtain⟨f,fd,hm,hb,F⟩:=M.ex
 intro pins s σ H Q I h
 refine Va (pl:=pl) (Q5 (he pins s σ H _ (I.wish _) h) (fun u s1 ⟨x,H1,I1,rx,a,dx,fs,ex,ea,l,q⟩=>?_) fun _ _ z=>z.elim) ht
 subst ex
 obtain rfl:u=Qo a:=rx
 have I1:=I1.unwish
 refine kT I1 ea C.cls hm l ?_
 refine VC (first:=[.ref a]) (h₀:=X.base) I.ok.mod.kin hm.kp (Q5 (ha pos pins s1 σ H1 _ (I1.wish _) q) (fun us s2 ⟨vs,H2,I2,r,q2⟩=>⟨I2.kIn,?_⟩) fun _ _ z=>z.elim) hst hpl
 exact Ly (us:=.ref a::us) (vs:=.ref a::vs) F hr hb .nil hx I2.unwish (.cons rfl r) q2
end
section
variable {mp:List (Option Nat)}{g:TG}{te:TE}{J:It}{P:Hp->Prop}{n:Nat}{f:Nat->St->St}{σ:St}{H:Hp}{Q:VK}
end
end L2
namespace L2
open PySem PySem.Spec PyProof.Rows PySem.Builtin PySem.Builtin.Str
section
variable {X:Cx}
noncomputable def Fi(a:PH):PH:={cps:=placed a fun _ c=>Se c}
noncomputable def Ax:V->List V->Hp->VK->Prop:=fun x vs H Q=>∃a:PH,x=.str a/\vs=[]/\tooLong (placed a fun _ c=>Se c).size=false/\(Fi a).length<=PZ/\Q (.str (Fi a)) H
theorem Cu:NJ X "str.upper" Ax:=by
 intro pins s σ H x vs v us Q I rx rv h
 obtain⟨a,rfl,rfl,hl,hz,q⟩:=h
 obtain⟨t,rfl⟩:=rx
 cases rv
 refine RL Vu (typeIs_str _ _ _) F.entry_str_upper (F.args_str_upper_1 _) (gives_str_upper a t hl).meets ?_
 have fin:∀(t':Tok)(tk:Nat),EP X pins σ Q (.str (Fi a) t') {s with toks:=tk}:=fun t' tk=>⟨.str (Fi a),H,I.tok tk,⟨t',rfl⟩,q⟩
 exact⟨hz,fin _ _⟩
end
section
variable {mp:List (Option Nat)}{g:TG}{te:TE}{J:It}{P:Hp->Prop}{n:Nat}{f:Nat->St->St}{σ:St}{H:Hp}{Q:VK}
theorem Gw(Y:Ys J g P n f)(st:Nat->St)(hf:∀i σ',(σ'=c5 mp σ\/∃j,σ'=st j)->f i σ'=st i)(hz:n<=PZ)(I:PK->Nat->List V->Hp->Prop)
  (hP:∀l i ys H',I l i ys H'->P H') (h0:∀l H',H l=none->av H H'->I l 0 [] H') (hI:∀l i ys H1 H2,eh l H1 H2->I l i ys H1->I l i ys H2)
  (he:∀l i ys,i<n->∀(H':Hp)(G:VK),H l=none->H' l=some (.lst ys)->I l i ys H'->(∀v H'',I l (i+1) (ys++[v]) H''->H'' l=some (.lst ys)->G v H'')->te (st i) H' G)
  (hd:∀l ys H',H l=none->H' l=some (.lst ys)->I l n ys H'->Q (.ref l) H'):dq mp g du te J σ H Q:=by
 intro l hl
 refine⟨fun i m acc σ' H'=>m=n-i/\i<=n/\acc.length<=i/\H' l=some (.lst acc)/\I l i acc H'/\(σ'=c5 mp σ\/∃j,σ'=st j),
  ⟨n,by simp,Q3 _,Qe _,ax,h0 l _ hl (av.updN hl),.inl rfl⟩,?_⟩
 rintro i m acc σ' H' ⟨rfl,hi,ha,h1,h2,hσ⟩
 by_cases hlt:i<n
 ·refine .inr ⟨Y.go i H' hlt (hP _ _ _ _ h2),by omega,fun acc' σ2 H2=>i+1<=n/\acc'.length<=i+1/\H2 l=some (.lst acc')/\I l (i+1) acc' H2/\(σ2=c5 mp σ\/∃j,σ2=st j),fun acc' σ2 H2 p'=>⟨n-(i+1),by omega,rfl,p'⟩,fun x H2 y=>?_⟩
  refine Y.yld i H' x H2 σ' _ hlt (hP _ _ _ _ h2) y fun H3 s3=>?_
  rw[hf i σ' hσ]
  have ht:∀(G:Bool->Hp->Prop),G true H3->du (st i) H3 G:=fun G z=>z
  refine ht _ ?_
  refine F7 ?_
  refine he l i acc hlt H3 _ hl (s3 _ _ h1) (hI l i acc _ _ (s3.x l) h2) fun v H5 r s5=>?_
  refine⟨s5,hlt,?_,ax,hI l _ _ _ _ rX r,.inr ⟨i,rfl⟩⟩
  rw[QV,R8];omega
 ·have e:i=n:=by omega
  subst e
  exact .inl ⟨Y.stop H' (hP _ _ _ _ h2),hd l acc H' hl h1 h2⟩
end
end L2
set_option maxHeartbeats 4000000
namespace My
open PySem L2
local macro_rules | `(tactic| walk_at "q") => `(tactic| with_reducible refine Fx ?_)
local macro_rules | `(tactic| walk_at "u1") => `(tactic| first
 |with_reducible refine FO ?_
 |with_reducible refine Oa ?_
 |with_reducible refine E8 ?_
 |with_reducible refine M6 ?_
 |with_reducible refine M4 ?_
 |((with_reducible show Ef _ _ _ _ _ _);refine⟨_,rfl,?_⟩)
 |((with_reducible show af _ _ _ _);refine⟨_,rfl,?_⟩)
 |with_reducible refine Pz ?_
 |with_reducible refine O8 ?_
 |with_reducible refine Ox ?_
 |with_reducible refine Ov ?_
 |((with_reducible show rH _ _ _ _);first|refine IK (by first|omega|decide) (by first|omega|decide) ?_|refine MF (by first|omega|decide) (by first|omega|decide) ?_)
 |((with_reducible show oDiv _ _ _ _);refine LV (by first|omega|decide) (by first|omega|decide) ?_)
 |((with_reducible show oMod _ _ _ _);refine LQ (by first|omega|decide) ?_)
 |with_reducible refine O6 ?_
 |with_reducible refine O5 ?_
 |with_reducible refine O2 ?_
 |with_reducible refine Pm ?_
 |with_reducible refine Pb ?_
 |with_reducible refine O7 ?_
 |with_reducible refine N7 ?_
 |with_reducible refine MB ?_
 |with_reducible refine Mq ?_
 |with_reducible refine Pl ?_
 |with_reducible refine OZ ?_
 |with_reducible refine NP ?_
 |with_reducible refine Pj ?_
 |with_reducible refine Ol ?_
 |with_reducible refine Ms ?_
 |with_reducible refine Pe ?_
 |with_reducible refine OM ?_
 |with_reducible refine Nc ?_
 |with_reducible refine MX ?_
 |with_reducible refine Pg ?_
 |with_reducible refine OC ?_
 |with_reducible refine NZ ?_
 |with_reducible refine Mn ?_
 |with_reducible refine Np ?_
 |((with_reducible show ∃i j:Int,_=_/\_);refine Lm (by first|omega|decide) (by first|omega|decide) (by first|omega|decide) (by first|omega|decide) ?_)
 |((with_reducible show ∃j:Int,[V.int _]=[V.int _]/\_);refine Lg (by first|omega|decide) (by first|omega|decide) ?_)
 |with_reducible refine Kn ?_
 |with_reducible refine Pc ?_
 |with_reducible refine Mx ?_
 |with_reducible refine Kv ?_
 |with_reducible refine Jl ?_
 |with_reducible refine mS ?_
 |with_reducible refine Pp ?_
 |with_reducible refine NX ?_
 |with_reducible refine KW ?_)
local macro_rules | `(tactic| walk_at "o1") => `(tactic| first
 |walk_at "u1"
 |((with_reducible show gQ _ _ _ _);refine L0 (by assumption) ?_)
 |((with_reducible show Gh _ _ _ _);refine LX (by assumption) ?_)
 |((with_reducible show ∃b:PK,V.ref _=V.ref _/\_);refine fN (by assumption) ?_))
local macro_rules | `(tactic| walk_at "w") => `(tactic| repeat (first | with_reducible refine Fx ?_ | walk_at "o1"))
local macro_rules | `(tactic| walk_at "sq") => `(tactic| first | assumption | exact aY.of (by assumption) | exact av.seq (by assumption) (by walk_at "sq"))
local macro_rules | `(tactic| walk_at "rows") => `(tactic| first | assumption | exact av.rows (by assumption) (by walk_at "rows"))
local macro_rules | `(tactic| walk_at "fits") => `(tactic| first | exact WS rfl | (refine P6 ?_ bo; simp; done) | (refine P6 ?_ bo; simp; omega) | (refine P6 ?_ bo; omega))
local macro_rules | `(tactic| walk_at "call") => `(tactic| fail)
local macro_rules | `(tactic| walk_at "early") => `(tactic| fail)
local macro_rules | `(tactic| walk_at "v1") => `(tactic| first
 |walk_at "early"
 |walk_at "u1"
 |((with_reducible show gQ _ _ _ _);refine L0 (by walk_at "sq") ?_)
 |((with_reducible show Gh _ _ _ _);refine LX (by walk_at "sq") ?_)
 |with_reducible refine MG ?_
 |with_reducible refine Mc ?_
 |((with_reducible show Nz _ _ _);refine Ma (by walk_at "fits") ?_;intro _ _ _ _ _)
 |((with_reducible show MV _ _ _);refine Nv (by walk_at "fits") ?_;intro _ _ _ _ _)
 |((with_reducible show AG _ _ _ _);refine Hh (by walk_at "sq") ?_;intro _ _ _ _ _)
 |((with_reducible show Hw _ false (V.int _) _ _ _);refine NY (by walk_at "sq") ?_)
 |((with_reducible show J7 _ _ _ _);refine NM (by walk_at "sq") ?_)
 |((with_reducible show ∃b:PK,V.ref _=V.ref _/\_);refine fN (by walk_at "sq") ?_)
 |with_reducible refine Mh ?_
 |((with_reducible show qp _ _ _ _ _ _);refine Nu (by walk_at "sq") ?_;intro _ _ _ _ _)
 |with_reducible refine F7 ?_
 |with_reducible refine HM ?_
 |with_reducible refine OG ?_
 |with_reducible refine Oh ?_
 |walk_at "call")
local macro_rules | `(tactic| walk_at "z") => `(tactic| repeat walk_at "v1")
local macro_rules | `(tactic| walk_at "v") => `(tactic| repeat (first | with_reducible refine Fx ?_ | walk_at "v1"))
theorem xk{α:Type}{f:α->V}:∀{xs:List α}{g:α->V}{ys:List V},Qd (fun x v=>∃p,x=g p/\v=f p) (xs.map g) ys->(∀p q,g p=g q->p=q)->ys=xs.map f
 |[],_,_,.nil,_=>rfl
 |x::r,g,_,.cons ⟨p,e,e'⟩ t,inj=>by
  have:=inj _ _ e
  subst this
  rw[e',xk t inj]
  rfl
theorem LJ:∀p q:Int,V.int p=V.int q->p=q:=fun _ _ e=>V.int.inj e
theorem JB{ns:List Int}{x:V}(h:x∈ns.map V.int):∃i∈ns,x=V.int i:=by
 obtain⟨i,hi,e⟩:=P9.mp h
 exact⟨i,hi,e.symm⟩
theorem CT(ns:List Int)(lo hi:Option Int):∃ms:List Int,iU (ns.map V.int) lo hi=ms.map V.int/\ms.length<=ns.length/\∀m∈ms,m∈ns:=by
 exists (ns.drop (HT.zc (ns.map V.int).length 0 lo)).take (HT.zc (ns.map V.int).length (ns.map V.int).length hi-HT.zc (ns.map V.int).length 0 lo),?_,?_
 ·unfold iU
  rw[UX,XW]
 ·rw[QY,Rq]
  omega
 ·intro m hm
  exact Ul (SD hm)
theorem MS(xs:List V)(lo hi:Nat):(iU xs (some (lo:Int)) (some (hi:Int))).length<=hi-lo:=by
 unfold iU
 rw[HT.og,HT.og,QY]
 omega
noncomputable def B9(ps:List Int)(L:Int):Int:=(ps.map (min · L)).sum
noncomputable def IH(ps:List Int)(price L:Int):Prop:=1<=L/\price<=B9 ps L/\B9 ps (L-1)<price
theorem Cj:∀{a b:List Int},a.Perm b->a.sum=b.sum:=by
 intro a b h
 induction h with
 |nil=>rfl
 |cons x _ ih=>simp only[Ra,ih]
 |swap x y l=>simp only[Ra];omega
 |trans _ _ i1 i2=>exact i1.trans i2
theorem CQ{a b:List Int}(h:a.Perm b)(L:Int):B9 a L=B9 b L:=Cj (h.map _)
theorem DK(a b:List Int)(L:Int):B9 (a++b) L=B9 a L+B9 b L:=by
 unfold B9
 rw[Rj,Ut]
theorem B7(x:Int)(b:List Int)(L:Int):B9 (x::b) L=min x L+B9 b L:=by
 unfold B9
 rw[Qu,Ra]
theorem ze{L:Int}:∀{l:List Int},(∀y∈l,y<=L)->B9 l L=l.sum
 |[],_=>rfl
 |x::r,h=>by
  have hx:=h x QH
  rw[B7,ze fun y hy=>h y (Qs _ hy),Ra]
  omega
theorem FE{L:Int}:∀{l:List Int},(∀y∈l,L<=y)->B9 l L=(l.length:Int)*L
 |[],_=>by simp[B9]
 |x::r,h=>by
  have hx:=h x QH
  rw[B7,FE fun y hy=>h y (Qs _ hy),QU]
  have e:((r.length+1:Nat):Int)*L=(r.length:Int)*L+L:=by
   rw[Uu,UT]
   simp
  rw[e]
  omega
theorem G1{pre post:List Int}{x m p price:Int}(hp:p=(post.length:Int)+1)(hm:m=price-pre.sum)(hm0:0<m)(hA:∀y∈pre,y*p<m)(hx:m<=x*p)(hpost:∀y∈post,x<=y):
  IH (pre++x::post) price ((m+p-1)/p):=by
 have p0:0<p:=by omega
 have e:=VT (m+p-1) p
 have r0:=Su (m+p-1) (show p≠0 by omega)
 have r1:=Tu (m+p-1) p0
 generalize (m+p-1)/p=L at *
 generalize (m+p-1)%p=r at *
 have e1:p*(L-1)=p*L-p:=by rw[Xr,VM]
 have hL:L<=x:=by
  rcases Sh x L with h|h
  ·exfalso
   have:x*p<=(L-1)*p:=U1 (by omega) (by omega)
   rw[S8 (L-1) p]at this
   omega
  ·exact h
 have hpre:∀y∈pre,y<=L-1:=fun y hy=>by
  rcases Sh y L with h|h
  ·omega
  ·exfalso
   have h1:L*p<=y*p:=U1 h (by omega)
   rw[S8 L p]at h1
   have h2:=hA y hy
   omega
 have hL1:1<=L:=by
  rcases Sh 0 L with h|h
  ·omega
  ·exfalso
   have:p*L<=p*0:=Yy h (by omega)
   rw[Int.mul_zero]at this
   omega
 have g:∀M,M<=L->(∀y∈pre,y<=M)->B9 (pre++x::post) M=pre.sum+p*M:=fun M hM hpre=>by
  rw[DK,ze hpre,FE (l:=x::post) fun y hy=>by
   rcases Qb.mp hy with rfl|hy
   ·omega
   ·have:=hpost y hy;omega]
  rw[QU,hp]
  rfl
 exists hL1,?_
 ·rw[g L (RS _) fun y hy=>by have:=hpre y hy;omega]
  omega
 ·rw[g (L-1) (by omega) hpre]
  omega
theorem JJ{pre:List Int}{x m p:Int}(hp:1<=p)(hx0:0<=x)(hpre:∀y∈pre,y<=x)(hn:¬m<=x*p):0<m-x/\∀y∈pre++[x],y*(p-1)<m-x:=by
 have e:x*(p-1)=x*p-x:=by rw[Xr,VM]
 have z:0<=x*(p-1):=Vc hx0 (by omega)
 refine⟨by omega,fun y hy=>?_⟩
 rcases QC.mp hy with h|h
 ·have:y*(p-1)<=x*(p-1):=U1 (hpre y h) (by omega)
  omega
 ·have:y=x:=by simpa using h
  subst this
  omega
theorem qh:∀{l:List Int},(∀y∈l,0<=y)->0<=l.sum
 |[],_=>RS 0
 |x::r,h=>by
  have h1:=h x QH
  have h2:=qh fun y hy=>h y (Qs _ hy)
  rw[Ra]
  omega
theorem Ip(l:List Int)(x:Int):(l++[x]).sum=l.sum+x:=by
 rw[Ut]
 simp
theorem bw{α β:Type}(f:α->β)(d:α)(xs:List α):(P4 xs.length).map (fun i=>f (xs.getD i d))=xs.map f:=by
 apply S2
 ·simp
 ·intro k h1 h2
  have hk:k<xs.length:=by simpa using h1
  simp[Qm,hk]
theorem vM{α β:Type}{F:α->β->Prop}:∀{a c:List α}{b d:List β},Qd F a b->Qd F c d->Qd F (a++c) (b++d)
 |_,_,_,_,.nil,h=>h
 |_,_,_,_,.cons r t,h=>.cons r (vM t h)
noncomputable def mZ:Nat->Nat
 |0=>1
 |n+1=>R5 (mZ n) (n+1)
theorem zV:∀n,0<mZ n
 |0=>Nat.one_pos
 |n+1=>WG (zV n) (Ws n)
theorem y3:∀n,n<21->mZ n<=232792560:=by decide +kernel
theorem Lf:∀n,n<21->∀k,k<21->(1<=k/\k<=n)->k∣mZ n:=by decide +kernel
theorem J1{s n m:Nat}(hs:0<s)(hn:0<n)(hm:s∣m)(hle:m<=R5 s n)(hne:m%n≠0):m+s<=R5 s n:=by
 obtain⟨a,rfl⟩:=hm
 obtain⟨b,hb⟩:=WU s n
 have h1:n∣R5 s n:=Nat.dvd_lcm_right s n
 have h2:s*a≠R5 s n:=fun e=>hne (Nat.mod_eq_zero_of_dvd (e▸h1))
 rw[hb]at hle h2 ⊢
 have h3:a<b:=by
  rcases WB a b with h|h
  ·exact h
  ·exact absurd (Wt hle (XZ s h)) h2
 calc s*a+s=s*(a+1):=by rw[Nat.mul_add,Nat.mul_one]
  _<=s*b:=XZ s h3
theorem Li{s n m:Nat}(hm0:0<m)(hm:s∣m)(hle:m<=R5 s n)(h0:m%n=0):m=R5 s n:=
 Wt hle (XR hm0 (Nat.lcm_dvd hm (Nat.dvd_of_mod_eq_zero h0)))
noncomputable def LK(w:Nat)(b:Nat->Bool):List Int:=((P4 w).filter b).map fun k:Nat=>(k:Int)
theorem NF{w:Nat}{b:Nat->Bool}{k:Nat}:((k:Int)∈LK w b)↔(k<w/\b k=true):=by
 unfold LK
 constructor
 ·intro h
  obtain⟨j,hj,e⟩:=P9.mp h
  have:j=k:=by omega
  subst this
  exact⟨Q6.mp (QL.mp hj).1,(QL.mp hj).2⟩
 ·rintro⟨h1,h2⟩
  exact P9.mpr ⟨k,QL.mpr ⟨Q6.mpr h1,h2⟩,rfl⟩
theorem Gy{v w:Nat}(hv:v<=20)(hw:w<=13):mZ v ^ w<=232792560 ^ 13:=
 P6 (Nat.pow_le_pow_left (y3 v (by omega)) w) (Wo (by decide) hw)
theorem fX(v w:Nat):0<mZ v ^ w:=Nat.pow_pos (zV v)
theorem HW:(232792560:Int) ^ 13*1000000000000*1000000000000<nh:=by decide +kernel
theorem qg{v w:Nat}(hv:v<=20)(hw:w<=13):((mZ v ^ w:Nat):Int)<=232792560 ^ 13:=by
 have h:=Int.ofNat_le.mpr (Gy hv hw)
 have e:((232792560 ^ 13:Nat):Int)=232792560 ^ 13:=by decide +kernel
 rw[e]at h
 exact h
noncomputable def sumTo(v:Nat)(f:Nat->Int):Int:=((P4 v).map f).sum
theorem eP(v:Nat)(f:Nat->Int):sumTo (v+1) f=sumTo v f+f v:=by
 unfold sumTo
 rw[Td,Rj,Ut]
 simp
theorem vF:∀{v:Nat}{f g:Nat->Int},(∀i,i<v->f i<=g i)->sumTo v f<=sumTo v g
 |0,_,_,_=>RS 0
 |v+1,f,g,h=>by
  have h1:=vF (v:=v) fun i hi=>h i (by omega)
  have h2:=h v (by omega)
  rw[eP,eP]
  omega
theorem zB(f g:Nat->Int):∀v,sumTo v (fun i=>f i-g i)=sumTo v f-sumTo v g
 |0=>rfl
 |v+1=>by
  rw[eP,eP,eP,zB f g v]
  omega
noncomputable def Bs(W:Nat->Nat->Bool)(p:Nat->Int)(k:Nat)(L:Int)(i:Nat):Int:=if W i k=true then min (p i) L else 0
noncomputable def uf(v:Nat)(W:Nat->Nat->Bool)(p:Nat->Int)(k:Nat)(L:Int):Int:=sumTo v (Bs W p k L)
noncomputable def Hx(v:Nat)(W:Nat->Nat->Bool)(p:Nat->Int)(k:Nat):Int:=sumTo v fun i=>if W i k=true then p i else 0
theorem CY{v:Nat}{W:Nat->Nat->Bool}{p:Nat->Int}{k:Nat}{L M:Int}(h:L<=M):uf v W p k L<=uf v W p k M:=
 vF fun i _=>by
  unfold Bs
  split<;>omega
theorem wK(v:Nat)(W:Nat->Nat->Bool)(p:Nat->Int)(k:Nat)(L:Int):uf v W p k L<=Hx v W p k:=
 vF fun i _=>by
  unfold Bs
  split<;>omega
theorem ML{W:Nat->Nat->Bool}{p:Nat->Int}{k:Nat}{L:Int}{i:Nat}(h:0<=p i)(hL:0<=L):0<=Bs W p k L i:=by
 unfold Bs
 split<;>omega
theorem MP{W:Nat->Nat->Bool}{p:Nat->Int}{k:Nat}{L:Int}{i:Nat}(h:0<=p i):Bs W p k L i<=p i:=by
 unfold Bs
 split<;>omega
structure sP where
 v:Nat
 n:Nat
 W:Nat->Nat->Bool
 c:Nat->Int
structure Nx(T:sP)(p:Nat->Int)(done:List Nat)(k:Nat)(L:Int):Prop where
 lt:k<T.n
 new:k∉done
 pos:1<=L
 enough:T.c k<=uf T.v T.W p k L
 least:∀j,j<T.n->j∉done->uf T.v T.W p j (L-1)<T.c j
 first:∀j,j<k->j∉done->uf T.v T.W p j L<T.c j
noncomputable def DV(W:Nat->Nat->Bool)(p:Nat->Int)(k:Nat)(L:Int):Nat->Int:=fun i=>p i-Bs W p k L i
inductive Run(T:sP):(Nat->Int)->List Nat->List (Nat×Int)->Prop
 |stop {p:Nat->Int}{done:List Nat}:(∀k,k<T.n->k∉done->Hx T.v T.W p k<T.c k)->Run T p done []
 |step {p:Nat->Int}{done:List Nat}{k:Nat}{L:Int}{rest:List (Nat×Int)}:Nx T p done k L->Run T (DV T.W p k L) (k::done) rest->Run T p done ((k,L)::rest)
theorem DJ{W:Nat->Nat->Bool}{p:Nat->Int}{k:Nat}{L:Int}{i:Nat}(h:0<=p i):0<=DV W p k L i:=by
 have:=MP (W:=W) (k:=k) (L:=L) h
 unfold DV
 omega
theorem JV{W:Nat->Nat->Bool}{p:Nat->Int}{k:Nat}{L:Int}{i:Nat}(h:0<=p i)(hL:0<=L):DV W p k L i<=p i:=by
 have:=ML (W:=W) (k:=k) h hL
 unfold DV
 omega
theorem F9{T:sP}{p:Nat->Int}{done:List Nat}{k k':Nat}{L L':Int}(h:Nx T p done k L)(h':Nx T p done k' L'):k=k'/\L=L':=by
 have a:∀{k k':Nat}{L L':Int},Nx T p done k L->Nx T p done k' L'->¬L<L':=by
  intro k k' L L' h h' hlt
  have h1:=h'.least k h.lt h.new
  have h2:=CY (v:=T.v) (W:=T.W) (p:=p) (k:=k) (show L<=L'-1 by omega)
  have h3:=h.enough
  omega
 have e:L=L':=by
  have:=a h h'
  have:=a h' h
  omega
 subst e
 have b:∀{k k':Nat},Nx T p done k L->Nx T p done k' L->¬k<k':=by
  intro k k' h h' hlt
  have h1:=h'.first k hlt h.new
  have h3:=h.enough
  omega
 have:=b h h'
 have:=b h' h
 exact⟨by omega,rfl⟩
theorem Ia{T:sP}{p:Nat->Int}{done:List Nat}{k:Nat}{L:Int}(h:Nx T p done k L):T.c k<=Hx T.v T.W p k:=Te h.enough (wK _ _ _ _ _)
theorem DI{T:sP}:∀{p:Nat->Int}{done:List Nat}{s s':List (Nat×Int)},Run T p done s->Run T p done s'->s=s':=by
 intro p done s s' h
 induction h generalizing s' with
 |stop h0=>
  intro h'
  cases h' with
  |stop _=>rfl
  |step n _=>
   have h1:=h0 _ n.lt n.new
   have h2:=Ia n
   omega
 |step n _ ih=>
  intro h'
  cases h' with
  |stop h0=>
   have h1:=h0 _ n.lt n.new
   have h2:=Ia n
   omega
  |step n' r'=>
   obtain⟨e1,e2⟩:=F9 n n'
   subst e1
   subst e2
   rw[ih r']
theorem zI{T:sP}{p:Nat->Int}{done:List Nat}{s:List (Nat×Int)}(h:Run T p done s):(∀x∈s,x.1<T.n/\x.1∉done/\1<=x.2)/\(s.map (·.1)).Nodup:=by
 induction h with
 |stop _=>exact⟨fun _ h=>(by simp at h),Uc⟩
 |step n _ ih=>
  obtain⟨i1,i2⟩:=ih
  exists fun x hx=>?_
  ·rcases Qb.mp hx with e|hx
   ·subst e
    exact⟨n.lt,n.new,n.pos⟩
   ·obtain⟨a,b,c⟩:=i1 x hx
    exact⟨a,fun z=>b (Qs _ z),c⟩
  ·rw[Qu]
   refine RM.mpr ⟨fun z=>?_,i2⟩
   obtain⟨x,hx,e⟩:=P9.mp z
   have:=(i1 x hx).2.1
   rw[e]at this
   exact this QH
theorem ij:∀(n:Nat)(l:List Nat),l.Nodup->(∀x∈l,x<n)->l.length<=n
 |0,l,_,h=>by
  cases l with
  |nil=>exact Qe _
  |cons x r=>exact absurd (h x QH) (Nat.not_lt_zero _)
 |n+1,l,nd,h=>by
  by_cases hn:n∈l
  ·have h1:=ij n (l.erase n) (nd.erase n) fun x hx=>by
    have h2:=(nd.mem_erase_iff).mp hx
    have h3:=h x h2.2
    omega
   rw[WW hn]at h1
   omega
  ·have h1:=ij n l nd fun x hx=>by
    have h3:=h x hx
    have h4:x≠n:=fun e=>hn (e▸hx)
    omega
   omega
theorem yX{α:Type}[BEq α][LawfulBEq α]:∀{l m:List α},l.Nodup->(∀x∈l,x∈m)->l.length<=m.length
 |[],_,_,_=>Q3 _
 |x::r,m,nd,h=>by
  have hx:=h x QH
  obtain⟨n1,n2⟩:=RM.mp nd
  have h1:=yX (l:=r) (m:=m.erase x) n2 fun y hy=>by
   have hne:y≠x:=fun e=>n1 (e▸hy)
   exact(List.mem_erase_of_ne hne).mpr (h y (Qs _ hy))
  rw[WW hx]at h1
  have:=Yk hx
  rw[QU]
  omega
theorem yT(u:Int)(W:Nat->Nat->Bool)(p:Nat->Int)(k:Nat)(L:Int):∀v:Nat,(∀i,i<v->u∣p i)->∃s q:Int,u∣s/\0<=q/\q<=v/\uf v W p k L=s+q*L/\uf v W p k (L-1)=s+q*(L-1)
 |0,_=>⟨0,0,YH u,RS 0,by simp,by simp[uf,sumTo],by simp[uf,sumTo]⟩
 |v+1,h=>by
  obtain⟨s,q,h1,h2,h3,h4,h5⟩:=yT u W p k L v fun i hi=>h i (by omega)
  have hx:=h v (by omega)
  have e1:∀M,uf (v+1) W p k M=uf v W p k M+Bs W p k M v:=fun M=>eP v _
  rw[e1,e1,h4,h5]
  unfold Bs
  by_cases hw:W v k=true
  ·rw[if_pos hw,if_pos hw]
   rcases Sh (p v) L with c|c
   ·exists s+p v,q,YK h1 hx,h2,by omega,?_
    ·rw[Wj (by omega)];omega
    ·rw[Wj (by omega)];omega
   ·exists s,q+1,h1,by omega,by omega,?_
    ·rw[Vk (by omega),UT];omega
    ·rw[Vk (by omega),UT];omega
  ·rw[if_neg hw,if_neg hw]
   exact⟨s,q,h1,h2,by omega,by omega,by omega⟩
theorem Gp{v:Nat}{W:Nat->Nat->Bool}{p:Nat->Int}{k:Nat}{price L rest:Int}(hv:v<=20)(hd:∀i,i<v->rest*(mZ v:Nat)∣p i)(hp:rest*(mZ v:Nat)∣price)(a2:price<=uf v W p k L)(a3:uf v W p k (L-1)<price):uf v W p k L=price/\rest∣L:=by
 obtain⟨s,q,h1,h2,h3,h4,h5⟩:=yT _ W p k L v hd
 have hp0:1<=q:=by
  rcases Sh 0 q with c|c
  ·exact c
  ·have:q=0:=by omega
   subst this
   rw[Int.zero_mul]at h4 h5
   omega
 obtain⟨q,rfl⟩:∃q':Nat,q=q':=⟨q.toNat,by omega⟩
 obtain⟨b,hb⟩:=Lf v (by omega) q (by omega) ⟨by omega,by omega⟩
 obtain⟨m,hm⟩:=Vf hp h1
 have e:price-s=(q:Int)*(rest*((b:Int)*m)):=by
  rw[hm,hb,Int.natCast_mul]
  simp only[Int.mul_assoc,S8,Int.mul_left_comm]
 have c1:rest*((b:Int)*m)<=L:=Int.le_of_mul_le_mul_left (a:=(q:Int)) (by omega) (by omega)
 have c2:L-1<rest*((b:Int)*m):=Int.lt_of_mul_lt_mul_left (a:=(q:Int)) (by omega) (by omega)
 have c3:L=rest*((b:Int)*m):=by omega
 rw[<-c3]at e
 exact⟨by omega,⟨_,c3⟩⟩
inductive gZ(T:sP):(Nat->Int)->List Nat->List (Nat×Int)->Prop
 |stop {p:Nat->Int}{done:List Nat}:(∀k,k<T.n->k∉done->Hx T.v T.W p k<T.c k)->gZ T p done []
 |step {p:Nat->Int}{done:List Nat}{k:Nat}{L:Int}{rest:List (Nat×Int)}:Nx T p done k L->uf T.v T.W p k L=T.c k->gZ T (DV T.W p k L) (k::done) rest->gZ T p done ((k,L)::rest)
theorem gZ.run{T:sP}{p:Nat->Int}{done:List Nat}{s:List (Nat×Int)}(h:gZ T p done s):Run T p done s:=by
 induction h with
 |stop h0=>exact .stop h0
 |step n _ _ ih=>exact .step n ih
theorem Lh{W:Nat->Nat->Bool}{p:Nat->Int}{k:Nat}{L r:Int}{i:Nat}(h:r∣p i)(hL:r∣L):r∣DV W p k L i:=by
 unfold DV Bs
 split
 ·rcases Int.le_total (p i) L with c|c
  ·rw[Wj c,Int.sub_self]
   exact YH r
  ·rw[Vk c]
   exact Vf h hL
 ·rw[Int.sub_zero]
  exact h
theorem jz{t a b:Nat}(h:a<=b):((t ^ a:Nat):Int)∣((t ^ b:Nat):Int):=by
 have:=Nat.pow_dvd_pow t h
 exact_mod_cast this
theorem GW{T:sP}(hv:T.v<=20)(hc:∀k,k<T.n->((mZ T.v ^ T.n:Nat):Int)∣T.c k){p:Nat->Int}{done:List Nat}{s:List (Nat×Int)}(h:Run T p done s):
  done.Nodup->(∀k∈done,k<T.n)->(∀i,i<T.v->((mZ T.v ^ (T.n-done.length):Nat):Int)∣p i)->gZ T p done s:=by
 induction h with
 |stop h0=>exact fun _ _ _=>.stop h0
 |@step p done k L rest n r ih=>
  intro nd hn hp
  have nd':(k::done).Nodup:=RM.mpr ⟨n.new,nd⟩
  have hn':∀j∈k::done,j<T.n:=fun j hj=>by
   rcases Qb.mp hj with e|e
   ·subst e;exact n.lt
   ·exact hn j e
  have hl:=ij T.n _ nd' hn'
  rw[QU]at hl
  have e:T.n-done.length=(T.n-(done.length+1))+1:=by omega
  have ep:((mZ T.v ^ (T.n-done.length):Nat):Int)=((mZ T.v ^ (T.n-(done.length+1)):Nat):Int)*((mZ T.v:Nat):Int):=by
   rw[e,We]
   push_cast
   rfl
  have a3:=n.least k n.lt n.new
  obtain⟨x1,x2⟩:=Gp (rest:=((mZ T.v ^ (T.n-(done.length+1)):Nat):Int)) hv (fun i hi=>by rw[<-ep];exact hp i hi) (by rw[<-ep];exact UN (jz (by omega)) (hc k n.lt)) n.enough a3
  refine .step n x1 (ih nd' hn' fun i hi=>?_)
  rw[QU]
  refine Lh (UN ?_ (hp i hi)) x2
  exact jz (by omega)
noncomputable def kd(rows:List (List Int))(ks:List Int):List Int:=((P4 rows.length).filter fun i=>ks.all fun k=>decide (k∈rows.getD i [])).map fun i:Nat=>(i:Int)
noncomputable def WR(rows:List (List Int))(i k:Nat):Bool:=decide ((k:Int)∈rows.getD i [])
noncomputable def PF(ps:List Int)(i:Nat):Int:=ps.getD i 0
theorem sum_filter{p:Nat->Bool}{f:Nat->Int}:∀n:Nat,(((P4 n).filter p).map f).sum=sumTo n fun i=>if p i=true then f i else 0
 |0=>rfl
 |n+1=>by
  rw[eP,Td,VV,Rj,Ut,sum_filter n,SY]
  by_cases h:p n=true
  ·rw[if_pos h,if_pos h]
   simp
  ·rw[if_neg h,if_neg h]
   simp
noncomputable def oV:Option Int->V
 |none=>.non
 |some i=>.int i
theorem mQ{k:Nat}{done:List Nat}:((k:Int)∈done.map fun k:Nat=>(k:Int))↔k∈done:=by
 constructor
 ·intro h
  obtain⟨j,hj,e⟩:=P9.mp h
  have:j=k:=by omega
  exact this▸hj
 ·exact fun h=>P9.mpr ⟨k,h,rfl⟩
noncomputable def Cn(T:sP)(p:Nat->Int)(done:List Nat)(k:Nat):Option Int->Prop
 |none=>k∈done\/Hx T.v T.W p k<T.c k
 |some L=>k∉done/\1<=L/\T.c k<=uf T.v T.W p k L/\uf T.v T.W p k (L-1)<T.c k
noncomputable def gK(os:List (Option Int)):Option Nat->Prop
 |none=>∀o∈os,o=none
 |some k=>∃L,os[k]?=some (some L)/\∀j M,os[j]?=some (some M)->L<=M/\(j<k->L<M)
theorem Ar{T:sP}{p:Nat->Int}{done:List Nat}{os:List (Option Int)}{k:Nat}{L:Int}(hl:os.length=T.n)(ho:∀j o,os[j]?=some o->Cn T p done j o)(hp:∀i,i<T.v->0<=p i)(hc:∀j,j<T.n->1<=T.c j)(hk:os[k]?=some (some L))(hn:gK os (some k)):Nx T p done k L:=by
 obtain⟨L',e,hmin⟩:=hn
 rw[hk]at e
 have e:L=L':=QX (QX e)
 subst e
 have hkl:k<T.n:=by rw[<-hl];exact(QN.mp hk).1
 obtain⟨a1,a2,a3,a4⟩:=ho k _ hk
 have key:∀j,j<T.n->j∉done->∀M:Int,0<=M->T.c j<=uf T.v T.W p j M->∃N,os[j]?=some (some N)/\N<=M:=by
  intro j hj hjn M hM hle
  have hjl:j<os.length:=by omega
  have hoj:=ho j os[j] (by simp[hjl])
  cases e:os[j]with
  |none=>
   rw[e]at hoj
   rcases hoj with z|z
   ·exact absurd z hjn
   ·have:=wK T.v T.W p j M
    omega
  |some N=>
   rw[e]at hoj
   obtain⟨_,_,_,b4⟩:=hoj
   exists N,by rw[Qj hjl,e]
   rcases Sh M N with c|c
   ·have:=CY (v:=T.v) (W:=T.W) (p:=p) (k:=j) (show M<=N-1 by omega)
    omega
   ·exact c
 refine⟨hkl,a1,a2,a3,fun j hj hjn=>?_,fun j hj hjn=>?_⟩
 ·rcases Sh (uf T.v T.W p j (L-1)) (T.c j)with c|c
  ·exact c
  ·obtain⟨N,h1,h2⟩:=key j hj hjn (L-1) (by omega) c
   have:=(hmin j N h1).1
   omega
 ·rcases Sh (uf T.v T.W p j L) (T.c j)with c|c
  ·exact c
  ·obtain⟨N,h1,h2⟩:=key j (by omega) hjn L (by omega) c
   have:=(hmin j N h1).2 hj
   omega
noncomputable def bO(cs:List Int)(rows:List (List Int)):sP:=⟨rows.length,cs.length,WR rows,fun k=>cs.getD k 0*((mZ rows.length ^ (cs.length+1):Nat):Int)⟩
noncomputable def my(rows:List (List Int))(ps:List Int)(k:Nat)(L:Int):List Int:=(P4 ps.length).map (Bs (WR rows) (PF ps) k L)
noncomputable def iA(rows:List (List Int))(ps:List Int)(k:Nat)(L:Int):List Int:=(P4 ps.length).map (DV (WR rows) (PF ps) k L)
noncomputable def aT(rows:List (List Int)):List Int->List (Nat×Int)->List (Nat×Int×List Int)
 |_,[]=>[]
 |ps,(k,L)::r=>(k,L,my rows ps k L)::aT rows (iA rows ps k L) r
noncomputable def cG(rows:List (List Int)):List Int->List (Nat×Int)->List Int
 |ps,[]=>ps
 |ps,(k,L)::r=>cG rows (iA rows ps k L) r
theorem ic(rows:List (List Int))(ps:List Int)(k:Nat)(L:Int):(iA rows ps k L).length=ps.length:=by simp[iA]
theorem Hm(rows:List (List Int))(ps:List Int)(k:Nat)(L:Int):(my rows ps k L).length=ps.length:=by simp[my]
theorem Mp(n:Nat)(f:Nat->Int)(h:∀i,n<=i->f i=0):PF ((P4 n).map f)=f:=by
 funext i
 unfold PF
 by_cases hi:i<n
 ·simp[Qm,hi]
 ·rw[h i (by omega)]
  simp[Qm,hi]
theorem HV{rows:List (List Int)}{i k:Nat}(h:rows.length<=i):WR rows i k=false:=by
 unfold WR
 have:rows.getD i []=[]:=by simp[Qm,SF h]
 rw[this]
 simp
theorem Ey{ps:List Int}{i:Nat}(h:ps.length<=i):PF ps i=0:=by
 unfold PF
 simp[Qm,SF h]
theorem iN{rows:List (List Int)}{ps:List Int}{k:Nat}{L:Int}(h:ps.length=rows.length):PF (iA rows ps k L)=DV (WR rows) (PF ps) k L:=by
 refine Mp _ _ fun i hi=>?_
 unfold DV Bs
 rw[HV (by omega),Ey hi]
 simp
theorem iI(rows:List (List Int)):∀(ps:List Int)(r:List (Nat×Int)),(aT rows ps r).length=r.length
 |_,[]=>rfl
 |ps,(k,L)::r=>by rw[aT,QU,QU,iI]
theorem jr(rows:List (List Int)):∀(ps:List Int)(r:List (Nat×Int)),∀x∈aT rows ps r,x.2.2.length=ps.length
 |_,[],x,h=>by simp[aT]at h
 |ps,(k,L)::r,x,h=>by
  rw[aT]at h
  rcases Qb.mp h with e|h
  ·subst e
   exact Hm rows ps k L
  ·rw[jr rows (iA rows ps k L) r x h,ic]
theorem oh(rows:List (List Int)):∀(ps:List Int)(r:List (Nat×Int)),(cG rows ps r).length=ps.length
 |_,[]=>rfl
 |ps,(k,L)::r=>by rw[cG,oh rows _ r,ic]
theorem wX(rows:List (List Int)):∀(ps:List Int)(r:List (Nat×Int))(k:Nat)(L:Int),cG rows ps (r++[(k,L)])=iA rows (cG rows ps r) k L
 |_,[],_,_=>rfl
 |ps,(j,M)::r,k,L=>by
  rw[Uq,cG,wX rows (iA rows ps j M) r k L,cG]
theorem wU(rows:List (List Int)):∀(ps:List Int)(r r':List (Nat×Int)),aT rows ps (r++r')=aT rows ps r++aT rows (cG rows ps r) r'
 |_,[],_=>rfl
 |ps,(k,L)::r,r'=>by
  rw[Uq,aT,aT,cG,wU rows (iA rows ps k L) r r']
  rfl
theorem qu(rows:List (List Int)):∀(ps:List Int)(r:List (Nat×Int)),(aT rows ps r).map (fun x=>(x.1,x.2.1))=r
 |_,[]=>rfl
 |ps,(k,L)::r=>by
  rw[aT,Qu,qu rows _ r]
structure Jh(cs:List Int)(rows:List (List Int))(ps:List Int):Prop where
 c12:cs.length<=12
 cb:∀x∈cs,1<=x/\x<=1000000000000
 v1:1<=rows.length
 v20:rows.length<=20
 pl:ps.length=rows.length
 p0:∀p∈ps,0<=p
 pd:∀p∈ps,((mZ rows.length ^ cs.length:Nat):Int)∣p
theorem Jc{ps:List Int}(h:∀p∈ps,0<=p)(i:Nat):0<=PF ps i:=by
 unfold PF
 by_cases hi:i<ps.length
 ·have e:ps.getD i 0=ps[i]:=by simp[Qm,hi]
  rw[e]
  exact h _ (RA hi)
 ·simp[Qm,SF (Vr hi)]
theorem LL{cs:List Int}{rows:List (List Int)}(h:∀x∈cs,1<=x/\x<=1000000000000):∀k,k<cs.length->1<=(bO cs rows).c k:=by
 intro k hk
 have h1:=h (cs.getD k 0) (by simp[Qm,hk])
 have h2:=fX rows.length (cs.length+1)
 have:1*1<=cs.getD k 0*((mZ rows.length ^ (cs.length+1):Nat):Int):=Int.mul_le_mul h1.1 (by omega) (by decide) (by omega)
 show 1<=cs.getD k 0*((mZ rows.length ^ (cs.length+1):Nat):Int)
 omega
theorem N4(cs:List Int)(rows:List (List Int)):∀k,((mZ rows.length ^ cs.length:Nat):Int)∣(bO cs rows).c k:=by
 intro k
 exact UN (jz (RC _)) ⟨cs.getD k 0,S8 _ _⟩
noncomputable def AN(H:Hp)(x:Nat×Int×List Int)(t:PK):Prop:=∃b:PK,H t=some (.tup [.int x.1,.int x.2.1,.ref b])/\H b=some (.lst (x.2.2.map V.int))
noncomputable def hV(H:Hp)(a:PK)(sts:List (Nat×Int×List Int)):Prop:=∃ts:List PK,H a=some (.lst (ts.map V.ref))/\Qd (AN H) sts ts
theorem BJ{H H':Hp}(e:av H H'){x:Nat×Int×List Int}{t:PK}(h:AN H x t):AN H' x t:=by
 obtain⟨b,h1,h2⟩:=h
 exact⟨b,e _ _ h1,e _ _ h2⟩
theorem kW{H H':Hp}(e:av H H'){a:PK}{sts:List (Nat×Int×List Int)}(h:hV H a sts):hV H' a sts:=by
 obtain⟨ts,h1,h2⟩:=h
 exact⟨ts,e _ _ h1,Paired.mapP h2 fun _ _ q=>BJ e q⟩
noncomputable def qH(H0 H:Hp)(l:PK)(x:Nat×Int×List Int)(t:PK):Prop:=∃b:PK,H0 t=none/\H0 b=none/\b≠l/\H t=some (.tup [.int x.1,.int x.2.1,.ref b])/\H b=some (.lst (x.2.2.map V.int))
noncomputable def iX(H0 H:Hp)(l:PK)(sts:List (Nat×Int×List Int)):Prop:=∃ts:List PK,H l=some (.lst (ts.map V.ref))/\Qd (qH H0 H l) sts ts
theorem iX.at{H0 H:Hp}{l:PK}{sts:List (Nat×Int×List Int)}(h:iX H0 H l sts):hV H l sts:=by
 obtain⟨ts,h1,h2⟩:=h
 exact⟨ts,h1,Paired.mapP h2 fun _ _ ⟨b,_,_,_,h3,h4⟩=>⟨b,h3,h4⟩⟩
theorem BM{T:sP}{p:Nat->Int}{d d':List Nat}{k:Nat}{L:Int}(h:∀j,j∈d'↔j∈d)(n:Nx T p d k L):Nx T p d' k L:=
 ⟨n.lt,fun z=>n.new ((h k).mp z),n.pos,n.enough,fun j hj hn=>n.least j hj fun z=>hn ((h j).mpr z),fun j hj hn=>n.first j hj fun z=>hn ((h j).mpr z)⟩
theorem IE{rows:List (List Int)}{ps:List Int}{k:Nat}{L:Int}(h:∀p∈ps,0<=p):∀p∈iA rows ps k L,0<=p:=by
 intro p hp
 obtain⟨i,_,e⟩:=P9.mp hp
 rw[<-e]
 exact DJ (Jc h i)
theorem B1{rows:List (List Int)}:∀{ps:List Int}{r:List (Nat×Int)},(∀p∈ps,0<=p)->∀p∈cG rows ps r,0<=p
 |_,[],h=>h
 |ps,(k,L)::r,h=>by
  rw[cG]
  exact B1 (IE h)
theorem He{cs:List Int}{rows:List (List Int)}{ps:List Int}(g:Jh cs rows ps){s:List (Nat×Int)}(h:Run (bO cs rows) (PF ps) [] s):gZ (bO cs rows) (PF ps) [] s:=by
 refine GW g.v20 (fun k _=>N4 cs rows k) h Uc (fun k hk=>by simp at hk) fun i hi=>?_
 have hi':i<ps.length:=by rw[g.pl];exact hi
 have:PF ps i∈ps:=by unfold PF;simp[Qm,hi']
 exact g.pd _ this
theorem o6{α β:Type}{F:α->β->Prop}:∀{xs:List α}{ts:List β},xs.length=ts.length->(∀(i:Nat)(x:α)(t:β),xs[i]?=some x->ts[i]?=some t->F x t)->Qd F xs ts
 |[],[],_,_=>.nil
 |[],_::_,h,_=>by simp at h
 |_::_,[],h,_=>by simp at h
 |x::r,u::q,hl,h=>.cons (h 0 x u rfl rfl) (o6 (by simpa using hl) fun i y w e e'=>h (i+1) y w (by simpa using e) (by simpa using e'))
theorem Bb{α:Type}{F:α->PK->Prop}{T:PK->Prop}{xs:List α}{ts:List PK}(h:Qd (fun i t=>T t/\∀x,xs[i]?=some x->F x t) (P4 xs.length) ts):Qd F xs ts:=by
 have hl:=Qv h
 rw[S1]at hl
 refine o6 hl fun i x t hx ht=>?_
 obtain⟨j,hj,hF⟩:=km h ht
 have hi:i<xs.length:=(QN.mp hx).1
 have e:j=i:=by
  rw[List.getElem?_range hi]at hj
  exact(QX hj).symm
 subst e
 exact hF.2 x hx
noncomputable def Og(H0 H:Hp)(l:PK)(rows:List (List Int)):Prop:=∃bs:List PK,H l=some (.lst (bs.map V.ref))/\Qd (fun r b=>(H0 b=none/\b≠l)/\H b=some (.lst (r.map V.int))) rows bs
theorem Mo{K:PM}{H:Hp}{a:PK}{rows:List (List Int)}{σ:St}{Q:VK}(h:gF K H a rows)(hz:rows.length<=1000)(hd:∀l H',H l=none->av H H'->Og H H' l rows->Q (.ref l) H'):
  dq [none] (au 0) du (gr (AG K) (ae (af 0) az)) (HA K a) σ H Q:=by
 obtain⟨bs,hB,hP⟩:=h
 have hbl:bs.length=rows.length:=(Qv hP).symm
 have hlm:(bs.map V.ref).length=bs.length:=P7 _
 refine gh (dE (xs:=bs.map V.ref) 0) (fun j=>[some ((bs.map V.ref).getD j .non)]) (by rintro j σ' (rfl|⟨k,rfl⟩)<;>rfl) (fun H' s=>s.seq hB) (by rw[hlm,hbl];exact P6 hz bo) (fun _=>true)
  (fun l i v H'=>∃b,v=.ref b/\(b≠l/\H b=none/\∀r,rows[i]?=some r->H' b=some (.lst (r.map V.int)))) (fun l i v H1 H2 s ⟨b,e,hl,h0,h⟩=>⟨b,e,hl,h0,fun r hr=>s _ _ hl (h r hr)⟩) (fun i hi H' G s k=>k H' (av.refl _)) ?_ ?_
 ·intro l j hj _ H' G hl ⟨o,ho⟩ s k
  rw[hlm]at hj
  have e:(bs.map V.ref).getD j .non=.ref bs[j]:=by simp[Qm,hj]
  rw[e]
  obtain⟨r,hr,hq⟩:=km hP (show bs[j]?=some bs[j] by simp[hj])
  have hq':=s.seq hq
  walk_at "v"
  rename_i b J g t h
  exact k _ _ ⟨b,rfl,(fun z=>by rw[z,ho]at g;cases g),s.free g,fun r' hr'=>by rw[hr]at hr';cases hr';exact h⟩ t
 ·intro l ys H' f s h pr
  rw[R7.mpr (fun _ _=>rfl)]at pr
  obtain⟨tk,rfl,pk⟩:=jt (T:=fun b i=>b≠l/\H b=none/\∀r,rows[i]?=some r->H' b=some (.lst (r.map V.int))) pr
  refine hd l H' f s ⟨tk,h,?_⟩
  rw[hlm,hbl]at pk
  refine Bb (T:=fun b=>b≠l/\H b=none) (Paired.mapP pk fun i b q=>⟨⟨q.1,q.2.1⟩,fun r hr=>⟨⟨q.2.1,q.1⟩,q.2.2 r hr⟩⟩)
noncomputable def bL(ps:List Int)(sts:List (Nat×Int×List Int)):List Int:=(P4 ps.length).map fun i=>ps.getD i 0-(sts.map fun x=>x.2.2.getD i 0).sum
theorem C5{H:Hp}:∀{sts:List (Nat×Int×List Int)}{ts:List PK},Qd (AN H) sts ts->∃bs:List PK,bs.length=sts.length/\∀(i:Nat)(x:Nat×Int×List Int),sts[i]?=some x->∃t b,ts[i]?=some t/\bs[i]?=some b/\H t=some (.tup [.int x.1,.int x.2.1,.ref b])/\H b=some (.lst (x.2.2.map V.int))
 |_,_,.nil=>⟨[],rfl,fun i x h=>by simp at h⟩
 |_,t::_,.cons ⟨b,h1,h2⟩ r=>by
  obtain⟨bs,e,h⟩:=C5 r
  refine⟨b::bs,by simp[e],fun i x hx=>?_⟩
  cases i with
  |zero=>
   simp at hx
   subst hx
   exact⟨t,b,rfl,rfl,h1,h2⟩
  |succ i=>exact h i x (by simpa using hx)
structure vR(H:Hp)(l:PK)(sts:List (Nat×Int×List Int))(ts bs:List PK):Prop where
 lst:H l=some (.lst (ts.map V.ref))
 tl:ts.length=sts.length
 bl:bs.length=sts.length
 ats:∀(i:Nat)(x:Nat×Int×List Int),sts[i]?=some x->∃t b,ts[i]?=some t/\bs[i]?=some b/\H t=some (.tup [.int x.1,.int x.2.1,.ref b])/\H b=some (.lst (x.2.2.map V.int))
theorem hV.b{H:Hp}{l:PK}{sts:List (Nat×Int×List Int)}(h:hV H l sts):∃ts bs,vR H l sts ts bs:=by
 obtain⟨ts,h1,h2⟩:=h
 obtain⟨bs,e,h3⟩:=C5 h2
 exact⟨ts,bs,h1,(Qv h2).symm,e,h3⟩
noncomputable def stN:Nat×Int×List Int:=(0,0,[])
theorem vR.ys{K:PM}{H H':Hp}{l:PK}{sts:List (Nat×Int×List Int)}{ts bs:List PK}(B:vR H l sts ts bs)(s:av H H'):
  aY K H' l (ts.map V.ref)/\∀i t,ts[i]?=some t->kZ K H' t [.int ((sts.getD i stN).1:Nat),.int (sts.getD i stN).2.1,.ref (bs.getD i 0)]:=by
 refine⟨aY.of (s _ _ B.lst),fun i t ht=>?_⟩
 have hi:i<sts.length:=by rw[<-B.tl];exact(QN.mp ht).1
 obtain⟨t',b,a1,a2,a3,_⟩:=B.ats i sts[i] (by simp[hi])
 rw[ht]at a1
 cases a1
 have e1:sts.getD i stN=sts[i]:=by simp[Qm,hi]
 have e2:bs.getD i 0=b:=by rw[Qm,a2];rfl
 rw[e1,e2]
 exact kZ.of (s _ _ a3)
theorem vR.paid{K:PM}{H H':Hp}{l:PK}{sts:List (Nat×Int×List Int)}{ts bs:List PK}(B:vR H l sts ts bs)(s:av H H'){i:Nat}(hi:i<sts.length):aY K H' (bs.getD i 0) ((sts.getD i stN).2.2.map V.int):=by
 obtain⟨t',b,a1,a2,_,a4⟩:=B.ats i sts[i] (by simp[hi])
 have e1:sts.getD i stN=sts[i]:=by simp[Qm,hi]
 have e2:bs.getD i 0=b:=by rw[Qm,a2];rfl
 rw[e1,e2]
 exact aY.of (s _ _ a4)
theorem IG:gK [] none:=fun o h=>by simp at h
theorem FZ{os:List (Option Int)}{k:Option Nat}(h:gK os k):gK (os++[none]) k:=by
 cases k with
 |none=>
  intro o ho
  rcases QC.mp ho with h1|h1
  ·exact h o h1
  ·simpa using h1
 |some k=>
  obtain⟨L,h1,h2⟩:=h
  have hk:=(QN.mp h1).1
  refine⟨L,by rw[Sj hk];exact h1,fun j M hj=>?_⟩
  by_cases hjl:j<os.length
  ·rw[Sj hjl]at hj
   exact h2 j M hj
  ·rw[Tn (by omega)]at hj
   cases e:j-os.length with
   |zero=>rw[e]at hj;simp at hj
   |succ n=>rw[e]at hj;simp at hj
theorem Eu{os:List (Option Int)}{M:Int}(h:gK os none):gK (os++[some M]) (some os.length):=by
 refine⟨M,by simp,fun j N hj=>?_⟩
 by_cases hjl:j<os.length
 ·rw[Sj hjl]at hj
  have:=h _ (Tg hj)
  cases this
 ·rw[Tn (by omega)]at hj
  cases e:j-os.length with
  |zero=>
   rw[e]at hj
   have:M=N:=by simpa using hj
   subst this
   exact⟨RS _,fun z=>by omega⟩
  |succ n=>rw[e]at hj;simp at hj
theorem F5{os:List (Option Int)}{k:Nat}{L M:Int}(h:gK os (some k))(hk:os[k]?=some (some L))(hM:M<L):gK (os++[some M]) (some os.length):=by
 obtain⟨L',h1,h2⟩:=h
 rw[hk]at h1
 cases h1
 refine⟨M,by simp,fun j N hj=>?_⟩
 by_cases hjl:j<os.length
 ·rw[Sj hjl]at hj
  have:=(h2 j N hj).1
  exact⟨by omega,fun _=>by omega⟩
 ·rw[Tn (by omega)]at hj
  cases e:j-os.length with
  |zero=>
   rw[e]at hj
   have:M=N:=by simpa using hj
   subst this
   exact⟨RS _,fun z=>by omega⟩
  |succ n=>rw[e]at hj;simp at hj
theorem F6{os:List (Option Int)}{k:Nat}{L M:Int}(h:gK os (some k))(hk:os[k]?=some (some L))(hM:¬M<L):gK (os++[some M]) (some k):=by
 have hkl:=(QN.mp hk).1
 obtain⟨L',h1,h2⟩:=h
 rw[hk]at h1
 cases h1
 refine⟨L,by rw[Sj hkl];exact hk,fun j N hj=>?_⟩
 by_cases hjl:j<os.length
 ·rw[Sj hjl]at hj
  exact h2 j N hj
 ·rw[Tn (by omega)]at hj
  cases e:j-os.length with
  |zero=>
   rw[e]at hj
   have:M=N:=by simpa using hj
   subst this
   exact⟨by omega,fun z=>by omega⟩
  |succ n=>rw[e]at hj;simp at hj
noncomputable def dA(rows:List (List Int))(k:Nat):List Nat:=(P4 rows.length).filter fun i=>WR rows i k
theorem xn(rows:List (List Int))(k:Nat):kd rows [(k:Int)]=(dA rows k).map fun i:Nat=>(i:Int):=by
 unfold kd dA WR
 congr 2
 funext i
 simp
theorem wc{rows:List (List Int)}{k i:Nat}:((i:Int)∈kd rows [(k:Int)])↔WR rows i k=true:=by
 rw[xn,mQ]
 unfold dA
 rw[QL]
 constructor
 ·exact fun h=>h.2
 ·intro h
  refine⟨Q6.mpr ?_,h⟩
  rcases WB i rows.length with c|c
  ·exact c
  ·rw[HV c]at h
   cases h
theorem Ci(rows:List (List Int))(ps:List Int)(k:Nat):((dA rows k).map (PF ps)).sum=Hx rows.length (WR rows) (PF ps) k:=by
 unfold dA
 rw[sum_filter]
 rfl
theorem HF(rows:List (List Int))(ps:List Int)(k:Nat)(L:Int):B9 ((dA rows k).map (PF ps)) L=uf rows.length (WR rows) (PF ps) k L:=by
 unfold B9 dA
 rw[Qn,sum_filter]
 rfl
theorem G7(rows:List (List Int))(k:Nat):(dA rows k).length<=rows.length:=by
 unfold dA
 have:=Rz (fun i=>WR rows i k) (P4 rows.length)
 rwa [S1]at this
theorem JN{rows:List (List Int)}{k i:Nat}(h:i∈dA rows k):i<rows.length:=Q6.mp (QL.mp h).1
theorem yQ(rows:List (List Int)):∀(r:List (Nat×Int))(ps:List Int)(i:Nat),i<ps.length->(cG rows ps r).getD i 0=ps.getD i 0-((aT rows ps r).map fun x=>x.2.2.getD i 0).sum
 |[],ps,i,_=>by simp[cG,aT]
 |(k,L)::r,ps,i,hi=>by
  rw[cG,yQ rows r (iA rows ps k L) i (by rw[ic];exact hi),aT,Qu,Ra]
  have e1:(iA rows ps k L).getD i 0=ps.getD i 0-Bs (WR rows) (PF ps) k L i:=by
   unfold iA
   simp[Qm,hi,DV,PF]
  have e2:(my rows ps k L).getD i 0=Bs (WR rows) (PF ps) k L i:=by
   unfold my
   simp[Qm,hi]
  rw[e1,e2]
  omega
theorem gU(rows:List (List Int))(ps:List Int)(r:List (Nat×Int)):bL ps (aT rows ps r)=cG rows ps r:=by
 apply S2
 ·unfold bL
  rw[P7,S1,oh]
 ·intro i h1 h2
  have hi:i<ps.length:=by rw[oh]at h2;exact h2
  have:=yQ rows r ps i hi
  have e:(cG rows ps r).getD i 0=(cG rows ps r)[i]:=by simp[Qm,h2]
  rw[e]at this
  rw[this]
  unfold bL
  simp
theorem wJ(rows:List (List Int))(ps:List Int)(r:List (Nat×Int)):(aT rows ps r).map (·.1)=r.map (·.1):=by
 have:=congrArg (RE (·.1)) (qu rows ps r)
 rw[Qn]at this
 exact this
structure Pre(cs:List Int)(rows:List (List Int))(ps:List Int)(r:List (Nat×Int)):Prop where
 nd:(r.map (·.1)).Nodup
 lt:∀x∈r,x.1<cs.length
 on:∀rest,Run (bO cs rows) (PF (cG rows ps r)) (r.map (·.1)).reverse rest->Run (bO cs rows) (PF ps) [] (r++rest)
theorem FQ(cs:List Int)(rows:List (List Int))(ps:List Int):Pre cs rows ps []:=⟨Uc,fun _ h=>by simp at h,fun _ h=>h⟩
theorem Pre.len{cs:List Int}{rows:List (List Int)}{ps:List Int}{r:List (Nat×Int)}(h:Pre cs rows ps r):r.length<=cs.length:=by
 have:=ij cs.length _ h.nd fun x hx=>by
  obtain⟨y,hy,e⟩:=P9.mp hx
  rw[<-e]
  exact h.lt y hy
 rwa [P7]at this
theorem Pre.snoc{cs:List Int}{rows:List (List Int)}{ps:List Int}{r:List (Nat×Int)}{k:Nat}{L:Int}(h:Pre cs rows ps r)(hl:ps.length=rows.length)(n:Nx (bO cs rows) (PF (cG rows ps r)) (r.map (·.1)) k L):Pre cs rows ps (r++[(k,L)]):=by
 exists ?_,?_
 ·rw[Rj]
  refine Yu.mpr ⟨h.nd,by simp,?_⟩
  intro a ha b hb e
  have:b=k:=by simpa using hb
  subst this
  subst e
  exact n.new ha
 ·intro x hx
  rcases QC.mp hx with z|z
  ·exact h.lt x z
  ·have:x=(k,L):=by simpa using z
   subst this
   exact n.lt
 ·intro rest hr
  rw[wX,iN (by rw[oh];exact hl),Rj,List.reverse_append]at hr
  have hr:Run (bO cs rows) (DV (WR rows) (PF (cG rows ps r)) k L) (k::(r.map (·.1)).reverse) rest:=hr
  have:=h.on ((k,L)::rest) (.step (BM (fun j=>by simp) n) hr)
  rwa [VZ]
theorem Pre.stop{cs:List Int}{rows:List (List Int)}{ps:List Int}{r:List (Nat×Int)}(h:Pre cs rows ps r)(n:∀k,k<cs.length->k∉r.map (·.1)->Hx rows.length (WR rows) (PF (cG rows ps r)) k<(bO cs rows).c k):Run (bO cs rows) (PF ps) [] r:=by
 have:=h.on [] (.stop fun k hk hn=>n k hk fun z=>hn (by simpa using z))
 rwa [Um]at this
theorem Eg{ps:List Int}{i:Nat}(h:i<ps.length):(ps.map V.int)[i]?=some (V.int (PF ps i)):=by
 unfold PF
 simp[Qm,h]
theorem Ba{H0 H:Hp}{ls:PK}{o:HO}{xs:List V}{sts:List (Nat×Int×List Int)}{ts:List PK}(h:Qd (qH H0 H ls) sts ts)(hl:H ls=some (.lst xs)):Qd (qH H0 (upd H ls o) ls) sts ts:=by
 refine Paired.mapP h fun x t ⟨b,z1,z2,z3,z4,z5⟩=>⟨b,z1,z2,z3,?_,?_⟩
 ·rw[ak fun e=>by rw[e,hl]at z4;cases z4]
  exact z4
 ·rw[ak z3]
  exact z5
noncomputable def nG(c:Nat):Bool:=decide (48<=c)&&decide (c<=57)
noncomputable def Iz(cs:List Nat):Bool:=if cs.head?=some 48 then decide (cs=[48])else(decide (1<=cs.length)&&decide (cs.length<=13))&&cs.all nG
noncomputable def i6(z:PH):Bool:=Iz z.cps.toList
noncomputable def aV(z:PH):Prop:=z.cps.all (· < 128)=true
theorem Iq{cs:List Nat}(h:Iz cs=true):VO cs/\cs≠[]/\cs.length<=13/\(cs.length=1\/∃c r,cs=c::r/\49<=c):=by
 unfold Iz at h
 split at h
 ·have e:=of_decide_eq_true h
  subst e
  exact⟨fun c hc=>by simp at hc;omega,by simp,by decide,.inl rfl⟩
 ·rename_i hh
  simp only[QW,decide_eq_true_eq,Rt]at h
  obtain⟨⟨h1,h2⟩,h3⟩:=h
  have hd:VO cs:=fun c hc=>by
   have:=h3 c hc
   simpa[nG]using this
  cases cs with
  |nil=>simp at h1
  |cons c r=>
   refine⟨hd,by simp,h2,.inr ⟨c,r,rfl,?_⟩⟩
   have:=hd.head
   have hc:c≠48:=fun z=>hh (by rw[z];rfl)
   omega
theorem IS:∀(cs:List Nat)(a:Nat),VO cs->cs.foldl (fun acc c=>acc*10+(c-48)) a<(a+1)*10 ^ cs.length
 |[],a,_=>by simp
 |c::cs,a,h=>by
  have h1:=h.head
  have h2:=IS cs (a*10+(c-48)) h.tail
  have h3:(a*10+(c-48)+1)*10 ^ cs.length<=(a+1)*10 ^ (c::cs).length:=by
   rw[QU,We,Yv (10 ^ cs.length) 10,<-Nat.mul_assoc]
   exact SG _ (by omega)
  exact QD h2 h3
theorem vg{z:PH}(h:i6 z=true):∃n:Int,0<=n/\n.natAbs.log2<1920/\Wb z=some n/\((toString n:String):PH)=z/\z.length<=13:=by
 obtain⟨h1,h2,h3,h4⟩:=Iq h
 have hl:z.cps.toList.length=z.length:=by simp[UP]
 refine⟨(S0 z.cps.toList:Nat),by omega,?_,PySem.intText_digits h1 h2 (by omega),?_,by omega⟩
 ·have hb:S0 z.cps.toList<10 ^ 13:=by
   have:=IS z.cps.toList 0 h1
   have hp:10 ^ z.cps.toList.length<=10 ^ 13:=Wo (by decide) h3
   unfold S0
   omega
  rw[YL]
  have:(S0 z.cps.toList).log2<=60:=by
   by_cases e:S0 z.cps.toList=0
   ·rw[e];decide
   ·exact SU ((VG e).mpr (QD hb (by decide)))
  omega
 ·have e:=aal (z.cps.toList.length-1) z.cps.toList (by have:=Uj.mpr h2;omega) h1 (by rcases h4 with h4|h4;exact .inl (by omega);exact .inr h4)
  have e2:=X8 (S0 z.cps.toList)
  refine Wx ?_
  apply Wv
  rw[show(((toString ((S0 z.cps.toList:Nat):Int):String):PH)).cps.toList=_ from e2,e,Qn]
  have:∀c∈z.cps.toList,(U3 ∘ VD) c=c:=fun c hc=>by
   have:=h1 c hc
   have hv:c.isValidChar:=.inl (by omega)
   show(VD c).toNat=c
   rw[VD,dif_pos hv]
   rfl
  rw[Ss this,UO]
noncomputable def ur:Bool->List Nat->Bool
 |b,[]=>b
 |b,c::t=>if c=32 then(b || ur true t)else ur false t
noncomputable def dS:List (List Nat)->List Nat
 |[]=>[]
 |[p]=>p
 |p::q::r=>p++32::dS (q::r)
theorem wk:∀(p t:List Nat)(b:Bool),32∉p->p≠[]->ur b (p++32::t)=ur true t/\ur b p=false
 |[],_,_,_,h=>absurd rfl h
 |c::p,t,b,h,_=>by
  have hc:c≠32:=fun z=>h (by simp[z])
  have hp:32∉p:=fun z=>h (by simp[z])
  cases p with
  |nil=>simp[ur,hc]
  |cons d p=>
   have ih:=wk (d::p) t false hp (by simp)
   exact⟨by rw[Uq,ur,if_neg hc];exact ih.1,by rw[ur,if_neg hc];exact ih.2⟩
theorem Bw:∀(ps:List (List Nat)),ps≠[]->(∀p∈ps,32∉p)->(ur true (dS ps)=true↔[]∈ps)
 |[],h,_=>absurd rfl h
 |[p],_,hp=>by
  by_cases e:p=[]
  ·subst e;simp[dS,ur]
  ·have:=(wk p [] true (hp p (by simp)) e).2
   simp only[dS,this]
   simp
   exact fun z=>e z
 |p::q::r,_,hp=>by
  have ih:=Bw (q::r) (by simp) (fun x hx=>hp x (by simp[Qb.mp hx]))
  by_cases e:p=[]
  ·subst e;simp[dS,ur]
  ·rw[dS,(wk p _ true (hp p (by simp)) e).1,ih]
   constructor
   ·exact fun h=>Qs _ h
   ·intro h
    rcases Qb.mp h with h|h
    ·exact absurd h.symm e
    ·exact h
theorem zq:(" ":PH)=⟨#[32]⟩:=by decide +kernel
theorem yV:("0":PH)=⟨#[48]⟩:=by decide +kernel
theorem AA:("":PH)=⟨#[]⟩:=by decide +kernel
theorem jd{a b:PH}:a=b↔a.cps.toList=b.cps.toList:=⟨fun h=>by rw[h],fun h=>Wx (Wv h)⟩
theorem aP(z:PH):z.cps.toList.length=z.length:=by simp[UP]
theorem De(x y:PH):QJ x y≠[]:=by
 unfold QJ
 split
 ·simp
 ·split
  ·simp
  ·intro h
   have:=congrArg Ts h
   rw[PySem.length_partsBetween]at this
   simp at this
theorem i3:∀ps:List PH,(QP ⟨#[32]⟩ ps).cps.toList=dS (ps.map (·.cps.toList))
 |[]=>rfl
 |[x]=>rfl
 |x::y::r=>by
  have ih:=i3 (y::r)
  show((x++(⟨#[32]⟩:PH)++QP ⟨#[32]⟩ (y::r)).cps).toList=x.cps.toList++32::dS ((y::r).map (·.cps.toList))
  rw[Uv,Uv,<-ih]
  simp
theorem G6(z:PH):("":PH)∈QJ z " "↔ur true z.cps.toList=true:=by
 rw[zq]
 have h:=Bw ((QJ z ⟨#[32]⟩).map (·.cps.toList)) (fun e=>De _ _ (VE.mp e)) (fun p hp=>by
  obtain⟨x,hx,rfl⟩:=P9.mp hp
  exact Xz z 32 x hx)
 rw[<-i3,TC]at h
 rw[h,P9]
 constructor
 ·intro e
  exact⟨_,e,by rw[AA]⟩
 ·rintro⟨x,hx,e⟩
  have:x=("":PH):=by rw[AA];exact jd.mpr e
  rw[<-this]
  exact hx
theorem yU:∀ps:List (List Nat),ps.length<=(dS ps).length+1
 |[]=>by simp
 |[p]=>by simp
 |p::q::r=>by
  have:=yU (q::r)
  simp only[dS,QV,QU]at *
  omega
theorem split_len(z:PH):(QJ z " ").length<=z.length+1:=by
 rw[zq]
 have h:=yU ((QJ z ⟨#[32]⟩).map (·.cps.toList))
 rw[<-i3,TC,P7,aP]at h
 exact h
theorem repr_fits{z:PH}(ha:aV z)(hz:z.length<=100000):(TZ z).length<=1000002:=by
 have:=YT z (fun c hc=>by
  have:=Array.all_eq_true'.mp ha c (by simpa using hc)
  have:=of_decide_eq_true this
  exact UB this (by decide))
 omega
theorem A4{a:PH}{xs:List PH}:L2.NC (.str a) (xs.map V.str)=decide (a∈xs):=by
 unfold L2.NC
 rw[Xs,Rh,VR,decide_eq_true_eq]
 constructor
 ·rintro⟨y,hy,e⟩
  have e:(y==a)=true:=e
  rw[<-eq_of_beq e]
  exact hy
 ·intro h
  exact⟨a,h,by show(a==a)=true;simp⟩
theorem su(xs:List PH):(xs.map V.str).all L2.pb=true:=by
 rw[TX,Rt]
 intro x _
 rfl
theorem Iy(z:PH):(decide (0+("0":PH).length<=z.length)&&aas z "0" 0)=decide (z.cps.toList.head?=some 48):=by
 rw[yV,Rh,QW,decide_eq_true_eq,decide_eq_true_eq,Zb z 48 0]
 cases z.cps.toList<;>simp
theorem Le(c:Nat):(!(Ua ("0123456789":PH) ⟨#[c]⟩ 0 ("0123456789":PH).length 1).isEmpty)=nG c:=by
 rw[Xn,show("0123456789":PH).cps.toList=Wl 48 10 by decide +kernel,Rh]
 simp only[nG,decide_eq_true_eq,QW,Yg]
 omega
section
variable {H:Hp}{Q:VK}{z a b:PH}
theorem size_eq:PZ=16777216:=by decide
theorem iW(h:a.length+b.length<=16777216)(q:Q (.str (a++b)) H):dh (.str a) (.str b) H Q:=⟨a,b,rfl,rfl,by rw[size_eq];exact h,q⟩
theorem MI(h:z.length<=16777216)(q:Q (.int z.length) H):ve [.str z] H Q:=⟨z,rfl,by rw[size_eq];exact h,q⟩
theorem NQ(q:Q (.bl (!(Ua b a 0 b.length 1).isEmpty)) H):Jx (.str a) (.str b) H Q:=⟨a,b,rfl,rfl,q⟩
theorem NW{lo hi:Option Int}(h:z.length<=16777216)(q:Q (.str (QK z lo hi)) H):qx (.str z) lo hi H Q:=⟨z,rfl,by rw[size_eq];exact h,q⟩
theorem N8(q:Q (.bl (decide (a=b))) H):oC (.str a) (.str b) H Q:=⟨rfl,by
 have e:decide (V.str a=V.str b)=decide (a=b):=by rw[Rh];simp
 rw[e];exact q⟩
theorem N1(q:Q (.bl (!decide (a=b))) H):LS (.str a) (.str b) H Q:=⟨rfl,by
 have e:decide (V.str a=V.str b)=decide (a=b):=by rw[Rh];simp
 rw[e];exact q⟩
theorem KL{tl:TE}{σ:St}{R:It->Hp->Prop}(h:tl σ H fun v H1=>∃x:PH,v=.str x/\x.cps.all (· < 128)=true/\R (OT x) H1):EU tl σ H R:=h
theorem IC(q:Q (.bl (decide (z.cps.toList.head?=some 48))) H):uZ (.str z) [.str "0"] H Q:=⟨z,"0",rfl,rfl,by rw[Iy];exact q⟩
theorem vk{i:Int}(h:i.natAbs.log2<1920)(q:Q (.str (toString i:String)) H):qG [.int i] H Q:=⟨i,rfl,h,q⟩
end
local macro_rules | `(tactic| walk_at "early") => `(tactic| first
 |((with_reducible show L5 _ "str" (V.str _) _/\_);refine⟨rfl,?_⟩)
 |((with_reducible show ve _ _ _);refine MI (by omega) ?_)
 |((with_reducible show dh _ _ _ _);refine iW (by omega) ?_)
 |((with_reducible show Jx _ _ _ _);refine NQ ?_)
 |((with_reducible show qx _ _ _ _ _);refine NW (by omega) ?_)
 |with_reducible refine KL ?_
 |((with_reducible show uZ _ _ _ _);refine IC ?_)
 |((with_reducible show oC (V.str _) (V.str _) _ _);refine N8 ?_)
 |((with_reducible show LS (V.str _) (V.str _) _ _);refine N1 ?_))
theorem dm{z:PH}:aV z↔∀c∈z.cps.toList,c<128:=by
 unfold aV
 rw[<-XM,Rt]
 exact⟨fun h c hc=>of_decide_eq_true (h c hc),fun h c hc=>decide_eq_true (h c hc)⟩
theorem cT(a b:PH):(a++b).cps.toList=a.cps.toList++b.cps.toList:=by rw[Uv];simp
theorem bq{a b:PH}(ha:aV a)(hb:aV b):aV (a++b):=by
 rw[dm,cT]
 intro c hc
 rcases QC.mp hc with h|h
 ·exact dm.mp ha c h
 ·exact dm.mp hb c h
theorem fY{sep:PH}(hs:aV sep):∀{xs:List PH},(∀x∈xs,aV x)->aV (QP sep xs)
 |[],_=>by rw[dm];intro c hc;cases hc
 |[x],h=>h x (by simp)
 |x::y::r,h=>bq (bq (h x (by simp)) hs) (fY hs fun z hz=>h z (Qs _ hz))
theorem Cb(sep:PH)(m:Nat):∀(xs:List PH)(a:Nat),(∀x∈xs,x.length<=m)->xs.foldl (fun n x=>n+x.length+sep.length) a<=a+xs.length*(m+sep.length)
 |[],a,_=>by simp
 |x::xs,a,h=>by
  have h1:=h x (by simp)
  have ih:=Cb sep m xs (a+x.length+sep.length) fun y hy=>h y (Qs _ hy)
  have e:(x::xs).length*(m+sep.length)=xs.length*(m+sep.length)+(m+sep.length):=by rw[QU,Yt,Ya]
  rw[e]
  simp only[Ym]
  omega
theorem j2{sep:PH}{m:Nat}:∀{xs:List PH},(∀x∈xs,x.length<=m)->(QP sep xs).length<=xs.length*(m+sep.length)
 |[],_=>by show(Qp:PH).length<=_;exact Q3 _
 |[x],h=>by
  have:=h x (by simp)
  show x.length<=1*_
  omega
 |x::y::r,h=>by
  have h1:=h x (by simp)
  have ih:=j2 (sep:=sep) (xs:=y::r) fun z hz=>h z (Qs _ hz)
  show(x++sep++QP sep (y::r)).length<=_
  rw[Qx,Qx,show(x::y::r).length=(y::r).length+1 from rfl,Yt,Ya]
  omega
theorem pU{K:PM}{H:Hp}{Q:VK}{sep:PH}{p:PK}{xs:List PH}(m:Nat)(hS:aY K H p (xs.map V.str))(hx:∀x∈xs,x.length<=m)(hb:xs.length*(m+sep.length)<=16777216)(q:Q (.str (QP sep xs)) H):rJoin K (.str sep) [.ref p] H Q:=by
 have e:=Zu sep xs
 exists sep,p,xs,rfl,rfl,hS,?_,?_
 ·have h:=Cb sep m xs 0 hx
  refine decide_eq_false ?_
  rw[size_eq]
  simp only[List.foldl_toArray',Q4]
  omega
 ·rw[e,size_eq]
  exact P6 (j2 hx) hb
 ·rw[e]
  exact q
theorem AM(c:Nat):(⟨#[c]⟩:PH).length=1:=rfl
theorem FR{l:List Nat}{w:Int}(h0:0<=w)(h1:w.toNat<l.length):xW l w=some (l.getD w.toNat 0):=by
 have h:l[w.toNat]?=some (l.getD w.toNat 0):=by rw[QG,Qj h1];rfl
 have:=bM h
 rw[VB h0]at this
 exact this
theorem w6:∀{ps:List (List Nat)}{p:List Nat},p∈ps->p.length<=(dS ps).length
 |[],_,h=>nomatch h
 |[p],q,h=>by
  have:q=p:=by simpa using h
  subst this
  exact Qe _
 |p::q::r,x,h=>by
  rcases Qb.mp h with rfl|h
  ·simp only[dS,QV];omega
  ·have:=w6 h
   simp only[dS,QV,QU]
   omega
theorem HH{z p:PH}(h:p∈QJ z " "):p.length<=z.length:=by
 have e:=TC z ⟨#[32]⟩
 rw[zq]at h
 have:=w6 (YC (f:=fun x:PH=>x.cps.toList) h)
 rw[<-i3,e,aP,aP]at this
 exact this
theorem yY:∀{ps:List (List Nat)}{p:List Nat}{c:Nat},p∈ps->c∈p->c∈dS ps
 |[],_,_,h,_=>nomatch h
 |[p],q,c,h,hc=>by
  have:q=p:=by simpa using h
  subst this
  exact hc
 |p::q::r,x,c,h,hc=>by
  rcases Qb.mp h with rfl|h
  ·simp only[dS,QC];exact .inl hc
  ·have:=yY h hc
   simp only[dS,QC,Qb]
   exact .inr (.inr this)
theorem Eo{z p:PH}(ha:aV z)(h:p∈QJ z " "):aV p:=by
 have e:=TC z ⟨#[32]⟩
 rw[zq]at h
 rw[dm]
 intro c hc
 have:=yY (YC (f:=fun x:PH=>x.cps.toList) h) hc
 rw[<-i3,e]at this
 exact dm.mp ha c this
theorem sX{x:PH}(h:aV x):VP x=true:=by
 unfold VP
 rw[<-XM,Rt]
 intro c hc
 have:=dm.mp h c hc
 exact decide_eq_true (by omega)
theorem Kr(h:Option Int)(n:Nat):Tc none h 1 n=Tc (some ((0:Nat):Int)) h 1 n:=by
 have e:max (0:Int) (min 0 (n:Int))=0:=by omega
 simp[Tc,e]
noncomputable def bZ(l:List PK)(H H':Hp):Prop:=(∀a o,a∉l->H a=some o->H' a=some o)/\(∀a xs,H a=some (.tup xs)->H' a=some (.tup xs))/\∀a,H' a=none->H a=none
section
variable {H H1 H2:Hp}{l l':List PK}
theorem bZ.of(s:av H H1):bZ l H H1:=⟨fun a o _ h=>s a o h,fun a xs h=>s a _ h,fun _ h=>s.free h⟩
theorem bZ.trans(a:bZ l H H1)(b:bZ l H1 H2):bZ l H H2:=⟨fun c o n h=>b.1 c o n (a.1 c o n h),fun c xs h=>b.2.1 c xs (a.2.1 c xs h),fun c h=>a.2.2 c (b.2.2 c h)⟩
theorem bZ.mono(a:bZ l H H1)(h:∀c∈l,c∈l'):bZ l' H H1:=⟨fun c o n q=>a.1 c o (fun z=>n (h c z)) q,a.2.1,a.2.2⟩
theorem bZ.upd{a:PK}{o o':HO}(h:H a=some o)(ht:∀xs,o≠.tup xs)(m:a∈l):bZ l H (L2.upd H a o'):=by
 refine⟨fun c u n q=>?_,fun c xs q=>?_,fun c q=>?_⟩
 ·rw[ak (fun z=>n (by rw[z];exact m))];exact q
 ·rw[ak (fun z=>by rw[z,h]at q;exact ht xs (QX q))];exact q
 ·by_cases z:c=a
  ·rw[z,ax]at q;cases q
  ·rw[ak z]at q;exact q
noncomputable def ji(l l':List PK)(H:Hp):Prop:=∀a∈l',a∈l\/H a=none
theorem ji.refl:ji l l H:=fun _ h=>.inl h
theorem ji.trans{l'':List PK}(a:ji l l' H)(b:ji l' l'' H1)(bt:bZ l' H H1):ji l l'' H:=fun c h=>by
 rcases b c h with z|z
 ·exact a c z
 ·exact .inr (bt.2.2 c z)
end
noncomputable def O4(H:Hp)(p:PH×Int)(t:PK):Prop:=H t=some (.tup [.str p.1,.int p.2])
noncomputable def Br(H:Hp)(p:PH×PH)(t:PK):Prop:=H t=some (.tup [.str p.1,.str p.2])
noncomputable def nQ(H:Hp)(l:PK)(rows:List (PH×Int)):Prop:=∃ts:List PK,H l=some (.lst (ts.map V.ref))/\Qd (O4 H) rows ts
theorem nQ.but{H H':Hp}{fp:List PK}{l:PK}{rows:List (PH×Int)}(b:bZ fp H H')(h:nQ H l rows)(n:l∉fp):nQ H' l rows:=by
 obtain⟨ts,h1,h2⟩:=h
 exact⟨ts,b.1 _ _ n h1,Paired.mapP h2 fun _ _ q=>b.2.1 _ _ q⟩
theorem nQ.same{H H':Hp}{l:PK}{rows:List (PH×Int)}(h:nQ H l rows)(s:av H H'):nQ H' l rows:=h.but (l:=l) (bZ.of (l:=[]) s) (by simp)
noncomputable def eD(ps:List (PH×Int)):List (Key×V):=ps.map fun p=>(.inr p.1,.int p.2)
theorem cW(ps:List (PH×Int)):(eD ps).length=ps.length:=by simp[eD]
theorem jA{ps:List (PH×Int)}{i:Nat}{p:PH×Int}(h:ps[i]?=some p):(eD ps)[i]?=some (.inr p.1,.int p.2):=by simp[eD,h]
theorem oa:∀{ps:List (PH×Int)}{n:PH},n∉ps.map (·.1)->gL (eD ps) (.inr n)=none
 |[],_,_=>rfl
 |p::r,n,h=>by
  have h1:¬p.1=n:=fun z=>h (by rw[<-z];simp)
  show gL ((.inr p.1,.int p.2)::eD r) (.inr n)=none
  rw[nt (by simpa using h1)]
  exact oa fun z=>h (by rw[Qu];exact Qs _ z)
theorem nD:∀{ps:List (PH×Int)}{n:PH}{x:Int},(ps.map (·.1)).Nodup->(n,x)∈ps->gL (eD ps) (.inr n)=some (.int x)
 |p::r,n,x,nd,h=>by
  have nd:(p.1::r.map (·.1)).Nodup:=nd
  obtain⟨n1,n2⟩:=RM.mp nd
  show gL ((.inr p.1,.int p.2)::eD r) (.inr n)=_
  rcases Qb.mp h with z|z
  ·subst z
   exact qv rfl
  ·have h1:¬p.1=n:=fun e=>n1 (by rw[e];exact P9.mpr ⟨_,z,rfl⟩)
   rw[nt (by simpa using h1)]
   exact nD n2 z
theorem FP{ps:List (PH×Int)}{n:PH}{x:Int}(h:n∉ps.map (·.1)):putK (eD ps) (.inr n) (.int x)=eD (ps++[(n,x)]):=by
 rw[Iu _ (oa h)]
 simp[eD]
theorem Bz(ps:List (PH×Int))(n:PH):q0 (eD ps) (.inr n)=eD (ps.filter fun p=>decide (p.1≠n)):=by
 unfold q0 eD
 rw[Ve]
 congr 1
 refine VJ fun p _=>?_
 show decide ((RJ p.1:Key)≠.inr n)=_
 congr 1
 simp
structure aG where
 ps:List (PH×Int)
 cs:List (PH×Int)
 ws:List (PH×PH)
 pot:Int
 giv:Int
 spt:Int
noncomputable def gE(d1 d2 w:PK)(a b c:Int):List (PH×V):=[("purses",.ref d1),("costs",.ref d2),("wishes",.ref w),("unshared",.int a),("gifts",.int b),("outlay",.int c)]
structure uK(K:PM)(H:Hp)(c dx d1 d2 w:PK)(wt:List PK)(s:aG):Prop where
 at_:H c=some (.ins (ao K "Chest") dx (gE d1 d2 w s.pot s.giv s.spt))
 p1:H d1=some (.dK (eD s.ps))
 p2:H d2=some (.dK (eD s.cs))
 w_:H w=some (.lst (wt.map V.ref))
 wt:Qd (Br H) s.ws wt
 ne:d1≠d2
 nd:(s.ps.map (·.1)).Nodup
 nd2:(s.cs.map (·.1)).Nodup
noncomputable def aO(K:PM)(H:Hp)(c:PK)(fp:List PK)(s:aG):Prop:=∃dx d1 d2 w wt,uK K H c dx d1 d2 w wt s/\fp=[c,d1,d2,w]
theorem gp:("costs":PH)≠"purses"/\("wishes":PH)≠"purses"/\("unshared":PH)≠"purses"/\("gifts":PH)≠"purses"/\("outlay":PH)≠"purses"/\
  ("wishes":PH)≠"costs"/\("unshared":PH)≠"costs"/\("gifts":PH)≠"costs"/\("outlay":PH)≠"costs"/\
  ("unshared":PH)≠"wishes"/\("gifts":PH)≠"wishes"/\("outlay":PH)≠"wishes"/\("gifts":PH)≠"unshared"/\("outlay":PH)≠"unshared"/\("outlay":PH)≠"gifts":=by decide +kernel
section
variable {d1 d2 w e:PK}{a b c x:Int}
theorem b9:(gE d1 d2 w a b c).lookup ("purses":PH)=some (V.ref d1):=by simp[gE,Ri]
theorem dM:(gE d1 d2 w a b c).lookup ("costs":PH)=some (V.ref d2):=by
 have h:=gp
 simp[gE,Ri,beq_eq_false_iff_ne.mpr h.1]
theorem fU:(gE d1 d2 w a b c).lookup ("wishes":PH)=some (V.ref w):=by
 obtain⟨h1,h2,h3,h4,h5,h6,h7,h8,h9,h10,h11,h12,h13,h14,h15⟩:=gp
 simp[gE,Ri,beq_eq_false_iff_ne.mpr h2,beq_eq_false_iff_ne.mpr h6]
theorem eX:(gE d1 d2 w a b c).lookup ("unshared":PH)=some (V.int a):=by
 obtain⟨h1,h2,h3,h4,h5,h6,h7,h8,h9,h10,h11,h12,h13,h14,h15⟩:=gp
 simp[gE,Ri,beq_eq_false_iff_ne.mpr h3,beq_eq_false_iff_ne.mpr h7,beq_eq_false_iff_ne.mpr h10]
theorem BS:(gE d1 d2 w a b c).lookup ("gifts":PH)=some (V.int b):=by
 obtain⟨h1,h2,h3,h4,h5,h6,h7,h8,h9,h10,h11,h12,h13,h14,h15⟩:=gp
 simp[gE,Ri,beq_eq_false_iff_ne.mpr h4,beq_eq_false_iff_ne.mpr h8,beq_eq_false_iff_ne.mpr h11,beq_eq_false_iff_ne.mpr h13]
theorem zr:(gE d1 d2 w a b c).lookup ("outlay":PH)=some (V.int c):=by
 obtain⟨h1,h2,h3,h4,h5,h6,h7,h8,h9,h10,h11,h12,h13,h14,h15⟩:=gp
 simp[gE,Ri,beq_eq_false_iff_ne.mpr h5,beq_eq_false_iff_ne.mpr h9,beq_eq_false_iff_ne.mpr h12,beq_eq_false_iff_ne.mpr h14,beq_eq_false_iff_ne.mpr h15]
theorem y6:cj "purses" (.ref e) (gE d1 d2 w a b c)=gE e d2 w a b c:=by simp[gE,cj]
theorem sh:cj "wishes" (.ref e) (gE d1 d2 w a b c)=gE d1 d2 e a b c:=by
 obtain⟨h1,h2,h3,h4,h5,h6,h7,h8,h9,h10,h11,h12,h13,h14,h15⟩:=gp
 simp[gE,cj,h2.symm,h6.symm]
theorem jy:cj "unshared" (.int x) (gE d1 d2 w a b c)=gE d1 d2 w x b c:=by
 obtain⟨h1,h2,h3,h4,h5,h6,h7,h8,h9,h10,h11,h12,h13,h14,h15⟩:=gp
 simp[gE,cj,h3.symm,h7.symm,h10.symm]
theorem HP:cj "gifts" (.int x) (gE d1 d2 w a b c)=gE d1 d2 w a x c:=by
 obtain⟨h1,h2,h3,h4,h5,h6,h7,h8,h9,h10,h11,h12,h13,h14,h15⟩:=gp
 simp[gE,cj,h4.symm,h8.symm,h11.symm,h13.symm]
theorem GP:cj "outlay" (.int x) (gE d1 d2 w a b c)=gE d1 d2 w a b x:=by
 obtain⟨h1,h2,h3,h4,h5,h6,h7,h8,h9,h10,h11,h12,h13,h14,h15⟩:=gp
 simp[gE,cj,h5.symm,h9.symm,h12.symm,h14.symm,h15.symm]
theorem KS:cj "outlay" (.int c) (cj "gifts" (.int b) (cj "unshared" (.int a) (cj "wishes" (.ref w) (cj "costs" (.ref d2) (cj "purses" (.ref d1) [])))))=gE d1 d2 w a b c:=by
 obtain⟨h1,h2,h3,h4,h5,h6,h7,h8,h9,h10,h11,h12,h13,h14,h15⟩:=gp
 simp[gE,cj,h1.symm,h2.symm,h3.symm,h4.symm,h5.symm,h6.symm,h7.symm,h8.symm,h9.symm,h10.symm,h11.symm,h12.symm,h13.symm,h14.symm,h15.symm]
theorem dy{m:PH}(h:(["purses","costs","wishes","unshared","gifts","outlay"]:List PH).contains m=false):(gE d1 d2 w a b c).lookup m=none:=by
 have h:∀x∈(["purses","costs","wishes","unshared","gifts","outlay"]:List PH),x≠m:=fun x hx e=>by
  rw[e]at hx
  rw[List.contains_iff_mem.mpr hx]at h
  cases h
 have g:∀x∈(["purses","costs","wishes","unshared","gifts","outlay"]:List PH),(m==x)=false:=fun x hx=>beq_eq_false_iff_ne.mpr (h x hx).symm
 simp only[gE,Ri,g _ (by simp:("purses":PH)∈_),g _ (by simp:("costs":PH)∈_),g _ (by simp:("wishes":PH)∈_),g _ (by simp:("unshared":PH)∈_),g _ (by simp:("gifts":PH)∈_),g _ (by simp:("outlay":PH)∈_)]
end
section
variable {K:PM}{H H':Hp}{c dx d1 d2 w:PK}{wt:List PK}{s:aG}{fp l:List PK}
theorem uK.but(x:uK K H c dx d1 d2 w wt s)(b:bZ l H H')(n1:c∉l)(n2:d1∉l)(n3:d2∉l)(n4:w∉l):uK K H' c dx d1 d2 w wt s:=
 ⟨b.1 _ _ n1 x.at_,b.1 _ _ n2 x.p1,b.1 _ _ n3 x.p2,b.1 _ _ n4 x.w_,Paired.mapP x.wt fun _ _ q=>b.2.1 _ _ q,x.ne,x.nd,x.nd2⟩
theorem uK.same(x:uK K H c dx d1 d2 w wt s)(b:av H H'):uK K H' c dx d1 d2 w wt s:=x.but (bZ.of (l:=[]) b) (by simp) (by simp) (by simp) (by simp)
theorem aO.but(x:aO K H c fp s)(b:bZ l H H')(n:∀a∈fp,a∉l):aO K H' c fp s:=by
 obtain⟨dx,d1,d2,w,wt,x,rfl⟩:=x
 exact⟨dx,d1,d2,w,wt,x.but b (n _ (by simp)) (n _ (by simp)) (n _ (by simp)) (n _ (by simp)),rfl⟩
theorem aO.same(x:aO K H c fp s)(b:av H H'):aO K H' c fp s:=x.but (bZ.of (l:=[]) b) (by simp)
theorem aO.there(x:aO K H c fp s):∀a∈fp,H a≠none:=by
 obtain⟨dx,d1,d2,w,wt,x,rfl⟩:=x
 intro a ha
 simp only[Qb,Rb,or_false]at ha
 rcases ha with rfl|rfl|rfl|rfl
 ·rw[x.at_];simp
 ·rw[x.p1];simp
 ·rw[x.p2];simp
 ·rw[x.w_];simp
theorem aK{a b:PK}{o o':HO}(h:H a=some o)(h':H b=some o')(n:o≠o'):a≠b:=fun e=>n (by rw[e,h']at h;exact(QX h).symm)
theorem gj{a b:PK}{o:HO}(h:H a=some o)(h':H b=none):a≠b:=fun e=>by rw[e,h']at h;cases h
theorem uK.setF{a b e:Int}(x:uK K H c dx d1 d2 w wt s):uK K (L2.upd H c (.ins (ao K "Chest") dx (gE d1 d2 w a b e))) c dx d1 d2 w wt ⟨s.ps,s.cs,s.ws,a,b,e⟩:=by
 have n1:=aK x.p1 x.at_ (by simp)
 have n2:=aK x.p2 x.at_ (by simp)
 have n3:=aK x.w_ x.at_ (by simp)
 exact⟨ax,by rw[ak n1];exact x.p1,by rw[ak n2];exact x.p2,by rw[ak n3];exact x.w_,Paired.mapP x.wt fun _ _ q=>by
  unfold Br at *
  rw[ak (aK q x.at_ (by simp))];exact q,x.ne,x.nd,x.nd2⟩
theorem uK.setD{e:PK}{ps:List (PH×Int)}(x:uK K H c dx d1 d2 w wt s)(he:H e=some (.dK (eD ps)))(hne:e≠d2)(nd:(ps.map (·.1)).Nodup):
  uK K (L2.upd H c (.ins (ao K "Chest") dx (gE e d2 w s.pot s.giv s.spt))) c dx e d2 w wt ⟨ps,s.cs,s.ws,s.pot,s.giv,s.spt⟩:=by
 have n1:=aK he x.at_ (by simp)
 have n2:=aK x.p2 x.at_ (by simp)
 have n3:=aK x.w_ x.at_ (by simp)
 exact⟨ax,by rw[ak n1];exact he,by rw[ak n2];exact x.p2,by rw[ak n3];exact x.w_,Paired.mapP x.wt fun _ _ q=>by
  unfold Br at *
  rw[ak (aK q x.at_ (by simp))];exact q,hne,nd,x.nd2⟩
theorem uK.setW{e:PK}{ws:List (PH×PH)}{wt':List PK}(x:uK K H c dx d1 d2 w wt s)(he:H e=some (.lst (wt'.map V.ref)))(hp:Qd (Br H) ws wt'):
  uK K (L2.upd H c (.ins (ao K "Chest") dx (gE d1 d2 e s.pot s.giv s.spt))) c dx d1 d2 e wt' ⟨s.ps,s.cs,ws,s.pot,s.giv,s.spt⟩:=by
 have n1:=aK x.p1 x.at_ (by simp)
 have n2:=aK x.p2 x.at_ (by simp)
 have n3:=aK he x.at_ (by simp)
 exact⟨ax,by rw[ak n1];exact x.p1,by rw[ak n2];exact x.p2,by rw[ak n3];exact he,Paired.mapP hp fun _ _ q=>by
  unfold Br at *
  rw[ak (aK q x.at_ (by simp))];exact q,x.ne,x.nd,x.nd2⟩
theorem uK.setP{ps:List (PH×Int)}(x:uK K H c dx d1 d2 w wt s)(nd:(ps.map (·.1)).Nodup):uK K (L2.upd H d1 (.dK (eD ps))) c dx d1 d2 w wt ⟨ps,s.cs,s.ws,s.pot,s.giv,s.spt⟩:=by
 have n1:=aK x.at_ x.p1 (by simp)
 have n3:=aK x.w_ x.p1 (by simp)
 exact⟨by rw[ak n1];exact x.at_,ax,by rw[ak (Qy x.ne)];exact x.p2,by rw[ak n3];exact x.w_,Paired.mapP x.wt fun _ _ q=>by
  unfold Br at *
  rw[ak (aK q x.p1 (by simp))];exact q,x.ne,nd,x.nd2⟩
end
local macro_rules | `(tactic| walk_at "early") => `(tactic| first
 |with_reducible refine MM ?_
 |with_reducible refine N2 ?_
 |with_reducible refine Ng ?_
 |with_reducible refine Na ?_
 |with_reducible refine Mj ?_
 |with_reducible refine Nf ?_
 |with_reducible refine Of ?_
 |with_reducible refine MC ?_
 |with_reducible refine OA ?_
 |with_reducible refine Oo ?_)
noncomputable def isLet(c:Nat):Bool:=decide (97<=c)&&decide (c<=122)
noncomputable def dw(z:PH):Bool:=(decide (1<=z.length)&&decide (z.length<=8))&&z.cps.toList.all isLet
theorem EV:("abcdefghijklmnopqrstuvwxyz":PH).cps.toList=[97,98,99,100,101,102,103,104,105,106,107,108,109,110,111,112,113,114,115,116,117,118,119,120,121,122]:=by decide +kernel
theorem KY(c:Nat):(!(Ua ("abcdefghijklmnopqrstuvwxyz":PH) ⟨#[c]⟩ 0 ("abcdefghijklmnopqrstuvwxyz":PH).length 1).isEmpty)=isLet c:=by
 rw[Xn,show("abcdefghijklmnopqrstuvwxyz":PH).cps.toList=Wl 97 26 by decide +kernel,Rh]
 simp only[isLet,decide_eq_true_eq,QW,Yg]
 omega
theorem CV{z:PH}(h:dw z=true):aV z:=by
 rw[dm]
 intro c hc
 have h2:=(QW _ _▸h:_/\_).2
 have:=Rt.mp h2 c hc
 simp[isLet]at this
 omega
theorem fq{z:PH}(h:dw z=true):1<=z.length/\z.length<=8:=by
 simp[dw]at h
 exact h.1
theorem jY(f:PH)(v:V):∀fs:List (PH×V),(cj f v fs).length<=fs.length+1
 |[]=>Qe _
 |(g,x)::r=>by
  unfold cj
  by_cases h:g=f
  ·rw[if_pos h];simp
  ·rw[if_neg h]
   have:=jY f v r
   simp only[QU]
   omega
theorem iD{α:Type}(p:α->Bool)(d:α)(xs:List α):((P4 xs.length).filter fun i=>p (xs.getD i d)).map (fun i=>xs.getD i d)=xs.filter p:=by
 have h:=bw (fun x=>x) d xs
 rw[UO]at h
 conv=>rhs;rw[<-h]
 rw[Ve]
 rfl
noncomputable def wY(s:aG)(x:Int):aG:={s with ps:=s.ps.map fun p=>(p.1,p.2+x),pot:=s.pot-x*s.ps.length}
noncomputable def qU(s:aG)(x:Int):aG:=if s.ps=[]then{s with pot:=s.pot+x,giv:=s.giv+x} else wY {s with pot:=s.pot+x,giv:=s.giv+x} ((s.pot+x)/(s.ps.length:Int))
noncomputable def HU(s:aG)(n:PH)(x:Int):aG:={s with ps:=s.ps.filter fun p=>decide (p.1≠n),ws:=s.ws.filter fun p=>!decide (p.1=n),pot:=s.pot+x}
theorem map_fst(ps:List (PH×Int))(x:Int):(ps.map fun p=>(p.1,p.2+x)).map (·.1)=ps.map (·.1):=by rw[Qn];rfl
theorem rP{α:Type}{ps:List (PH×α)}{p:PH×α->Bool}(h:(ps.map (·.1)).Nodup):((ps.filter p).map (·.1)).Nodup:=Z0 (ZO _ List.filter_sublist) h
theorem made{K:PM}{H H2:Hp}{c dx:PK}{fp:List PK}(f0:H c=none)(g0:H dx=none)(b:bZ [c] (upd (upd H dx (.own c)) c (.ins (ao K "Chest") dx [])) H2)(w:ji [c] fp (upd (upd H dx (.own c)) c (.ins (ao K "Chest") dx []))):
  av H H2/\∀a∈fp,H a=none:=by
 refine⟨fun a o h=>?_,fun a ha=>?_⟩
 ·have n1:a≠c:=fun e=>by rw[e,f0]at h;cases h
  have n2:a≠dx:=fun e=>by rw[e,g0]at h;cases h
  exact b.1 a o (by simpa using n1) (by rw[ak n1,ak n2];exact h)
 ·rcases w a ha with e|e
  ·rw[QR.mp e];exact f0
  ·by_cases n1:a=c
   ·rw[n1];exact f0
   ·rw[ak n1]at e
    by_cases n2:a=dx
    ·rw[n2];exact g0
    ·rw[ak n2]at e;exact e
theorem IX{H0 H H':Hp}{L:List PK}(s:av H0 H)(b:bZ L H H')(h:∀a∈L,H0 a=none):av H0 H':=fun a o q=>b.1 a o (fun m=>by rw[h a m]at q;cases q) (s a o q)
noncomputable def eQ(c:Int)(k:Nat):Int:=(c%900900929+2503*(k:Int)+77)*(c%900900929+2503*(k:Int)+77)*(c%900900929+2503*(k:Int)+77+31*(k:Int))/13%700700003
noncomputable def d4(c:Int)(m:Nat):List Int:=(P4 m).map (eQ c)
theorem nY(c:Int)(m:Nat):(d4 c m).length=m:=by simp[d4]
theorem xG{c:Int}{m k:Nat}(h:k<m):((d4 c m).map V.int)[k]?=some (.int (eQ c k)):=by simp[d4,h]
theorem Mt(l:Option Int)(n:Nat):Tc l none 1 n=Tc l (some (n:Int)) 1 n:=by
 have h:¬((n:Int)<0):=by omega
 have e:max (0:Int) (min (if(n:Int)<0 then(n:Int)+n else n) (n:Int))=n:=by rw[if_neg h];omega
 simp[Tc,e]
theorem tj{z:PH}{a b:Nat}(h1:a<=b)(h2:b<=z.length):(QK z (some (a:Int)) (some (b:Int))).cps.toList=(z.cps.toList.drop a).take (b-a):=by
 have hl:=aP z
 unfold QK
 split
 ·rename_i hc
  rw[YU h1 h2]at hc
  have:b-a=z.length:=by simpa using hc
  have:a=0:=by omega
  subst this
  rw[Vh,RI (by omega)]
 ·rw[YV z h1 h2]
theorem rJ{z:PH}{b:Nat}(h:b<=z.length):(QK z none (some (b:Int))).cps.toList=z.cps.toList.take b:=by
 have e:QK z none (some (b:Int))=QK z (some ((0:Nat):Int)) (some (b:Int)):=by unfold QK;rw[Kr]
 rw[e,tj (Q3 _) h]
 simp
theorem kA{z:PH}{a:Nat}(h:a<=z.length):(QK z (some (a:Int)) none).cps.toList=z.cps.toList.drop a:=by
 have hl:=aP z
 have e:QK z (some (a:Int)) none=QK z (some (a:Int)) (some (z.length:Int)):=by unfold QK;rw[Mt]
 rw[e,tj h (Qe _),RI (by rw[Rq];omega)]
noncomputable def mh(x:Int):Nat:=97+(x%26).toNat
theorem M0(x:Int):xW ("abcdefghijklmnopqrstuvwxyz":PH).cps.toList (x%26)=some (mh x):=by
 have n0:0<=x%26:=by omega
 have n1:x%26<26:=by omega
 have hl:("abcdefghijklmnopqrstuvwxyz":PH).cps.toList.length=26:=by rw[EV];rfl
 rw[FR n0 (by rw[hl];omega),EV]
 unfold mh
 generalize x%26=y at *
 obtain⟨n,rfl⟩:∃n:Nat,y=(n:Int):=⟨y.toNat,by omega⟩
 have hn:n<26:=by omega
 have key:∀n:Fin 26,([97,98,99,100,101,102,103,104,105,106,107,108,109,110,111,112,113,114,115,116,117,118,119,120,121,122]:List Nat).getD n.val 0=97+n.val:=by decide
 have:=key ⟨n,hn⟩
 rw[show((n:Int)).toNat=n by omega]
 rw[this]
theorem u1(x:Int):isLet (mh x)=true:=by
 unfold isLet mh
 simp
 omega
theorem vw{x:Int}{i j:Nat}(hi:i<26)(hj:j<26)(h:mh (x+i)=mh (x+j)):i=j:=by
 unfold mh at h
 omega
noncomputable def wl(c:Int):List Nat:=(P4 7).map fun j=>mh (eQ c j)
theorem kN(c:Int):(wl c).length=7:=by simp[wl]
theorem Ow(c:Int):∀x∈wl c,isLet x=true:=fun x hx=>by
 obtain⟨j,_,rfl⟩:=P9.mp hx
 exact u1 _
noncomputable def LR(c:Int):List Nat:=(wl c).take (eQ c 8/4%8).toNat
noncomputable def Kh(c:Int):Nat:=(eQ c 8/32%(((LR c).length:Int)+1)).toNat
noncomputable def j5(c:Int)(k:Nat):List Nat:=
 if eQ c 8%4=0 then mh (eQ c 7+(k/8:Nat))::(wl c).take (k%8)
 else if eQ c 8%4=1 then(wl c).drop (7-k%8)++[mh (eQ c 7+(k/8:Nat))]
 else(LR c).take (Kh c)++mh (eQ c 7+(k:Int))::(LR c).drop (Kh c)
noncomputable def aQ(c:Int)(k:Nat):PH:=⟨(j5 c k).toArray⟩
theorem ip(c:Int)(k:Nat):(aQ c k).cps.toList=j5 c k:=by simp[aQ]
theorem Fz(c:Int):(LR c).length<=7:=by
 unfold LR
 rw[QY,kN]
 omega
theorem JY(c:Int)(k:Nat):1<=(j5 c k).length/\(j5 c k).length<=8/\∀x∈j5 c k,isLet x=true:=by
 have h3:=Fz c
 have hw:=Ow c
 have hn:∀x∈LR c,isLet x=true:=fun x hx=>hw x (SD hx)
 unfold j5
 split
 ·refine⟨by simp,by simp[kN];omega,fun x hx=>?_⟩
  rcases Qb.mp hx with rfl|hx
  ·exact u1 _
  ·exact hw x (SD hx)
 ·split
  ·refine⟨by simp,by simp only[QV,Rq,kN,R8];omega,fun x hx=>?_⟩
   rcases QC.mp hx with hx|hx
   ·exact hw x (Ul hx)
   ·rw[QR.mp hx];exact u1 _
  ·refine⟨by simp;omega,?_,fun x hx=>?_⟩
   ·simp only[QV,QU,QY,Rq];omega
   ·rcases QC.mp hx with hx|hx
    ·exact hn x (SD hx)
    ·rcases Qb.mp hx with rfl|hx
     ·exact u1 _
     ·exact hn x (Ul hx)
theorem da(c:Int)(k:Nat):dw (aQ c k)=true:=by
 obtain⟨h1,h2,h3⟩:=JY c k
 have hl:=aP (aQ c k)
 rw[ip]at hl
 unfold dw
 rw[ip,decide_eq_true (by omega),decide_eq_true (by omega),Rt.mpr h3]
 rfl
theorem GR{c:Int}{i j:Nat}(hi:i<21)(hj:j<21)(h:aQ c i=aQ c j):i=j:=by
 have h:j5 c i=j5 c j:=by rw[<-ip,<-ip,h]
 unfold j5 at h
 split at h
 ·obtain⟨h1,h2⟩:=SQ h
  have h3:=congrArg Ts h2
  rw[QY,QY,kN]at h3
  have h4:=vw (by omega) (by omega) h1
  omega
 ·split at h
  ·have h3:=congrArg Ts h
   simp only[QV,Rq,kN,R8]at h3
   have h5:=congrArg (fun l=>l.getLast?) h
   simp only[List.getLast?_append,List.getLast?_singleton,Option.some_or]at h5
   have h4:=vw (by omega) (by omega) (QX h5)
   omega
  ·have h6:=List.append_cancel_left h
   exact vw (by omega) (by omega) (SQ h6).1
theorem Ja(c:Int):((P4 21).map (aQ c)).Nodup:=by
 have h:(P4 21).Pairwise (fun a b=>aQ c a≠aQ c b):=Y3 (fun {a b} ha hb hab h=>hab (GR (Q6.mp ha) (Q6.mp hb) h)) (List.nodup_range (n:=21))
 exact V4 _ (fun a b h=>h) h
section
variable {l e:PK}{a b x:Int}
end
section
variable {K:PM}{H:Hp}{Q:VK}{p:PK}{xs:List V}{i:Int}{v:V}
theorem EY(hs:kZ K H p xs)(ha:xW xs i=some v)(h:Q v H):Lo K (.ref p) (.int i) H Q:=⟨p,xs,i,v,rfl,rfl,hs,ha,h⟩
theorem KI{z:PH}{zs:List PH}(hs:aY K H p (zs.map V.str))(h:Q (.bl (!decide (z∈zs))) H):Hw K true (.str z) (.ref p) H Q:=by
 exists p,_,rfl,.inl hs,rfl,su zs
 rw[if_pos rfl,A4]
 exact h
end
section
variable {K:PM}{H H':Hp}{c sd l:PK}{fp L:List PK}{s:aG}
end
theorem Jb(xs:List V)(m:Nat):iU xs none (some (m:Int))=xs.take m:=by
 unfold iU
 rw[HT.rM,HT.og,YJ,Vh]
 rcases UG m xs.length with h|h
 ·rw[UI h]
 ·rw[U4 h,RI (Qe _),RI h]
theorem Im(xs:List V)(m:Nat):iU xs (some (m:Int)) none=xs.drop m:=by
 unfold iU
 rw[HT.rM,HT.og]
 rcases UG m xs.length with h|h
 ·rw[UI h,RI (by rw[Rq];omega)]
 ·rw[U4 h,W7 (Qe _),W7 h,List.take_nil]
theorem jl{α β:Type}{F:α->β->Prop}:∀{xs:List α}{ys:List β}{a:α}{b:β},Qd F xs ys->F a b->Qd F (xs++[a]) (ys++[b])
 |_,_,_,_,.nil,h=>.cons h .nil
 |_,_,_,_,.cons q t,h=>.cons q (jl t h)
theorem Gz(c:Int)(ks:List PH)(h:ks.length<20):0<(((P4 21).map (aQ c)).filter fun z=>!decide (z∈ks)).length:=by
 refine Nat.pos_of_ne_zero fun e=>?_
 have e:=Ub.mp e
 have sub:((P4 21).map (aQ c)) ⊆ ks:=fun z hz=>by
  by_cases m:z∈ks
  ·exact m
  ·have:z∈((P4 21).map (aQ c)).filter fun z=>!decide (z∈ks):=QL.mpr ⟨hz,by simp[m]⟩
   rw[e]at this
   cases this
 have:=aaD (Ja c) sub
 rw[P7,S1]at this
 omega
section
variable {K:PM}{H H':Hp}{c dx d1 d2 w:PK}{wt:List PK}{s:aG}{fp l:List PK}
theorem uK.setC{cs:List (PH×Int)}(x:uK K H c dx d1 d2 w wt s)(nd:(cs.map (·.1)).Nodup):uK K (L2.upd H d2 (.dK (eD cs))) c dx d1 d2 w wt ⟨s.ps,cs,s.ws,s.pot,s.giv,s.spt⟩:=by
 have n1:=aK x.at_ x.p2 (by simp)
 have n3:=aK x.w_ x.p2 (by simp)
 exact⟨by rw[ak n1];exact x.at_,by rw[ak x.ne];exact x.p1,ax,by rw[ak n3];exact x.w_,Paired.mapP x.wt fun _ _ q=>by
  unfold Br at *
  rw[ak (aK q x.p2 (by simp))];exact q,x.ne,x.nd,nd⟩
theorem uK.addW{v n:PH}{t:PK}(x:uK K H c dx d1 d2 w wt s)(ht:H t=some (.tup [.str v,.str n])):uK K (L2.upd H w (.lst ((wt++[t]).map V.ref))) c dx d1 d2 w (wt++[t]) ⟨s.ps,s.cs,s.ws++[(v,n)],s.pot,s.giv,s.spt⟩:=by
 have n1:=aK x.at_ x.w_ (by simp)
 have n2:=aK x.p1 x.w_ (by simp)
 have n3:=aK x.p2 x.w_ (by simp)
 refine⟨by rw[ak n1];exact x.at_,by rw[ak n2];exact x.p1,by rw[ak n3];exact x.p2,ax,jl (Paired.mapP x.wt fun _ _ q=>?_) ?_,x.ne,x.nd,x.nd2⟩
 ·unfold Br at *
  rw[ak (aK q x.w_ (by simp))];exact q
 ·unfold Br
  rw[ak (aK ht x.w_ (by simp))];exact ht
end
noncomputable def EZ(p:PH×PH):Qw:=.tuple [.str p.1,.str p.2]
theorem E3{p q:PH×PH}(h:EZ p=EZ q):p=q:=by
 unfold EZ at h
 simp at h
 exact Prod.ext h.1 h.2
theorem MA{K:PM}{H:Hp}{ws:List (PH×PH)}{wt:List PK}(h:Qd (Br H) ws wt):DatAll K H (wt.map V.ref) (ws.map EZ):=by
 induction h with
 |nil=>exact .nil
 |cons q _ ih=>exact .cons (.tup (kZ.of q) (.cons (.str _) (.cons (.str _) .nil))) ih
theorem JK{n:Nat}{x:PH}(h:aV x):fQ n (.str x):=⟨by rw[nice];exact sX h,by simp[SW]⟩
theorem A7{n:Nat}{p:PH×PH}(h1:aV p.1)(h2:aV p.2):fQ (n+1) (EZ p):=Kd fun e he=>by
 rcases Qb.mp he with rfl|he
 ·exact JK h1
 ·rcases Qb.mp he with rfl|he
  ·exact JK h2
  ·cases he
theorem N6{n:Nat}{ws:List (PH×PH)}(h:∀p∈ws,aV p.1/\aV p.2):fQ (n+2) (.list (ws.map EZ)):=Kt fun d hd=>by
 obtain⟨p,hp,rfl⟩:=P9.mp hd
 exact A7 (h p hp).1 (h p hp).2
theorem EX(p:PH×PH):∀ws:List (PH×PH),((ws.map EZ).any fun y=>Yp y (EZ p))=decide (p∈ws)
 |[]=>by simp
 |q::r=>by
  rw[Qu,Sb,EX p r,Rh,Bool.or_eq_true,decide_eq_true_eq,decide_eq_true_eq,Yj,Qb]
  constructor
  ·rintro(e|e)
   ·exact .inl (E3 e).symm
   ·exact .inr e
  ·rintro(e|e)
   ·exact .inl (by rw[e])
   ·exact .inr e
theorem JS(p q:PH×PH):Yp (EZ p) (EZ q)=decide (p=q):=by
 rw[Rh,Yj,decide_eq_true_eq]
 exact⟨E3,fun h=>by rw[h]⟩
section
variable {K:PM}{H:Hp}{Q:VK}{t w:PK}{p:PH×PH}{ws:List (PH×PH)}{wt:List PK}{neg:Bool}
theorem ED(ht:H t=some (.tup [.str p.1,.str p.2]))(hw:H w=some (.lst (wt.map V.ref)))(hp:Qd (Br H) ws wt)(a1:aV p.1)(a2:aV p.2)(ha:∀p∈ws,aV p.1/\aV p.2)(h:Q (.bl (decide (p∈ws) != neg)) H):F1 K neg (.ref t) (.ref w) H Q:=
 ⟨ws.map EZ,EZ p,.lst (aY.of hw) (MA hp),.tup (kZ.of ht) (.cons (.str _) (.cons (.str _) .nil)),(N6 (n:=2) ha).mono (by decide),(A7 (n:=2) a1 a2).mono (by decide),by rw[EX];exact h⟩
end
noncomputable def Pu(H:Hp)(r:PH×Int×List PH)(t:PK):Prop:=∃l:PK,H t=some (.tup [.str r.1,.int r.2.1,.ref l])/\H l=some (.lst (r.2.2.map V.str))
section
variable {K:PM}{mp:List (Option Nat)}{te td:TE}{σ:St}{H:Hp}{Q:VK}{d:PK}{kvs:List (Key×V)}
theorem BW(htd:∀k:VK,k (.ref d) H->td σ H k)(hd:H d=some (.dK kvs))(hz:kvs.length<=PZ)(u v:Nat->V)(hu:∀i q,kvs[i]?=some q->kV q.1=u i/\q.2=v i)
  (st:Nat->St) (hf:∀i σ',(σ'=c5 mp σ\/∃j,σ'=st j)->(σ'.set 0 (some (u i))).set 1 (some (v i))=st i) (R:PK->Nat->V->Hp->Prop)
  (hR:∀l i v H1 H2,eh l H1 H2->R l i v H1->R l i v H2) (hRd:∀l i v H1 o,H1 d=some (.frz o (.dK kvs))->R l i v H1->R l i v (upd H1 d (.dK kvs)))
  (he:∀l i,i<kvs.length->∀(H':Hp)(G:VK),H l=none->(∃o,H' l=some o)->(∃o,H' d=some o)->eh d H H'->(∀v H'',R l i v H''->av H' H''->G v H'')->te (st i) H' G)
  (hq:∀l ys H2,H l=none->av H H2->H2 l=some (.lst ys)->Qd (fun i v=>R l i v H2) (P4 kvs.length) ys->Q (.ref l) H2):
  gR (bP mp (vp td) (fZ K 2 (bz (au 0) (bz (au 1) fS))) du te) σ H Q:=by
 exists d,kvs,hd
 refine mS ?_
 refine htd _ ⟨d,kvs,rfl,hd,fun o w hw hne=>?_⟩
 have hl0:∀a,upd (upd H w (y8 w d)) d (.frz o (.dK kvs)) a=none->H a=none:=fun a ha=>by
  by_cases h1:a=d
  ·subst h1;rw[ax]at ha;cases ha
  ·rw[ak h1]at ha
   by_cases h2:a=w
   ·subst h2;exact hw
   ·rwa [ak h2]at ha
 have hx:∀H',av (upd (upd H w (y8 w d)) d (.frz o (.dK kvs))) H'->eh d H H':=fun H' s a x ha h=>by
  have hw2:a≠w:=fun e=>by rw[e,hw]at h;cases h
  exact s _ _ (by rw[ak ha,ak hw2];exact h)
 refine gh (BV 0 1 u v hu) st hf (fun H' s=>s _ _ ax) hz (fun _=>true) R hR (fun i hi H' G s k=>k H' (av.refl _)) (fun l i hi _ H' G h0 h1 s k=>he l i hi H' G (hl0 l h0) h1 ⟨_,s _ _ ax⟩ (hx H' s) k) fun l ys H' h0 s h1 pr=>?_
 rw[R7.mpr (fun _ _=>rfl)]at pr
 have hfd:H' d=some (.frz o (.dK kvs)):=s _ _ ax
 have hld:l≠d:=fun e=>by rw[e,ax]at h0;cases h0
 refine⟨o,kvs,hfd,hq l ys _ (hl0 l h0) (fun a x ha=>?_) (by rw[ak hld];exact h1) (Paired.mapP pr fun i v q=>hRd l i v H' o hfd q)⟩
 by_cases h1:a=d
 ·subst h1
  rw[ax,<-hd];exact ha
 ·rw[ak h1]
  exact hx H' s a x h1 ha
theorem MJ{p:PK}{z:PH}{zs:List PH}(hs:aY K H p (zs.map V.str))(h:Q (.bl (decide (z∈zs))) H):Hw K false (.str z) (.ref p) H Q:=by
 exists p,_,rfl,.inl hs,rfl,su zs
 rw[if_neg QM,A4]
 exact h
end
theorem tG{H':Hp}{P:PK->Prop}{f:Nat->PH×Int×List PH}:∀{is:List Nat}{ys:List V},Qd (fun i v=>∃t w,v=V.ref t/\P w/\H' t=some (.tup [.str (f i).1,.int (f i).2.1,.ref w])/\H' w=some (.lst ((f i).2.2.map V.str))) is ys->
  ∃ts:List PK,ys=ts.map V.ref/\Qd (Pu H') (is.map f) ts/\∀t∈ts,∀x y w,H' t=some (.tup [x,y,.ref w])->P w
 |_,_,.nil=>⟨[],rfl,.nil,fun t ht=>by cases ht⟩
 |_,_,.cons ⟨t,w,e,hp,h1,h2⟩ r=>by
  obtain⟨ts,e2,p2,q2⟩:=tG r
  refine⟨t::ts,by rw[e,e2];rfl,.cons ⟨w,h1,h2⟩ p2,fun t' ht x y w' h'=>?_⟩
  rcases Qb.mp ht with rfl|ht
  ·rw[h1]at h'
   injection h' with h'
   injection h' with h'
   simp at h'
   rw[<-h'.2.2];exact hp
  ·exact q2 t' ht x y w' h'
theorem Ea(ps:List (PH×Int))(P:PH->Bool):(((P4 ps.length).filter fun i=>P (ps.getD i ("",0)).1).map fun i=>V.str (ps.getD i ("",0)).1)=((ps.map (·.1)).filter P).map V.str:=by
 have h:=iD (fun p:PH×Int=>P p.1) ("",0) ps
 have e:((ps.map (·.1)).filter P)=(ps.filter fun p=>P p.1).map (·.1):=by rw[Ve];rfl
 rw[e,<-h,Qn,Qn]
 rfl
noncomputable def JX(H:Hp)(l:PK)(ts:List PK)(rows:List (PH×Int×List PH)):Prop:=H l=some (.lst (ts.map V.ref))/\Qd (Pu H) rows ts
noncomputable def xi(s:aG)(p:PH×Int):PH×Int×List PH:=(p.1,p.2,(s.ps.map (·.1)).filter fun v=>decide ((v,p.1)∈s.ws))
section
variable {K:PM}{H H':Hp}{c lp lw:PK}{fp L:List PK}{s:aG}{people:List PH}{rows:List WkR}{m:Nat}
end
section
variable {K:PM}{H:Hp}{Q:VK}{l:PK}{zs:List PH}{n:PH}{j:Nat}
end
noncomputable def BD(s:aG)(v:PH):List Nat:=(P4 s.cs.length).filter fun k=>decide ((v,(s.cs.getD k ("",0)).1)∈s.ws)
noncomputable def intsOf(ks:List Nat):List Int:=ks.map fun k:Nat=>(k:Int)
noncomputable def aZ(s:aG):List (List Int):=s.ps.map fun p=>intsOf (BD s p.1)
noncomputable def fc(s:aG):Nat:=mZ s.ps.length ^ (s.cs.length+1)
noncomputable def aH(s:aG):List Int:=s.ps.map fun p=>p.2*(fc s:Int)
noncomputable def cc(s:aG):List Int:=s.cs.map (·.2)
noncomputable abbrev jj:=PH×Int×List (PH×Int)
noncomputable def bK(s:aG)(x:Nat×Int×List Int):jj:=((s.cs.getD x.1 ("",0)).1,(s.cs.getD x.1 ("",0)).2,((s.ps.map (·.1)).zip x.2.2).filter fun p=>decide (0<p.2))
noncomputable def MD(H:Hp)(x:jj)(t:PK):Prop:=∃r:PK,H t=some (.tup [.str x.1,.int x.2.1,.ref r])/\nQ H r x.2.2
noncomputable def oW(H:Hp)(l:PK)(ts:List PK)(rows:List jj):Prop:=H l=some (.lst (ts.map V.ref))/\Qd (MD H) rows ts
theorem MD.but{H H':Hp}{fp:List PK}{x:jj}{t:PK}(h:MD H x t)(b:bZ fp H H')(n:∀y z r,H t=some (.tup [y,z,.ref r])->r∉fp):MD H' x t:=by
 obtain⟨r,h1,h2⟩:=h
 exact⟨r,b.2.1 _ _ h1,h2.but b (n _ _ _ h1)⟩
theorem oW.but{H H':Hp}{fp:List PK}{l:PK}{ts:List PK}{rows:List jj}(h:oW H l ts rows)(b:bZ fp H H')(n:l∉fp)(nr:∀t∈ts,∀y z r,H t=some (.tup [y,z,.ref r])->r∉fp):oW H' l ts rows:=by
 obtain⟨h1,h2⟩:=h
 exists b.1 _ _ n h1
 clear h1
 induction h2 with
 |nil=>exact .nil
 |cons q _ ih=>exact .cons (q.but b (nr _ (by simp))) (ih fun t ht=>nr t (by simp[ht]))
theorem oW.tup{H H':Hp}{l:PK}{ts:List PK}{rows:List jj}(h:oW H l ts rows){fp:List PK}(b:bZ fp H H'):∀t∈ts,∀y z r,H' t=some (.tup [y,z,.ref r])->H t=some (.tup [y,z,.ref r]):=by
 obtain⟨h0,h2⟩:=h
 clear h0
 induction h2 with
 |nil=>intro t ht;cases ht
 |cons q _ ih=>
  intro t ht y z r e
  rcases Qb.mp ht with rfl|ht
  ·obtain⟨r',h1,_⟩:=q
   rw[b.2.1 _ _ h1]at e
   rw[h1];exact e
  ·exact ih t ht y z r e
noncomputable def Ot(H0 H:Hp)(r:PK)(rows:List (PH×Int)):Prop:=∃ts:List PK,H r=some (.lst (ts.map V.ref))/\Qd (fun p t=>H0 t=none/\O4 H p t) rows ts
theorem qm{H':Hp}{P:PK->Prop}{f:Nat->jj}:∀{is:List Nat}{ys:List V},Qd (fun i v=>∃t r,v=V.ref t/\P r/\H' t=some (.tup [.str (f i).1,.int (f i).2.1,.ref r])/\nQ H' r (f i).2.2) is ys->
  ∃ts:List PK,ys=ts.map V.ref/\Qd (MD H') (is.map f) ts/\∀t∈ts,∀x y w,H' t=some (.tup [x,y,.ref w])->P w
 |_,_,.nil=>⟨[],rfl,.nil,fun t ht=>by cases ht⟩
 |_,_,.cons ⟨t,w,e,hp,h1,h2⟩ r=>by
  obtain⟨ts,e2,p2,q2⟩:=qm r
  refine⟨t::ts,by rw[e,e2];rfl,.cons ⟨w,h1,h2⟩ p2,fun t' ht x y w' h'=>?_⟩
  rcases Qb.mp ht with rfl|ht
  ·rw[h1]at h'
   injection h' with h'
   injection h' with h'
   simp at h'
   rw[<-h'.2.2];exact hp
  ·exact q2 t' ht x y w' h'
theorem Nl{K:PM}{H:Hp}{Q:VK}{d:PK}{kvs:List (Key×V)}(h:H d=some (.dK kvs))(q:∀v H1,H v=none->av H H1->H1 v=some (mU v d)->Q (.ref v) H1):L5 K "dict" (.ref d) H/\HJ (.ref d) [] H Q:=
 ⟨.inr (.inr (.inl ⟨rfl,.inl ⟨kvs,h⟩⟩)),d,kvs,rfl,rfl,h,fun v hv=>q v _ hv (av.updN hv) ax⟩
noncomputable def M9:jj:=("",0,[])
theorem oW.ys{K:PM}{H:Hp}{l:PK}{ts:List PK}{rows:List jj}(h:oW H l ts rows):∃rs:List PK,∀(fp:List PK)(H':Hp),bZ fp H H'->l∉fp->
  aY K H' l (ts.map V.ref)/\∀(i:Nat)(t:PK),ts[i]?=some t->kZ K H' t [.str (rows.getD i M9).1,.int (rows.getD i M9).2.1,.ref (rs.getD i 0)]:=by
 obtain⟨h1,h2⟩:=h
 have go:∀{rows:List jj}{ts:List PK},Qd (MD H) rows ts->∃rs:List PK,∀(i:Nat)(t:PK),ts[i]?=some t->H t=some (.tup [.str (rows.getD i M9).1,.int (rows.getD i M9).2.1,.ref (rs.getD i 0)]):=by
  intro rows ts h
  induction h with
  |nil=>exact⟨[],fun i t e=>by simp at e⟩
  |cons q _ ih=>
   obtain⟨rs,hr⟩:=ih
   obtain⟨r,g1,_⟩:=q
   refine⟨r::rs,fun i t e=>?_⟩
   cases i with
   |zero=>
    simp at e
    subst e
    exact g1
   |succ i=>exact hr i t (by simpa using e)
 obtain⟨rs,hr⟩:=go h2
 exact⟨rs,fun fp H' b n=>⟨aY.of (b.1 _ _ n h1),fun i t e=>kZ.of (b.2.1 _ _ (hr i t e))⟩⟩
theorem La{s:aG}(g:s.ps.length<=20/\s.cs.length<=12):0<(fc s:Int)/\((fc s:Nat):Int)<nh:=by
 have h1:=fX s.ps.length (s.cs.length+1)
 have h2:=qg (v:=s.ps.length) (w:=s.cs.length+1) g.1 (by have:=g.2;omega)
 have h3:=HW
 unfold fc
 refine⟨by exact_mod_cast h1,Ug h2 (Ug ?_ h3)⟩
 decide +kernel
noncomputable def HZ(s:aG)(left:List Int)(g:Int):aG:={s with pot:=s.pot+(left.map (· % g)).sum/g,ps:=(s.ps.map (·.1)).zip (left.map (· / g))}
noncomputable def cQ(s:aG)(left:List Int)(g:Int)(rs:List jj):aG:=
 ⟨(s.ps.map (·.1)).zip (left.map (· / g)),s.cs.filter fun p=>decide (p.1∉rs.map (·.1)),s.ws.filter fun p=>decide (p.2∉rs.map (·.1)),s.pot+(left.map (· % g)).sum/g,s.giv,s.spt+(rs.map (·.2.1)).sum⟩
theorem DT(s:aG)(left:List Int)(g:Int):cQ s left g []=HZ s left g:=by
 unfold cQ HZ
 simp
structure pf(s:aG):Prop where
 v20:s.ps.length<=20
 n12:s.cs.length<=12
 ap:∀p∈s.ps,aV p.1
 ac:∀p∈s.cs,aV p.1
 aw:∀p∈s.ws,aV p.1/\aV p.2
 cb:∀p∈s.cs,1<=p.2/\p.2<=1000000000000
 p0:∀p∈s.ps,0<=p.2/\p.2<=1000000000000
 wl:s.ws.length<=900
theorem pf.town{s:aG}(g:pf s)(h:s.ps≠[]):Jh (cc s) (aZ s) (aH s) where
 c12:=by simp[cc];exact g.n12
 cb:=fun x hx=>by
  obtain⟨p,hp,rfl⟩:=P9.mp hx
  exact g.cb p hp
 v1:=by simp[aZ];exact Uj.mpr h
 v20:=by simp[aZ];exact g.v20
 pl:=by simp[aH,aZ]
 p0:=fun x hx=>by
  obtain⟨p,hp,rfl⟩:=P9.mp hx
  exact Vc (g.p0 p hp).1 (Wf _)
 pd:=fun x hx=>by
  obtain⟨p,hp,rfl⟩:=P9.mp hx
  have e1:(aZ s).length=s.ps.length:=by simp[aZ]
  have e2:(cc s).length=s.cs.length:=by simp[cc]
  rw[e1,e2]
  exact UN (jz (RC _)) (Wk _ _)
theorem getD_mem{α:Type}{xs:List α}{i:Nat}(d:α)(h:i<xs.length):xs.getD i d∈xs:=by
 rw[QG,Qj h]
 exact RA h
theorem BZ(s:aG)(left:List Int)(g:Int)(rs:List jj)(r:jj):cQ s left g (rs++[r])=
  {cQ s left g rs with spt:=(cQ s left g rs).spt+r.2.1,cs:=(cQ s left g rs).cs.filter fun p=>decide (p.1≠r.1),ws:=(cQ s left g rs).ws.filter fun p=>!decide (p.2=r.1)}:=by
 unfold cQ
 simp only[Rj,Ut,List.filter_filter,Qu,S7,Ra,WO,aG.mk.injEq,true_and]
 refine⟨?_,?_,by omega⟩
 ·refine VJ fun p _=>?_
  rw[Rh]
  simp
  exact Xu
 ·refine VJ fun p _=>?_
  rw[Rh]
  simp
  exact Xu
theorem Jj{ps:List (PH×Int)}(nd:(ps.map (·.1)).Nodup){i j:Nat}(hi:i<ps.length)(hj:j<ps.length)(h:(ps.getD i ("",0)).1=(ps.getD j ("",0)).1):i=j:=by
 rw[QG,QG,Qj hi,Qj hj]at h
 have h:(ps[i]).1=(ps[j]).1:=h
 rcases Nat.lt_trichotomy i j with c|c|c
 ·have:=Uo.mp nd i j (by simpa using hi) (by simpa using hj) c
  simp at this
  exact absurd h this
 ·exact c
 ·have:=Uo.mp nd j i (by simpa using hj) (by simpa using hi) c
  simp at this
  exact absurd h.symm this
section
variable {K:PM}{σ:St}{H:Hp}{Q:VK}{l:PK}
end
section
variable {K:PM}{H:Hp}{Q:VK}{a l:PK}{n:Nat}{ds:List Qw}
end
theorem map_getD{α β:Type}(f:α->β)(d:α)(e:β){xs:List α}{i:Nat}(h:i<xs.length):(xs.map f).getD i e=f (xs.getD i d):=by simp[Qm,h]
theorem DO{s:aG}(G:pf s){sts:List (Nat×Int×List Int)}(hb:∀x∈sts,x.1<s.cs.length):∀r∈sts.map (bK s),aV r.1/\∀p∈r.2.2,aV p.1:=fun r hr=>by
 obtain⟨x,hx,rfl⟩:=P9.mp hr
 refine⟨G.ac _ (getD_mem _ (hb x hx)),fun p hp=>?_⟩
 have hp:=(QL.mp hp).1
 have:=(Uk (a:=p.1) (b:=p.2) hp).1
 obtain⟨q,hq,e⟩:=P9.mp this
 rw[<-e];exact G.ap q hq
theorem pC(ps:List Int)(sts:List (Nat×Int×List Int)):(bL ps sts).length=ps.length:=by simp[bL]
theorem sf{cs:List Int}{rows:List (List Int)}:∀{run:List (Nat×Int)}{ps:List Int}{done:List Nat},ps.length=rows.length->gZ (bO cs rows) (PF ps) done run->(cG rows ps run).sum=ps.sum-(run.map fun x=>(bO cs rows).c x.1).sum
 |[],ps,done,hl,h=>by simp[cG]
 |(k,L)::r,ps,done,hl,h=>by
  cases h with
  |step nx ex rest=>
   rw[cG,sf (by rw[ic];exact hl) (by rw[iN hl];exact rest)]
   have e:ps.sum=sumTo ps.length (PF ps):=by
    unfold sumTo PF
    rw[bw (fun x:Int=>x) 0 ps,UO]
   have:(iA rows ps k L).sum=ps.sum-(bO cs rows).c k:=by
    rw[<-ex]
    show sumTo ps.length (DV (WR rows) (PF ps) k L)=_
    rw[e,hl]
    unfold DV uf
    exact zB _ _ _
   rw[Qu,Ra,this]
   show _=_-((bO cs rows).c k+_)
   omega
theorem FH{g:Int}:∀{l:List Int},g∣l.sum-(l.map (· % g)).sum
 |[]=>⟨0,by simp⟩
 |x::l=>by
  obtain⟨q,hq⟩:=FH (g:=g) (l:=l)
  exists x/g+q
  have:=VT x g
  rw[Qu,Ra,Ra,TK]
  omega
theorem A8{g:Int}:∀{l:List Int},(∀x∈l,g∣x)->g∣l.sum
 |[],_=>⟨0,by simp⟩
 |x::l,h=>by
  rw[Ra]
  exact YK (h x (by simp)) (A8 fun y hy=>h y (by simp[hy]))
theorem Jd{s:aG}{run:List (Nat×Int)}(rx:gZ (bO (cc s) (aZ s)) (PF (aH s)) [] run):(fc s:Int)∣((bL (aH s) (aT (aZ s) (aH s) run)).map (· % (fc s:Int))).sum:=by
 have h1:=sf (by simp[aH,aZ]) rx
 have h2:(fc s:Int)∣(cG (aZ s) (aH s) run).sum:=by
  rw[h1]
  refine Vf (A8 fun x hx=>?_) (A8 fun x hx=>?_)
  ·obtain⟨p,_,rfl⟩:=P9.mp hx
   exact Wk _ _
  ·obtain⟨y,_,rfl⟩:=P9.mp hx
   have e1:(aZ s).length=s.ps.length:=by simp[aZ]
   have e2:(cc s).length=s.cs.length:=by simp[cc]
   show _∣(cc s).getD y.1 0*((mZ (aZ s).length ^ ((cc s).length+1):Nat):Int)
   rw[e1,e2]
   exact Wk _ _
 rw[gU]
 have h3:=FH (g:=(fc s:Int)) (l:=cG (aZ s) (aH s) run)
 have:=Vf h2 h3
 rwa [show ∀a b:Int,a-(a-b)=b from fun a b=>by omega]at this
theorem EF(ps:List Int):bL ps []=ps:=by
 unfold bL
 refine T4 (Ss fun i _=>?_) ((bw (fun x:Int=>x) 0 ps).trans (UO _))
 simp
theorem Dh:∀ps:List (PH×Int),(ps.map (·.1)).zip (ps.map (·.2))=ps
 |[]=>rfl
 |p::r=>by rw[Qu,Qu,List.zip_cons_cons,Dh r]
noncomputable def PD(H:Hp)(t:PK):PK:=match H t with
 |some (.tup [_,_,.ref r])=>r
 |_=>0
theorem iM{s:aG}{run:List (Nat×Int)}(rx:gZ (bO (cc s) (aZ s)) (PF (aH s)) [] run):(aT (aZ s) (aH s) run).length<=s.cs.length/\∀x∈aT (aZ s) (aH s) run,x.1<s.cs.length/\x.2.2.length=s.ps.length:=by
 have hrw:=zI rx.run
 have hcl:(cc s).length=s.cs.length:=by simp[cc]
 have hpl:(aH s).length=s.ps.length:=by simp[aH]
 refine⟨?_,fun x hx=>⟨?_,by rw[jr _ _ _ x hx,hpl]⟩⟩
 ·rw[iI]
  have:=ij s.cs.length (run.map (·.1)) hrw.2 (fun x hx=>by
   obtain⟨y,hy,rfl⟩:=P9.mp hx
   have:=(hrw.1 y hy).1
   rw[<-hcl];exact this)
  simpa using this
 ·have hm:x.1∈run.map (·.1):=by rw[<-wJ];exact P9.mpr ⟨x,hx,rfl⟩
  obtain⟨y,hy,e⟩:=P9.mp hm
  have:=(hrw.1 y hy).1
  rw[<-e,<-hcl];exact this
theorem Bg{s:aG}{i:Nat}(hi:i<s.ps.length):PF (aH s) i=(s.ps.getD i ("",0)).2*(fc s:Int):=by
 unfold PF aH
 exact map_getD (fun p:PH×Int=>p.2*(fc s:Int)) ("",0) 0 hi
theorem Kq{s:aG}{k:Nat}(hk:k<s.cs.length):(bO (cc s) (aZ s)).c k=(s.cs.getD k ("",0)).2*(fc s:Int):=by
 have e1:(aZ s).length=s.ps.length:=by simp[aZ]
 have e2:(cc s).length=s.cs.length:=by simp[cc]
 show(cc s).getD k 0*((mZ (aZ s).length ^ ((cc s).length+1):Nat):Int)=_
 rw[e1,e2]
 unfold cc
 rw[map_getD (fun p:PH×Int=>p.2) ("",0) 0 hk]
 rfl
theorem zip_get{ns:List PH}{xs:List Int}{i:Nat}(h1:i<ns.length)(h2:i<xs.length):(ns.zip xs).getD i ("",0)=(ns.getD i "",xs.getD i 0):=by
 have h3:i<(ns.zip xs).length:=by simp;omega
 rw[QG,Qj h3,QG,Qj h1,QG,Qj h2]
 simp[List.getElem_zip]
noncomputable def dQ(s:aG)(run:List (Nat×Int)):aG:=cQ s (bL (aH s) (aT (aZ s) (aH s) run)) (fc s) ((aT (aZ s) (aH s) run).map (bK s))
theorem kH{s:aG}{run:List (Nat×Int)}:(dQ s run).ps.map (·.1)=s.ps.map (·.1):=by
 show((s.ps.map (·.1)).zip (RE _ (bL (aH s) (aT (aZ s) (aH s) run)))).map (·.1)=_
 rw[Xd (by simp[pC,aH])]
theorem C8(s:aG):dQ s []=s:=by
 have g0:0<(fc s:Int):=by exact_mod_cast fX s.ps.length (s.cs.length+1)
 have e1:(aT (aZ s) (aH s) [])=[]:=rfl
 have e2:((aH s).map (· / (fc s:Int)))=s.ps.map (·.2):=by
  unfold aH
  rw[Qn]
  exact Ss fun p _=>W8 _ (by omega)
 have e3:((aH s).map (· % (fc s:Int))).sum=0:=by
  have:∀l:List (PH×Int),((l.map fun p=>p.2*(fc s:Int)).map (· % (fc s:Int))).sum=0:=fun l=>by
   induction l with
   |nil=>rfl
   |cons x r ih=>rw[Qu,Qu,Ra,ih,Int.mul_emod_left];rfl
  exact this s.ps
 unfold dQ
 rw[e1,EF]
 unfold cQ
 rw[e2,e3,Dh]
 simp only[S7,Rb,not_false_eq_true,decide_true,WO,Int.add_zero,Int.zero_ediv,R7.mpr (fun _ _=>rfl)]
theorem tf{cs:List Int}{rows:List (List Int)}:∀{run:List (Nat×Int)}{ps:List Int}{done:List Nat},ps.length=rows.length->gZ (bO cs rows) (PF ps) done run->(∀i,0<=PF ps i)->∀i,0<=PF (cG rows ps run) i/\PF (cG rows ps run) i<=PF ps i
 |[],ps,done,hl,h,h0,i=>⟨h0 i,RS _⟩
 |(k,L)::r,ps,done,hl,h,h0,i=>by
  cases h with
  |step nx ex rest=>
   rw[cG]
   have hL:=nx.pos
   have h1:∀j,0<=PF (iA rows ps k L) j:=fun j=>by rw[iN hl];exact DJ (h0 j)
   obtain⟨z1,z2⟩:=tf (by rw[ic];exact hl) (by rw[iN hl];exact rest) h1 i
   refine⟨z1,Te z2 ?_⟩
   rw[iN hl]
   exact JV (h0 i) (by omega)
theorem pf.closed{s:aG}(G:pf s){run:List (Nat×Int)}(rx:gZ (bO (cc s) (aZ s)) (PF (aH s)) [] run):pf (dQ s run):=by
 have g0:0<(fc s:Int):=by exact_mod_cast fX s.ps.length (s.cs.length+1)
 have hn:=kH (s:=s) (run:=run)
 have hcl:(dQ s run).ps.length=s.ps.length:=by have:=congrArg Ts hn;simpa using this
 have hpl:(aH s).length=(aZ s).length:=by simp[aH,aZ]
 have hll:(bL (aH s) (aT (aZ s) (aH s) run)).length=s.ps.length:=by rw[pC];simp[aH]
 have hp0:∀i,0<=PF (aH s) i:=fun i=>by
  by_cases hi:i<s.ps.length
  ·rw[Bg hi]
   exact Vc (G.p0 _ (getD_mem _ hi)).1 (Tr g0)
  ·rw[Ey (by simp[aH];omega)]
   exact RS _
 refine⟨by rw[hcl];exact G.v20,P6 (Rz _ _) G.n12,fun p hp=>?_,fun p hp=>G.ac p (QL.mp hp).1,fun p hp=>G.aw p (QL.mp hp).1,fun p hp=>G.cb p (QL.mp hp).1,fun p hp=>?_,P6 (Rz _ _) G.wl⟩
 ·have:p.1∈s.ps.map (·.1):=by rw[<-hn];exact P9.mpr ⟨p,hp,rfl⟩
  obtain⟨r,hr,e⟩:=P9.mp this
  rw[<-e];exact G.ap r hr
 ·obtain⟨i,hi,e⟩:=Tw hp
  have hi':i<s.ps.length:=by rw[<-hcl];exact hi
  have eg:(dQ s run).ps.getD i ("",0)=((s.ps.getD i ("",0)).1,(bL (aH s) (aT (aZ s) (aH s) run)).getD i 0/(fc s:Int)):=by
   show((s.ps.map (·.1)).zip (RE (fun x=>x/(fc s:Int)) (bL (aH s) (aT (aZ s) (aH s) run)))).getD i ("",0)=_
   rw[zip_get (by simpa using hi') (by simpa[hll]using hi'),map_getD (fun p:PH×Int=>p.1) ("",0) "" hi',map_getD (fun x:Int=>x/(fc s:Int)) 0 0 (by rw[hll];exact hi')]
  have e2:(dQ s run).ps.getD i ("",0)=p:=by rw[QG,Qj hi];exact e
  rw[e2]at eg
  rw[eg]
  obtain⟨z1,z2⟩:=tf hpl rx hp0 i
  rw[<-gU]at z1 z2
  have z1:0<=(bL (aH s) (aT (aZ s) (aH s) run)).getD i 0:=z1
  have z2:(bL (aH s) (aT (aZ s) (aH s) run)).getD i 0<=PF (aH s) i:=z2
  rw[Bg hi']at z2
  exists Xt z1 (Tr g0)
  have h1:=(G.p0 _ (getD_mem (xs:=s.ps) ("",0) hi')).2
  have h2:(bL (aH s) (aT (aZ s) (aH s) run)).getD i 0/(fc s:Int)<=(s.ps.getD i ("",0)).2:=by
   have:=Int.ediv_le_ediv g0 z2
   rwa [W8 _ (by omega)]at this
  exact Te h2 h1
noncomputable def vP:List (PH×Int)->PH->Int
 |[],_=>0
 |p::r,v=>if p.1=v then p.2 else vP r v
theorem pT:∀{ps:List (PH×Int)}{v:PH},v∈ps.map (·.1)->(v,vP ps v)∈ps
 |[],_,h=>by cases h
 |p::r,v,h=>by
  unfold vP
  by_cases e:p.1=v
  ·rw[if_pos e,<-e]
   exact QH
  ·rw[if_neg e]
   have h:v∈p.1::r.map (·.1):=h
   rcases Qb.mp h with z|z
   ·exact absurd z.symm e
   ·exact Qs _ (pT z)
section
variable {lps:List (PH×Int)}{g:Int}{rows:List WRow}{r:WRow}{k:Nat}{L M:Int}
end
section
variable {s:aG}{left:List Int}(hl:left.length=s.ps.length)(nd:(s.ps.map (·.1)).Nodup)
include hl nd
end
section
variable {s:aG}{left:List Int}(hl:left.length=s.ps.length)(nd:(s.ps.map (·.1)).Nodup)
include hl nd
end
noncomputable def cz(K:PM)(H:Hp)(E:XK)(n:PH):Prop:=∀H',av H H'->E (.ref (ao K n)) none H'
inductive cq where
 |enrol (z:PH)
 |propose (z:PH) (x:Int)
 |give (x:Int)
 |leave (z:PH)
 |withdraw (z:PH)
 |want (v n:PH)
 |unwant (v n:PH)
noncomputable def cq.due(s:aG):cq->Option PH
 |.enrol z=>if dw z=false then some "NoName" else if z∈s.ps.map (·.1)then some "Twice" else if 20<=s.ps.length then some "Full" else none
 |.propose z x=>if dw z=false then some "NoName" else if z∈s.cs.map (·.1)then some "Twice" else if x<1\/1000000000<x then some "TooMuch" else if 12<=s.cs.length then some "Full" else none
 |.give x=>if x<0\/1000000000<x then some "TooMuch" else none
 |.leave z=>if z∈s.ps.map (·.1)then none else some "NoVoter"
 |.withdraw z=>if z∈s.cs.map (·.1)then none else some "NoWork"
 |.want v n=>if v∈s.ps.map (·.1)then(if n∈s.cs.map (·.1)then none else some "NoWork")else some "NoVoter"
 |.unwant v n=>if v∈s.ps.map (·.1)then(if n∈s.cs.map (·.1)then none else some "NoWork")else some "NoVoter"
noncomputable def Tx(z:PH):Prop:=aV z/\z.length<=1000
theorem Cf{ps:List (PH×Int)}{n:PH}(nd:(ps.map (·.1)).Nodup)(h:n∈ps.map (·.1)):(gL (eD ps) (.inr n)).isSome=true:=by
 obtain⟨p,hp,rfl⟩:=P9.mp h
 rw[nD nd (show(p.1,p.2)∈ps from hp)]
 rfl
theorem wI{z a:PH}{n:Nat}(hz:Tx z)(ha:(Qp++a).length=n)(hn:n<=1000):(Qp++a).length<=PZ/\(TZ z).length<=PZ/\(Qp++a++TZ z).length<=PZ:=by
 have hsz:=size_eq
 have h2:=hz.2
 have hrp:=repr_fits hz.1 (show z.length<=100000 by omega)
 exists by omega,by omega
 rw[Qx]
 omega
section
variable {a b c x:Int}
end
section
variable {H H':Hp}{lp lw ld:PK}{L:List PK}{s:aG}{rows:List WkT}
end
section
variable {H:Hp}{l t:PK}{rows:List (PH×Int)}{i:Nat}{z:PH}{y:Int}
end
section
variable {H:Hp}{lp lw ld:PK}{s:aG}{rows:List WkT}
end
noncomputable def iT(n:Int):PH:=((toString n:String):PH)
theorem qC(n:Nat):(iT (n:Int)).cps.toList=(Ud 10 n).map U3:=X8 n
theorem Be{n:Int}{k:Nat}(h0:0<=n)(hk:0<k)(h:n<10 ^ k):(iT n).length<=k:=by
 obtain⟨m,rfl⟩:=Tb h0
 have hm:m<10 ^ k:=by exact_mod_cast h
 have:=(Nat.length_toDigits_le_iff (b:=10) (n:=m) (k:=k) (by decide) hk).mpr hm
 rw[show(iT (m:Int)).length=(iT (m:Int)).cps.toList.length by simp[UP],qC,P7]
 exact this
theorem JZ{a b:Int}(ha:0<=a)(hb:0<=b)(h:iT a=iT b):a=b:=by
 obtain⟨m,rfl⟩:=Tb ha
 obtain⟨n,rfl⟩:=Tb hb
 have e:(Ud 10 m).map U3=(Ud 10 n).map U3:=by rw[<-qC,<-qC,h]
 have e2:Ud 10 m=Ud 10 n:=Wn (fun x y hxy=>Char.ext (UInt32.toNat_inj.mp hxy)) |>.mp e
 have:=congrArg (fun l=>Nat.ofDigitChars 10 l 0) e2
 simp only[Nat.ofDigitChars_toDigits (b:=10) (by decide) (by decide)]at this
 omega
noncomputable def Oc:Int:=10 ^ 500
theorem KP{n:Int}(h0:0<=n)(h:n<Oc):n.natAbs.log2<1920:=by
 obtain⟨m,rfl⟩:=Tb h0
 have hm:m<2 ^ 1920:=by
  have h2:(m:Int)<((2 ^ 1920:Nat):Int):=W6 h (by decide +kernel)
  exact Int.ofNat_lt.mp h2
 by_cases e:m=0
 ·subst e;decide
 ·exact(VG (by simpa using e)).mpr (by rw[YL];exact hm)
noncomputable def vn(p:PH×Int):PH:=Qp++p.1++" "++iT p.2
noncomputable def Fw(rs:List (PH×Int)):PH:=QP ", " (rs.map vn)
noncomputable def j6(r:jj):PH:=Qp++r.1++" "++iT r.2.1++": "++Fw r.2.2
noncomputable def qi(rs:List jj)(g:Int):PH:=if rs=[]then "none" else Qp++QP "; " (rs.map j6)++" of "++iT g
noncomputable def xh(ns:List PH):PH:=if ns=[]then "-" else QP "+" ns
noncomputable def nj(r:PH×Int×List PH):PH:=Qp++r.1++" "++iT r.2.1++" "++xh r.2.2
noncomputable def sT(rs:List (PH×Int×List PH)):PH:=if rs=[]then "none" else QP ", " (rs.map nj)
noncomputable def Sm(x:PH):Prop:=x.length<=8
noncomputable def Nb(n:Int):Prop:=0<=n/\n<Oc
theorem Nb.len{n:Int}(h:Nb n):(iT n).length<=600:=Be h.1 (by decide) (W6 h.2 (by decide +kernel))
theorem Nb.log{n:Int}(h:Nb n):n.natAbs.log2<1920:=KP h.1 h.2
theorem dU:(", ":PH).length=2/\("; ":PH).length=2/\(" ":PH).length=1/\(": ":PH).length=2/\(" of ":PH).length=4/\("+":PH).length=1/\("-":PH).length=1/\(Qp).length=0:=by decide +kernel
theorem xf{p:PH×Int}(h1:Sm p.1)(h2:Nb p.2):(vn p).length<=609:=by
 obtain⟨_,_,e,_,_,_,_,e0⟩:=dU
 have:=h2.len
 unfold Sm at h1
 unfold vn
 simp only[Qx]
 omega
theorem zg{rs:List (PH×Int)}(hr:rs.length<=20)(h:∀p∈rs,Sm p.1/\Nb p.2):(Fw rs).length<=12220:=by
 obtain⟨e,_⟩:=dU
 have:=j2 (sep:=", ") (m:=609) (xs:=rs.map vn) (fun x hx=>by
  obtain⟨p,hp,rfl⟩:=P9.mp hx
  exact xf (h p hp).1 (h p hp).2)
 rw[P7,e]at this
 have:rs.length*(609+2)<=20*611:=SG _ hr
 unfold Fw
 omega
theorem zk{r:jj}(h1:Sm r.1)(h2:Nb r.2.1)(hr:r.2.2.length<=20)(h:∀p∈r.2.2,Sm p.1/\Nb p.2):(j6 r).length<=12840:=by
 obtain⟨_,_,e,e2,_,_,_,e0⟩:=dU
 have:=h2.len
 have:=zg hr h
 unfold Sm at h1
 unfold j6
 simp only[Qx]
 omega
theorem wu{ns:List PH}(hn:ns.length<=20)(h:∀x∈ns,Sm x):(xh ns).length<=180:=by
 obtain⟨_,_,_,_,_,e,e2,_⟩:=dU
 unfold xh
 split
 ·omega
 ·have:=j2 (sep:="+") (m:=8) (xs:=ns) h
  rw[e]at this
  have:ns.length*(8+1)<=20*9:=SG _ hn
  omega
theorem zw{r:PH×Int×List PH}(h1:Sm r.1)(h2:Nb r.2.1)(hr:r.2.2.length<=20)(h:∀x∈r.2.2,Sm x):(nj r).length<=800:=by
 obtain⟨_,_,e,_,_,_,_,e0⟩:=dU
 have:=h2.len
 have:=wu hr h
 unfold Sm at h1
 unfold nj
 simp only[Qx]
 omega
theorem CA{s:aG}{r1 r2:List (Nat×Int)}(h1:gZ (bO (cc s) (aZ s)) (PF (aH s)) [] r1)(h2:gZ (bO (cc s) (aZ s)) (PF (aH s)) [] r2):r1=r2:=DI h1.run h2.run
open Classical in
noncomputable def runOf(s:aG):List (Nat×Int):=if h:∃run,gZ (bO (cc s) (aZ s)) (PF (aH s)) [] run then h.choose else[]
theorem vh{s:aG}{run:List (Nat×Int)}(h:gZ (bO (cc s) (aZ s)) (PF (aH s)) [] run):runOf s=run:=by
 unfold runOf
 rw[dif_pos ⟨run,h⟩]
 exact CA (Exists.choose_spec (⟨run,h⟩:∃run,gZ (bO (cc s) (aZ s)) (PF (aH s)) [] run)) h
noncomputable def toldOf(s:aG):List jj:=(aT (aZ s) (aH s) (runOf s)).map (bK s)
noncomputable def lH(s:aG):aG:=if s.ps=[]\/s.cs=[]then s else dQ s (runOf s)
noncomputable def sg(s:aG):PH:=if s.ps=[]\/s.cs=[]then "none" else qi (toldOf s) (fc s)
noncomputable def cq.app(s:aG):cq->aG
 |.enrol z=>{s with ps:=s.ps++[(z,0)]}
 |.propose z x=>{s with cs:=s.cs++[(z,x)]}
 |.give x=>qU s x
 |.leave z=>HU s z (vP s.ps z)
 |.withdraw z=>{s with cs:=s.cs.filter fun p=>decide (p.1≠z),ws:=s.ws.filter fun p=>!decide (p.2=z)}
 |.want v n=>if(v,n)∈s.ws then s else{s with ws:=s.ws++[(v,n)]}
 |.unwant v n=>{s with ws:=s.ws.filter fun p=>!decide (p=(v,n))}
inductive Act where
 |deed (D:cq)
 |close
 |tell (t:PH)
 |no (cl:PH)
noncomputable def C7(z:PH):Int:=(Wb z).getD 0
noncomputable def Bt(s:aG)(w:PH):Act:=if w="close" then .close else if w="works" then .tell (sT (s.cs.map (xi s)))else if w="pot" then .tell (iT s.pot)else if w="given" then .tell (iT s.giv)else if w="spent" then .tell (iT s.spt)else .no "NoRow"
noncomputable def act2(s:aG)(w a:PH):Act:=if w="purse" then(if a∈s.ps.map (·.1)then .tell (iT (vP s.ps a))else .no "NoVoter")else if w="enrol" then .deed (.enrol a)else if w="leave" then .deed (.leave a)else if w="give" then(if i6 a then .deed (.give (C7 a))else .no "NoRow")else if w="withdraw" then .deed (.withdraw a)else .no "NoRow"
noncomputable def xK(s:aG)(w a b:PH):Act:=if w="propose" then(if i6 b then .deed (.propose a (C7 b))else .no "NoRow")else if w="want" then .deed (.want a b)else if w="unwant" then .deed (.unwant a b)else .no "NoRow"
noncomputable def D7(s:aG):List PH->Act
 |[w]=>Bt s w
 |[w,a]=>act2 s w a
 |[w,a,b]=>xK s w a b
 |_=>.no "NoRow"
noncomputable def dg(s:aG)(row:PH):Act:=if("":PH)∈QJ row " " then .no "NoRow" else D7 s (QJ row " ")
noncomputable def xu(K:PM)(A:Hp->List PK->aG->Prop)(H:Hp)(fp:List PK)(s:aG)(Q:VK)(E:XK):Act->Prop
 |.deed D=>(D.due s=none->∀H' fp',A H' fp' (D.app s)->bZ fp H H'->ji fp fp' H->Q (.str "ok") H')/\∀cl,D.due s=some cl->cz K H E cl
 |.close=>∀H' fp',A H' fp' (lH s)->bZ fp H H'->ji fp fp' H->Q (.str (sg s)) H'
 |.tell t=>∀H',av H H'->Q (.str t) H'
 |.no cl=>cz K H E cl
structure lX(s:aG):Prop where
 g:pf s
 nv:∀p∈s.ps,dw p.1=true
 nc:∀p∈s.cs,dw p.1=true
 pot:Nb s.pot
 giv:Nb s.giv
 spt:Nb s.spt
theorem mT{n:Int}(h0:0<=n)(h:n<=1000000000000):Nb n:=⟨h0,Ug h (by decide +kernel)⟩
noncomputable def cF(K:PM)(H:Hp)(d:PK)(fp:List PK)(s:aG):Prop:=∃dx c fpc,H d=some (.ins (ao K "Desk") dx [("chest",.ref c)])/\aO K H c fpc s/\d∉fpc/\fp=d::fpc
theorem Fk{cs:List Int}{rows:List (List Int)}{M:Int}:∀{run:List (Nat×Int)}{ps:List Int}{done:List Nat},ps.length=rows.length->gZ (bO cs rows) (PF ps) done run->(∀i,0<=PF ps i/\PF ps i<=M)->∀x∈aT rows ps run,∀y∈x.2.2,y<=M
 |[],ps,done,hl,h,h0,x,hx,y,hy=>by cases hx
 |(k,L)::r,ps,done,hl,h,h0,x,hx,y,hy=>by
  cases h with
  |step nx ex rest=>
   have hL:=nx.pos
   have hM:0<=M:=Te (h0 0).1 (h0 0).2
   rw[aT]at hx
   rcases Qb.mp hx with rfl|hx
   ·have hy:y∈my rows ps k L:=hy
    obtain⟨i,_,rfl⟩:=P9.mp hy
    have h1:=(h0 i).2
    unfold Bs
    split<;>omega
   ·refine Fk (by rw[ic];exact hl) (by rw[iN hl];exact rest) (fun i=>?_) x hx y hy
    rw[iN hl]
    exact⟨DJ (h0 i).1,Te (JV (h0 i).1 (by omega)) (h0 i).2⟩
theorem Io{s:aG}(G:pf s):(0:Int)<(fc s:Int)/\((fc s:Nat):Int)<=232792560 ^ 13:=by
 have h1:=fX s.ps.length (s.cs.length+1)
 have h2:=qg (v:=s.ps.length) (w:=s.cs.length+1) G.v20 (by have:=G.n12;omega)
 unfold fc
 exact⟨by exact_mod_cast h1,h2⟩
theorem NT{s:aG}(G:pf s):Nb ((fc s:Nat):Int):=⟨Tr (Io G).1,Ug (Io G).2 (by decide +kernel)⟩
theorem Ff{s:aG}(G:lX s){run:List (Nat×Int)}(rx:gZ (bO (cc s) (aZ s)) (PF (aH s)) [] run):
  ∀r∈(aT (aZ s) (aH s) run).map (bK s),Sm r.1/\Nb r.2.1/\r.2.2.length<=20/\∀p∈r.2.2,Sm p.1/\Nb p.2:=fun r hr=>by
 obtain⟨x,hx,rfl⟩:=P9.mp hr
 obtain⟨b1,b2⟩:=(iM rx).2 x hx
 obtain⟨g1,g2⟩:=Io G.g
 have hm:=getD_mem (xs:=s.cs) ("",0) b1
 have hcb:=G.g.cb _ hm
 refine⟨(fq (G.nc _ hm)).2,mT (by have:=hcb.1;show(0:Int)<=(s.cs.getD x.1 ("",0)).2;omega) hcb.2,?_,fun p hp=>?_⟩
 ·refine P6 (Rz _ _) ?_
  rw[List.length_zip,P7]
  exact P6 (WV _ _) G.g.v20
 ·obtain⟨hz,hpos⟩:=QL.mp hp
  have hpos:=of_decide_eq_true hpos
  have hpl:(aH s).length=(aZ s).length:=by simp[aH,aZ]
  obtain⟨z1,z2⟩:=Uk hz
  obtain⟨v,hv,e⟩:=P9.mp z1
  exists ?_,Tr hpos
  ·rw[<-e]
   exact(fq (G.nv v hv)).2
  ·have:=Fk (M:=1000000000000*232792560 ^ 13) hpl rx (fun i=>?_) x hx p.2 z2
   ·exact Ug this (by decide +kernel)
   ·by_cases hi:i<s.ps.length
    ·rw[Bg hi]
     have hb:=G.g.p0 _ (getD_mem (xs:=s.ps) ("",0) hi)
     exact⟨Vc hb.1 (Tr g1),Te (U1 hb.2 (Tr g1)) (Yy g2 (by decide))⟩
    ·rw[Ey (by simp[aH];omega)]
     exact⟨RS _,by decide +kernel⟩
noncomputable def fP(ps:List (PH×Int)):Int:=(ps.map (·.2)).sum
theorem Fu:∀{ps:List (PH×Int)},(∀p∈ps,0<=p.2)->0<=fP ps/\∀p∈ps,p.2<=fP ps
 |[],_=>⟨RS _,fun _ h=>nomatch h⟩
 |q::r,h=>by
  obtain⟨h1,h2⟩:=Fu (ps:=r) fun p hp=>h p (Qs _ hp)
  have h0:=h q (QH ..)
  have e:fP (q::r)=q.2+fP r:=by simp[fP]
  refine⟨by omega,fun p hp=>?_⟩
  rcases Qb.mp hp with rfl|hp
  ·omega
  ·have:=h2 p hp;omega
theorem Di(x:Int):∀ps:List (PH×Int),fP (ps.map fun p=>(p.1,p.2+x))=fP ps+x*ps.length
 |[]=>by simp[fP]
 |q::r=>by
  have:=Di x r
  simp only[fP,Qu,Ra,QU]at this ⊢
  rw[this]
  have:x*((r.length+1:Nat):Int)=x*(r.length:Int)+x:=by rw[Uu,TK];simp
  omega
theorem zu:∀{ps:List (PH×Int)}{z:PH},(ps.map (·.1)).Nodup->z∈ps.map (·.1)->fP (ps.filter fun p=>decide (p.1≠z))+vP ps z=fP ps
 |[],_,_,h=>nomatch h
 |q::r,z,nd,h=>by
  have hq:q.1∉r.map (·.1):=(RM.mp nd).1
  rw[vP]
  by_cases e:q.1=z
  ·subst e
   rw[if_pos rfl,SY,if_neg (by simp),(R7 (p:=fun p:PH×Int=>decide (p.1≠q.1)) (l:=r)).mpr fun p hp=>decide_eq_true fun z=>hq (P9.mpr ⟨p,hp,z⟩)]
   simp[fP];omega
  ·have:=zu (ps:=r) (z:=z) (RM.mp nd).2 (by
    rcases Qb.mp h with h|h
    ·exact absurd h.symm e
    ·exact h)
   rw[if_neg e,SY,if_pos (decide_eq_true e)]
   simp only[fP,Qu,Ra]at this ⊢
   omega
structure cE(n:Nat)(s:aG):Prop where
 d:lX s
 nd:(s.ps.map (·.1)).Nodup
 nd2:(s.cs.map (·.1)).Nodup
 w:s.ws.length<=n
 gn:s.giv<=n*1000000000
 co:s.spt+s.pot+fP s.ps=s.giv
theorem cE.of{n:Nat}{s:aG}(hn:n<=900)(v20:s.ps.length<=20)(n12:s.cs.length<=12)(nv:∀p∈s.ps,dw p.1=true)(nc:∀p∈s.cs,dw p.1=true)(aw:∀p∈s.ws,aV p.1/\aV p.2)
  (cb:∀p∈s.cs,1<=p.2/\p.2<=1000000000000) (p0:∀p∈s.ps,0<=p.2) (nd:(s.ps.map (·.1)).Nodup) (nd2:(s.cs.map (·.1)).Nodup) (w:s.ws.length<=n) (gn:s.giv<=n*1000000000) (h1:0<=s.pot) (h2:0<=s.spt) (co:s.spt+s.pot+fP s.ps=s.giv):cE n s:=by
 obtain⟨z1,z2⟩:=Fu p0
 have hn':(n:Int)<=900:=by exact_mod_cast hn
 exact⟨⟨⟨v20,n12,fun p hp=>CV (nv p hp),fun p hp=>CV (nc p hp),aw,cb,fun p hp=>⟨p0 p hp,by have:=z2 p hp;omega⟩,P6 w hn⟩,nv,nc,mT h1 (by omega),mT (by omega) (by omega),mT h2 (by omega)⟩,nd,nd2,w,gn,co⟩
theorem cE.up{n m:Nat}{s:aG}(g:cE n s)(h:n<=m):cE m s:=by
 have h1:=g.gn
 have h2:(n:Int)<=m:=by exact_mod_cast h
 exact⟨g.d,g.nd,g.nd2,P6 g.w h,by omega,g.co⟩
theorem uT{zs:List PH}{z:PH}(h:zs.Nodup)(n:z∉zs):(zs++[z]).Nodup:=Yu.mpr ⟨h,ZV (fun _ h=>nomatch h) .nil,fun a ha b hb e=>n (by rw[QR]at hb;rw[<-hb,<-e];exact ha)⟩
theorem cE.app{n:Nat}{s:aG}(g:cE n s)(hn:n+1<=900){D:cq}(hd:D.due s=none):cE (n+1) (D.app s):=by
 have G:=g.d.g
 have hgn:=g.gn
 have hco:=g.co
 have hp0:∀p∈s.ps,0<=p.2:=fun p hp=>(G.p0 p hp).1
 have hw:s.ws.length<=n+1:=Nat.le_succ_of_le g.w
 have hgn1:s.giv<=((n+1:Nat):Int)*1000000000:=by rw[Uu];omega
 have same:∀{s':aG},s'.ps=s.ps->s'.pot=s.pot->s'.giv=s.giv->s'.spt=s.spt->s'.cs.length<=12->(∀p∈s'.cs,dw p.1=true/\1<=p.2/\p.2<=1000000000000)->(s'.cs.map (·.1)).Nodup->(∀p∈s'.ws,aV p.1/\aV p.2)->s'.ws.length<=n+1->cE (n+1) s':=fun {s'} e1 e2 e3 e4 h1 h2 h3 h4 h5=>by
  refine cE.of hn (by rw[e1];exact G.v20) h1 (by rw[e1];exact g.d.nv) (fun p hp=>(h2 p hp).1) h4 (fun p hp=>(h2 p hp).2) (by rw[e1];exact hp0) (by rw[e1];exact g.nd) h3 h5 (by rw[e3];exact hgn1) (by rw[e2];exact g.d.pot.1) (by rw[e4];exact g.d.spt.1) (by rw[e1,e2,e3,e4];exact hco)
 have hcs:∀p∈s.cs,dw p.1=true/\1<=p.2/\p.2<=1000000000000:=fun p hp=>⟨g.d.nc p hp,G.cb p hp⟩
 cases D with
 |enrol z=>
  rw[cq.due]at hd
  split at hd
  ·cases hd
  rename_i a1
  split at hd
  ·cases hd
  rename_i a2
  split at hd
  ·cases hd
  rename_i a3
  have hz:dw z=true:=by cases h:dw z<;>simp_all
  have hm:∀p∈s.ps++[(z,0)],dw p.1=true/\0<=p.2:=fun p hp=>by
   rcases QC.mp hp with h|h
   ·exact⟨g.d.nv p h,hp0 p h⟩
   ·rw[QR]at h;subst h;exact⟨hz,RS _⟩
  refine cE.of hn (by simp[cq.app];omega) G.n12 (fun p hp=>(hm p hp).1) g.d.nc G.aw G.cb (fun p hp=>(hm p hp).2) ?_ g.nd2 hw hgn1 g.d.pot.1 g.d.spt.1 ?_
  ·simp only[cq.app,Rj,Qu,S7]
   exact uT g.nd a2
  ·simp only[cq.app]
   rw[<-hco]
   simp[fP]
 |propose z x=>
  rw[cq.due]at hd
  split at hd
  ·cases hd
  rename_i a1
  split at hd
  ·cases hd
  rename_i a2
  split at hd
  ·cases hd
  rename_i a3
  split at hd
  ·cases hd
  rename_i a4
  have hz:dw z=true:=by cases h:dw z<;>simp_all
  refine same rfl rfl rfl rfl (by simp[cq.app];omega) (fun p hp=>?_) ?_ G.aw hw
  ·rcases QC.mp hp with h|h
   ·exact hcs p h
   ·rw[QR]at h;subst h;exact⟨hz,by omega,by omega⟩
  ·simp only[cq.app,Rj,Qu,S7]
   exact uT g.nd2 a2
 |give x=>
  rw[cq.due]at hd
  split at hd
  ·cases hd
  rename_i a1
  have hx:0<=x/\x<=1000000000:=by omega
  have hg:s.giv+x<=((n+1:Nat):Int)*1000000000:=by rw[Uu];omega
  have hpot:=g.d.pot.1
  show cE (n+1) (qU s x)
  unfold qU
  split
  ·exact cE.of hn G.v20 G.n12 g.d.nv g.d.nc G.aw G.cb hp0 g.nd g.nd2 hw hg (by show 0<=s.pot+x;omega) g.d.spt.1 (by show s.spt+(s.pot+x)+fP s.ps=s.giv+x;omega)
  ·rename_i hne
   have hl:0<(s.ps.length:Int):=by have:=Uj.mpr hne;omega
   have hq0:0<=(s.pot+x)/(s.ps.length:Int):=Xt (by omega) (by omega)
   have hq1:(s.pot+x)/(s.ps.length:Int)*(s.ps.length:Int)<=s.pot+x:=Int.ediv_mul_le _ (by omega)
   generalize (s.pot+x)/(s.ps.length:Int)=q at *
   have hm:∀p∈s.ps.map (fun p=>(p.1,p.2+q)),dw p.1=true/\0<=p.2:=fun p hp=>by
    obtain⟨r,hr,rfl⟩:=P9.mp hp
    exact⟨g.d.nv r hr,by have:=hp0 r hr;show 0<=r.2+q;omega⟩
   refine cE.of hn (by simp[wY];exact G.v20) G.n12 (fun p hp=>(hm p hp).1) g.d.nc G.aw G.cb (fun p hp=>(hm p hp).2) (by simp only[wY];rw[map_fst];exact g.nd) g.nd2 hw hg (by show 0<=s.pot+x-q*(s.ps.length:Int);omega) g.d.spt.1 ?_
   show s.spt+(s.pot+x-q*(s.ps.length:Int))+fP (s.ps.map fun p=>(p.1,p.2+q))=s.giv+x
   rw[Di]
   omega
 |leave z=>
  rw[cq.due]at hd
  split at hd
  ·rename_i a1
   have h1:=zu g.nd a1
   have h2:=hp0 _ (pT a1)
   have hpot:=g.d.pot.1
   exact cE.of hn (P6 (Rz _ _) G.v20) G.n12 (fun p hp=>g.d.nv p (QL.mp hp).1) g.d.nc (fun p hp=>G.aw p (QL.mp hp).1) G.cb (fun p hp=>hp0 p (QL.mp hp).1) (rP g.nd) g.nd2 (P6 (Rz _ _) hw) hgn1 (by show 0<=s.pot+vP s.ps z;omega) g.d.spt.1 (by
    show s.spt+(s.pot+vP s.ps z)+fP (s.ps.filter fun p=>decide (p.1≠z))=s.giv
    omega)
  ·cases hd
 |withdraw z=>
  exact same rfl rfl rfl rfl (P6 (Rz _ _) G.n12) (fun p hp=>hcs p (QL.mp hp).1) (rP g.nd2) (fun p hp=>G.aw p (QL.mp hp).1) (P6 (Rz _ _) hw)
 |want v m=>
  rw[cq.due]at hd
  split at hd
  ·rename_i a1
   split at hd
   ·rename_i a2
    rw[cq.app]
    split
    ·exact same rfl rfl rfl rfl G.n12 hcs g.nd2 G.aw hw
    ·refine same rfl rfl rfl rfl G.n12 hcs g.nd2 (fun p hp=>?_) (by simp;exact g.w)
     rcases QC.mp hp with h|h
     ·exact G.aw p h
     ·rw[QR]at h;subst h
      obtain⟨x,hx,e⟩:=P9.mp a1
      obtain⟨y,hy,e'⟩:=P9.mp a2
      exact⟨by rw[<-e];exact G.ap x hx,by rw[<-e'];exact G.ac y hy⟩
   ·cases hd
  ·cases hd
 |unwant v m=>
  exact same rfl rfl rfl rfl G.n12 hcs g.nd2 (fun p hp=>G.aw p (QL.mp hp).1) (P6 (Rz _ _) hw)
theorem Fj{g:Int}:∀{l:List Int},g*(l.map (· / g)).sum+(l.map (· % g)).sum=l.sum
 |[]=>by simp
 |x::l=>by
  have:=Fj (g:=g) (l:=l)
  have:=VT x g
  simp only[Qu,Ra,TK]at *
  omega
theorem xy(g:Int):∀l:List Int,(l.map (· * g)).sum=l.sum*g
 |[]=>by simp
 |x::l=>by rw[Qu,Ra,Ra,xy g l,UT]
theorem zh{rows:List (List Int)}:∀{run:List (Nat×Int)}{ps:List Int},(aT rows ps run).map (·.1)=run.map (·.1)
 |[],_=>rfl
 |(k,L)::r,ps=>by rw[aT,Qu,Qu,zh]
theorem cE.closed{n:Nat}{s:aG}(g:cE n s)(hn:n<=900){run:List (Nat×Int)}(rx:gZ (bO (cc s) (aZ s)) (PF (aH s)) [] run):cE n (dQ s run):=by
 have GC:=g.d.g.closed rx
 have G:=g.d.g
 have g0:0<(fc s:Int):=by exact_mod_cast fX s.ps.length (s.cs.length+1)
 have hnm:=kH (s:=s) (run:=run)
 have hd:=Jd rx
 have hsum:=sf (by simp[aH,aZ]) rx
 rw[<-gU]at hsum
 have hco:=g.co
 have e1:(aH s).sum=fP s.ps*(fc s:Int):=by
  unfold aH fP
  rw[<-xy,Qn];rfl
 have e2:(run.map fun x=>(bO (cc s) (aZ s)).c x.1).sum=(((aT (aZ s) (aH s) run).map (bK s)).map (·.2.1)).sum*(fc s:Int):=by
  rw[<-xy,Qn,Qn]
  have e3:(run.map fun x=>(bO (cc s) (aZ s)).c x.1)=(run.map (·.1)).map (bO (cc s) (aZ s)).c:=by rw[Qn];rfl
  rw[e3,<-zh (rows:=aZ s) (ps:=aH s),Qn]
  exact congrArg List.sum (Ss fun x hx=>Kq ((iM rx).2 x hx).1)
 have e4:=Fj (g:=(fc s:Int)) (l:=bL (aH s) (aT (aZ s) (aH s) run))
 obtain⟨k,hk⟩:=hd
 have e5:fP (dQ s run).ps=((bL (aH s) (aT (aZ s) (aH s) run)).map (· / (fc s:Int))).sum:=by
  show fP ((s.ps.map (·.1)).zip _)=_
  unfold fP
  rw[List.map_snd_zip (by rw[P7,P7,pC];simp[aH])]
 have e6:(dQ s run).pot=s.pot+k:=by
  show s.pot+_/(fc s:Int)=_
  rw[hk,Int.mul_ediv_cancel_left _ (by omega)]
 have e7:(dQ s run).spt=s.spt+(((aT (aZ s) (aH s) run).map (bK s)).map (·.2.1)).sum:=rfl
 have k0:0<=k:=by
  have h1:0<=(fc s:Int)*k:=by
   rw[<-hk]
   exact qh fun x hx=>by
    obtain⟨y,_,rfl⟩:=P9.mp hx
    exact Su _ (by omega)
  exact Int.nonneg_of_mul_nonneg_right h1 g0
 have c0:0<=(((aT (aZ s) (aH s) run).map (bK s)).map (·.2.1)).sum:=qh fun x hx=>by
  obtain⟨y,hy,rfl⟩:=P9.mp hx
  obtain⟨z,hz,rfl⟩:=P9.mp hy
  have:=(G.cb _ (getD_mem (xs:=s.cs) ("",0) ((iM rx).2 z hz).1)).1
  show 0<=(s.cs.getD z.1 ("",0)).2
  omega
 generalize (((aT (aZ s) (aH s) run).map (bK s)).map (·.2.1)).sum=C at *
 generalize (bL (aH s) (aT (aZ s) (aH s) run)).sum=Z at *
 generalize ((bL (aH s) (aT (aZ s) (aH s) run)).map (· / (fc s:Int))).sum=D at *
 generalize ((bL (aH s) (aT (aZ s) (aH s) run)).map (· % (fc s:Int))).sum=M at *
 have key:D+k+C=fP s.ps:=by
  have:(fc s:Int)*(D+k+C)=(fc s:Int)*fP s.ps:=by
   rw[TK,TK,S8 _ C,S8 _ (fP s.ps),<-e2,<-e1]
   omega
  exact Int.eq_of_mul_eq_mul_left (by omega) this
 refine cE.of hn GC.v20 GC.n12 (fun p hp=>?_) (fun p hp=>g.d.nc p (QL.mp hp).1) GC.aw GC.cb (fun p hp=>(GC.p0 p hp).1) (by rw[hnm];exact g.nd) (rP g.nd2) (P6 (Rz _ _) g.w) g.gn (by have:=g.d.pot.1;omega) (by have:=g.d.spt.1;omega) ?_
 ·have:p.1∈s.ps.map (·.1):=by rw[<-hnm];exact P9.mpr ⟨p,hp,rfl⟩
  obtain⟨r,hr,e⟩:=P9.mp this
  rw[<-e];exact g.d.nv r hr
 ·rw[e5,e6,e7]
  show s.spt+C+(s.pot+k)+D=s.giv
  omega
theorem cE.close{n:Nat}{s:aG}(g:cE n s)(hn:n<=900):cE n (lH s):=by
 unfold lH
 split
 ·exact g
 ·by_cases h:∃run,gZ (bO (cc s) (aZ s)) (PF (aH s)) [] run
  ·obtain⟨run,rx⟩:=h
   rw[vh rx]
   exact g.closed hn rx
  ·rw[show runOf s=[]from dif_neg h,C8]
   exact g
theorem K0{D:cq}{s:aG}{cl:PH}(h:D.due s=some cl):cl="NoName"\/cl="Twice"\/cl="NoVoter"\/cl="NoWork"\/cl="TooMuch"\/cl="Full":=by
 cases D<;>simp only[cq.due]at h<;>(repeat' split at h)<;>cases h<;>simp
inductive LZ where
 |txt (t:PH)
 |kin (cl:PH)
noncomputable def jH(s:aG):Act->LZ
 |.deed D=>match D.due s with
  |none=>.txt "ok"
  |some cl=>.kin cl
 |.close=>.txt (sg s)
 |.tell t=>.txt t
 |.no cl=>.kin cl
noncomputable def md(s:aG):Act->aG
 |.deed D=>match D.due s with
  |none=>D.app s
  |some _=>s
 |.close=>lH s
 |.tell _=>s
 |.no _=>s
noncomputable def gy(kf:PH->List Bool)(H H':Hp)(v:V):LZ->Prop
 |.txt t=>v=.str t
 |.kin cl=>∃l,v=.ref l/\H l=none/\H' l=some (.lst ((kf cl).map V.bl))
theorem HC{K:PM}{A:Hp->List PK->aG->Prop}{H:Hp}{fp:List PK}{s:aG}{Q:VK}{E:XK}{act:Act}(hA:∀H',av H H'->A H' fp s)(hn:∀H' fp' t,A H' fp' (md s act)->bZ fp H H'->ji fp fp' H->jH s act=.txt t->Q (.str t) H')(hx:∀cl,jH s act=.kin cl->cz K H E cl):xu K A H fp s Q E act:=by
 cases act with
 |deed D=>
  refine⟨fun hd H' fp' a b w=>hn H' fp' "ok" (by simp only[md,hd];exact a) b w (by simp only[jH,hd]),fun cl hd=>hx cl (by simp only[jH,hd])⟩
 |close=>exact fun H' fp' a b w=>hn H' fp' _ a b w rfl
 |tell t=>exact fun H' s'=>hn H' fp _ (hA H' s') (bZ.of s') ji.refl rfl
 |no cl=>exact hx cl rfl
theorem cF.but{K:PM}{H H':Hp}{d:PK}{fp l:List PK}{s:aG}(x:cF K H d fp s)(b:bZ l H H')(n:∀a∈fp,a∉l):cF K H' d fp s:=by
 obtain⟨dx,c,fpc,hd,ch,nd,rfl⟩:=x
 exact⟨dx,c,fpc,b.1 _ _ (n d (QH ..)) hd,ch.but b fun a ha=>n a (Qs _ ha),nd,rfl⟩
theorem cF.same{K:PM}{H H':Hp}{d:PK}{fp:List PK}{s:aG}(x:cF K H d fp s)(b:av H H'):cF K H' d fp s:=x.but (bZ.of (l:=[]) b) (by simp)
theorem cF.there{K:PM}{H:Hp}{d:PK}{fp:List PK}{s:aG}(x:cF K H d fp s):∀a∈fp,H a≠none:=by
 obtain⟨dx,c,fpc,hd,ch,nd,rfl⟩:=x
 intro a ha
 rcases Qb.mp ha with rfl|ha
 ·rw[hd];exact fun z=>nomatch z
 ·exact ch.there a ha
theorem LG{s:aG}{row cl:PH}(h:jH s (dg s row)=.kin cl):cl="NoName"\/cl="Twice"\/cl="NoVoter"\/cl="NoWork"\/cl="TooMuch"\/cl="Full"\/cl="NoRow":=by
 have hact:∀cl,dg s row=.no cl->cl="NoVoter"\/cl="NoRow":=fun cl h=>by
  unfold dg at h
  split at h
  ·cases h;exact .inr rfl
  ·unfold D7 at h
   split at h
   ·unfold Bt at h
    (repeat' split at h)<;>cases h
    exact .inr rfl
   ·unfold act2 at h
    (repeat' split at h)<;>cases h<;>first|exact .inl rfl|exact .inr rfl
   ·unfold xK at h
    (repeat' split at h)<;>cases h<;>exact .inr rfl
   ·cases h;exact .inr rfl
 cases e:dg s row with
 |deed D=>
  rw[e]at h
  simp only[jH]at h
  split at h
  ·cases h
  ·rename_i c hd
   cases h
   rcases K0 hd with h|h|h|h|h|h<;>simp[h]
 |close=>rw[e]at h;cases h
 |tell t=>rw[e]at h;cases h
 |no c=>
  rw[e]at h
  cases h
  rcases hact cl e with h|h<;>simp[h]
theorem cE.next{n:Nat}{s:aG}(g:cE n s)(hn:n+1<=900)(a:Act):cE (n+1) (md s a):=by
 cases a with
 |deed D=>
  simp only[md]
  split
  ·rename_i hd;exact g.app hn hd
  ·exact g.up (RC _)
 |close=>exact(g.close (by omega)).up (RC _)
 |tell t=>exact g.up (RC _)
 |no cl=>exact g.up (RC _)
theorem LM:∀{p q A B:List Nat},p++32::A=q++32::B->32∉p->32∉q->p=q/\A=B
 |[],[],A,B,h,_,_=>⟨rfl,(SQ h).2⟩
 |[],c::q,A,B,h,_,hq=>absurd (Qb.mpr (.inl (SQ h).1)) hq
 |c::p,[],A,B,h,hp,_=>absurd (Qb.mpr (.inl (SQ h).1.symm)) hp
 |c::p,e::q,A,B,h,hp,hq=>by
  obtain⟨h1,h2⟩:=SQ h
  obtain⟨h3,h4⟩:=LM h2 (fun z=>hp (Qs _ z)) fun z=>hq (Qs _ z)
  exact⟨by rw[h1,h3],h4⟩
theorem zN:∀{ps qs:List (List Nat)},ps≠[]->qs≠[]->(∀p∈ps,32∉p)->(∀p∈qs,32∉p)->dS ps=dS qs->ps=qs
 |[],_,h,_,_,_,_=>absurd rfl h
 |_::_,[],_,h,_,_,_=>absurd rfl h
 |[p],[q],_,_,_,_,h=>by rw[show p=q from h]
 |[p],q::q2::r,_,_,hp,_,h=>absurd (show 32∈p by rw[show p=q++32::dS (q2::r)from h];simp) (hp p (by simp))
 |p::p2::r,[q],_,_,_,hq,h=>absurd (show 32∈q by rw[<-show p++32::dS (p2::r)=q from h];simp) (hq q (by simp))
 |p::p2::r,q::q2::r2,_,_,hp,hq,h=>by
  obtain⟨h1,h2⟩:=LM (show p++32::dS (p2::r)=q++32::dS (q2::r2)from h) (hp p (by simp)) (hq q (by simp))
  rw[h1,zN (by simp) (by simp) (fun x hx=>hp x (Qs _ hx)) (fun x hx=>hq x (Qs _ hx)) h2]
noncomputable def Wd(z:PH):Prop:=z.length<=40/\∀c∈z.cps.toList,c<128/\c≠32
theorem Wd.asc{z:PH}(h:Wd z):aV z:=dm.mpr fun c hc=>(h.2 c hc).1
theorem Cw{ws:List PH}(h:ws≠[])(f:∀w∈ws,Wd w):QJ (QP " " ws) " "=ws:=by
 rw[zq]
 have e:dS ((QJ (QP ⟨#[32]⟩ ws) ⟨#[32]⟩).map (·.cps.toList))=dS (ws.map (·.cps.toList)):=by rw[<-i3,TC,i3]
 have:=zN (fun e=>De _ _ (VE.mp e)) (fun e=>h (VE.mp e)) (fun p hp=>by
  obtain⟨x,hx,rfl⟩:=P9.mp hp
  exact Xz _ 32 x hx) (fun p hp=>by
  obtain⟨x,hx,rfl⟩:=P9.mp hp
  exact fun z=>((f x hx).2 32 z).2 rfl) e
 exact(Wn fun x y hxy=>jd.mpr hxy).mp this
theorem kl{s:aG}{ws:List PH}(h:ws≠[])(f:∀w∈ws,Wd w):dg s (QP " " ws)=if("":PH)∈ws then .no "NoRow" else D7 s ws:=by
 unfold dg
 rw[Cw h f]
theorem rj{ws:List PH}(hl:ws.length<=20)(f:∀w∈ws,Wd w):Tx (QP " " ws):=by
 exists fY (dm.mpr (by rw[zq];simp)) fun x hx=>(f x hx).asc
 have:=j2 (sep:=" ") (m:=40) (xs:=ws) fun x hx=>(f x hx).1
 rw[dU.2.2.1]at this
 have:ws.length*(40+1)<=20*41:=SG _ hl
 omega
noncomputable def W1:List PH:=["close","works","pot","given","spent"]
noncomputable def W2:List PH:=["purse","enrol","leave","give","withdraw"]
noncomputable def W3:List PH:=["propose","want","unwant"]
theorem Fg{s:aG}{w:PH}(h:w∉W1):Bt s w=.no "NoRow":=by
 simp only[W1,Qb,Rb,or_false,not_or]at h
 obtain⟨h1,h2,h3,h4,h5⟩:=h
 rw[Bt,if_neg h1,if_neg h2,if_neg h3,if_neg h4,if_neg h5]
theorem AI{s:aG}{w a:PH}(h:w∉W2):act2 s w a=.no "NoRow":=by
 simp only[W2,Qb,Rb,or_false,not_or]at h
 obtain⟨h1,h2,h3,h4,h5⟩:=h
 rw[act2,if_neg h1,if_neg h2,if_neg h3,if_neg h4,if_neg h5]
theorem E6{s:aG}{w a b:PH}(h:w∉W3):xK s w a b=.no "NoRow":=by
 simp only[W3,Qb,Rb,or_false,not_or]at h
 obtain⟨h1,h2,h3⟩:=h
 rw[xK,if_neg h1,if_neg h2,if_neg h3]
noncomputable def gk(ws:List PH):Prop:=∀s,dg s (QP " " ws)=.no "NoRow"
theorem Cp{ws:List PH}(f:∀w∈ws,Wd w)(h:("":PH)∈ws):gk ws:=fun s=>by rw[kl (List.ne_nil_of_mem h) f,if_pos h]
theorem Ga:gk []:=fun s=>by
 unfold dg
 rw[if_pos]
 rw[G6]
 decide +kernel
theorem jZ{ws:List PH}(h:ws≠[])(f:∀w∈ws,Wd w)(g:∀s,D7 s ws=.no "NoRow"):gk ws:=fun s=>by rw[kl h f,g s];split<;>rfl
theorem vo{w:PH}{r:List PH}(f:∀x∈w::r,Wd x)(h1:w∉W1)(h2:w∉W2)(h3:w∉W3):gk (w::r):=jZ (by simp) f fun s=>by
 match r with
 |[]=>exact Fg h1
 |[a]=>exact AI h2
 |[a,b]=>exact E6 (s:=s) h3
 |a::b::c::r=>rfl
noncomputable def WA:List PH:=(["enrol","leave","give","propose","withdraw","want","unwant"]:List PH)++(["close","purse","pot","given","spent","works"]:List PH)
theorem J5{w:PH}(h:w∉WA):w∉W1/\w∉W2/\w∉W3:=by
 simp only[WA,W1,W2,W3,QC,Qb,Rb,or_false,not_or]at h ⊢
 simp[h]
noncomputable def Px(n o:PH):List (List PH):=["enrol",n]::["leave",n]::["give","5"]::["propose",n,"7"]::["withdraw",n]::["close"]::[["want",n,o],["unwant",n,o],["purse",n],["pot"],["works"],["spent"]]
noncomputable def CI(n o:PH):List (List PH):=Px n o++([["given"]]:List (List PH))
theorem nJ{n o:PH}{g:List PH}(h:g∈CI n o):g=(["enrol",n]:List PH)\/g=(["leave",n]:List PH)\/g=(["give","5"]:List PH)\/g=(["propose",n,"7"]:List PH)\/g=(["withdraw",n]:List PH)\/g=(["close"]:List PH)\/g=(["want",n,o]:List PH)\/g=(["unwant",n,o]:List PH)\/g=(["purse",n]:List PH)\/g=(["pot"]:List PH)\/g=(["works"]:List PH)\/g=(["spent"]:List PH)\/g=(["given"]:List PH):=by
 simpa[CI,Px]using h
theorem hZ:(∀w∈WA,Wd w)/\Wd "5"/\Wd "7"/\Wd "rows"/\Wd ""/\Wd "\t"/\Wd "\n":=by
 unfold Wd
 decide +kernel
theorem n9{n o:PH}{g:List PH}(h:g∈CI n o):∃w r,g=w::r/\w∈WA/\(∀x∈r,x=n\/x=o\/x="5"\/x="7")/\r.length<=2:=by
 rcases nJ h with rfl|rfl|rfl|rfl|rfl|rfl|rfl|rfl|rfl|rfl|rfl|rfl|rfl<;>exact⟨_,_,rfl,by decide +kernel,by simp,by simp⟩
theorem BI{n o:PH}(hn:Wd n)(ho:Wd o){g:List PH}(h:g∈CI n o):∀x∈g,Wd x:=fun x hx=>by
 obtain⟨w,r,rfl,hw,hr,_⟩:=n9 h
 obtain⟨a,b,c,_⟩:=hZ
 rcases Qb.mp hx with rfl|hx
 ·exact a _ hw
 ·rcases hr x hx with rfl|rfl|rfl|rfl
  ·exact hn
  ·exact ho
  ·exact b
  ·exact c
theorem Jf{n o e:PH}(hn:Wd n)(ho:Wd o)(he:Wd e){g:List PH}(h:g∈CI n o):gk (g++[e]):=by
 have f:∀x∈g++[e],Wd x:=fun x hx=>by
  rcases QC.mp hx with hx|hx
  ·exact BI hn ho h x hx
  ·rw[QR.mp hx];exact he
 refine jZ (by simp) f fun s=>?_
 rcases nJ h with rfl|rfl|rfl|rfl|rfl|rfl|rfl|rfl|rfl|rfl|rfl|rfl|rfl<;>first|exact AI (by decide +kernel)|exact E6 (by decide +kernel)|rfl
theorem HG{n o:PH}(hn:Wd n)(ho:Wd o){g:List PH}(h:g∈CI n o){j:Nat}(hj:j<g.length):gk (g.take j):=by
 have f:∀x∈g.take j,Wd x:=fun x hx=>BI hn ho h x (SD hx)
 match j,hj,f with
 |0,_,_=>rw[List.take_zero];exact Ga
 |1,hj,f=>
  rcases nJ h with rfl|rfl|rfl|rfl|rfl|rfl|rfl|rfl|rfl|rfl|rfl|rfl|rfl<;>first|exact jZ (by simp) f fun s=>Fg (by decide +kernel)|exact absurd hj (by simp)
 |2,hj,f=>
  rcases nJ h with rfl|rfl|rfl|rfl|rfl|rfl|rfl|rfl|rfl|rfl|rfl|rfl|rfl<;>first|exact jZ (by simp) f fun s=>AI (by decide +kernel)|exact absurd hj (by simp)
 |j+3,hj,_=>
  obtain⟨w,r,rfl,_,_,hr⟩:=n9 h
  simp at hj;omega
theorem E9{n z:PH}(hn:Wd n)(hz:Wd z)(hb:i6 z=false):gk ["give",z]/\gk ["propose",n,z]:=by
 have a:=hZ.1
 refine⟨jZ (by simp) (fun x hx=>?_) fun s=>?_,jZ (by simp) (fun x hx=>?_) fun s=>?_⟩
 ·simp at hx
  rcases hx with rfl|rfl
  ·exact a _ (by decide +kernel)
  ·exact hz
 ·show act2 s "give" z=_
  rw[act2,if_neg (by decide +kernel),if_neg (by decide +kernel),if_neg (by decide +kernel),if_pos rfl,hb];rfl
 ·simp at hx
  rcases hx with rfl|rfl|rfl
  ·exact a _ (by decide +kernel)
  ·exact hn
  ·exact hz
 ·show xK s "propose" n z=_
  rw[xK,if_pos rfl,hb];rfl
theorem iE{a b:PH}(ha:Wd a)(hb:Wd b)(h:a.length+b.length<=40):Wd (a++b):=by
 refine⟨by rw[Qx];exact h,fun c hc=>?_⟩
 rw[cT]at hc
 rcases QC.mp hc with hc|hc
 ·exact ha.2 c hc
 ·exact hb.2 c hc
theorem Oe:∀w∈WA,∀c∈w.cps.toList,c≠9/\c≠10:=by decide +kernel
theorem Kz{w:PH}{c:Nat}(h:c∈w.cps.toList)(hc:c=9\/c=10):w∉WA:=fun z=>by
 have:=Oe w z c h
 omega
theorem Ap:∀w∈WA,3<=w.length/\w.length<=8:=by decide +kernel
noncomputable def uS(x:Int):PH:=if x%2=0 then "\t" else "\n"
theorem Ki(x:Int):∃c,(uS x).cps.toList=[c]/\(c=9\/c=10):=by
 unfold uS
 split
 ·exact⟨9,by decide +kernel,.inl rfl⟩
 ·exact⟨10,by decide +kernel,.inr rfl⟩
theorem nZ(x:Int):Wd (uS x)/\(uS x).length=1:=by
 obtain⟨_,_,_,_,_,h1,h2⟩:=hZ
 unfold uS
 split
 ·exact⟨h1,by decide +kernel⟩
 ·exact⟨h2,by decide +kernel⟩
theorem Cd{w:PH}{r:List PH}{x:Int}(hw:w∈WA)(f:∀y∈r,Wd y):gk ((w++uS x)::r)/\gk ((uS x++w)::r):=by
 obtain⟨c,hc,hc2⟩:=Ki x
 obtain⟨h1,h2⟩:=nZ x
 have h3:=hZ.1 w hw
 have h4:=(Ap w hw).2
 have g:∀z,c∈z.cps.toList->Wd z->gk (z::r):=fun z hz wz=>by
  obtain⟨a,b,d⟩:=J5 (Kz hz hc2)
  exact vo (fun y hy=>by
   rcases Qb.mp hy with rfl|hy
   ·exact wz
   ·exact f y hy) a b d
 exact⟨g _ (by rw[cT,hc];simp) (iE h3 h1 (by omega)),g _ (by rw[cT,hc];simp) (iE h1 h3 (by omega))⟩
theorem mr{zs:List PH}{x:Int}{n:Nat}(hn:zs.length=n)(h0:0<n):∃z∈zs,xW (zs.map V.str) (x%(n:Int))=some (.str z):=by
 have h1:0<=x%(n:Int):=Su _ (by omega)
 have h2:x%(n:Int)<n:=Tu _ (by omega)
 have h3:(x%(n:Int)).toNat<zs.length:=by omega
 exists zs[(x%(n:Int)).toNat],RA h3
 have:=bM (xs:=zs.map V.str) (j:=(x%(n:Int)).toNat) (v:=.str zs[(x%(n:Int)).toNat]) (by simp[h3])
 rwa [VB h1]at this
theorem Nt:∀c:Fin 123,97<=c.val->Se c.val=[c.val-32]:=by decide +kernel
theorem OK{c:Nat}(h:isLet c=true):Se c=[c-32]:=by
 unfold isLet at h
 simp only[QW,decide_eq_true_eq]at h
 exact Nt ⟨c,by omega⟩ h.1
theorem FN{z:PH}(h:∀c∈z.cps.toList,isLet c=true):(Fi z).cps.toList=z.cps.toList.map (· - 32):=by
 show((Array.mapIdx (fun _ c=>(Se c).toArray) z.cps).flatten).toList=_
 rw[Array.toList_flatten,Array.toList_mapIdx]
 generalize z.cps.toList=l at h
 have:∀(l:List Nat),(∀c∈l,isLet c=true)->(RE XE (l.map fun c=>(Se c).toArray)).flatten=l.map (· - 32):=fun l=>by
  induction l with
  |nil=>intro _;rfl
  |cons c r ih=>
   intro h
   rw[Qu,Qu,TB,ih fun x hx=>h x (Qs _ hx),OK (h c (QH ..))]
   rfl
 rw[<-this l h]
 have e:List.mapIdx (fun _ c=>(Se c).toArray) l=l.map fun c=>(Se c).toArray:=by
  apply S2<;>simp
 rw[e]
theorem Ai{z:PH}(h:∀c∈z.cps.toList,isLet c=true):(Fi z).length=z.length:=by rw[<-aP,<-aP,FN h,P7]
theorem L8{z:PH}(h:∀c∈z.cps.toList,isLet c=true):∀c∈(Fi z).cps.toList,65<=c/\c<91:=fun c hc=>by
 rw[FN h]at hc
 obtain⟨d,hd,rfl⟩:=P9.mp hc
 have:=h d hd
 unfold isLet at this
 simp only[QW,decide_eq_true_eq]at this
 show 65<=d-32/\d-32<91
 omega
theorem E1{z:PH}{H:Hp}{Q:VK}(h:∀c∈z.cps.toList,isLet c=true)(hl:z.length<=1000)(q:Q (.str (Fi z)) H):Ax (.str z) [] H Q:=by
 have e:=Ai h
 refine⟨z,rfl,rfl,?_,by rw[e,size_eq];omega,q⟩
 have e2:(PySem.placed z fun _ c=>Se c).size=z.length:=e
 rw[e2]
 exact decide_eq_false (by rw[size_eq];omega)
theorem Jr:∀w∈WA,∀c∈w.cps.toList,isLet c=true:=by decide +kernel
noncomputable def L7:List PH:=["01","00","1a","-1","+1","1_0",("1":PH)++Vn "0" 13,"a","1.","0x1","1\t","1\n","-0","O","l"]
theorem zK:∀z∈L7,i6 z=false/\Wd z:=by
 unfold Wd
 decide +kernel
theorem Ji{H:Hp}{Q:VK}{y:Int}(q:Q (.str (uS y)) H):uP (.str "\t\n") (.int (y%2)) H Q:=by
 have e:("\t\n":PH).cps.toList=[9,10]:=by decide +kernel
 have h1:("\t":PH)=⟨#[9]⟩:=by decide +kernel
 have h2:("\n":PH)=⟨#[10]⟩:=by decide +kernel
 refine⟨"\t\n",_,if y%2=0 then 9 else 10,rfl,rfl,by rw[size_eq];decide +kernel,?_,?_⟩
 ·rw[e]
  by_cases h:y%2=0
  ·rw[h];rfl
  ·rw[show y%2=1 by omega];rfl
 ·unfold uS at q
  split at q
  ·rename_i h;rw[if_pos h,<-h1];exact q
  ·rename_i h;rw[if_neg h,<-h2];exact q
theorem vv{α β:Type}{F:α->β->Prop}:∀{xs:List α}{ys:List β}{i:Nat}{x:α},Qd F xs ys->xs[i]?=some x->∃y,ys[i]?=some y/\F x y
 |_,_,_,_,.nil,e=>by simp at e
 |_,_,0,_,.cons r _,e=>by simp at e;subst e;exact⟨_,rfl,r⟩
 |_,_,i+1,_,.cons _ t,e=>by
  obtain⟨y,h1,h2⟩:=vv (i:=i) t (by simpa using e)
  exact⟨y,by simpa using h1,h2⟩
theorem CO{H:Hp}{P:PK->Prop}:∀{gs:List (List PH)}{as:List PK}{n:Nat}(x:Int),Qd (fun g a=>P a/\H a=some (.lst (g.map V.str))) gs as->gs.length=n->0<n->∃a g,g∈gs/\P a/\H a=some (.lst (g.map V.str))/\xW (as.map V.ref) (x%(n:Int))=some (.ref a):=fun {gs as n} x hp hn h0=>by
 have h1:0<=x%(n:Int):=Su _ (by omega)
 have h2:x%(n:Int)<n:=Tu _ (by omega)
 have h3:(x%(n:Int)).toNat<gs.length:=by omega
 obtain⟨a,ha,pa⟩:=vv hp (Qj h3)
 exists a,gs[(x%(n:Int)).toNat],RA h3,pa.1,pa.2
 have:=bM (xs:=as.map V.ref) (j:=(x%(n:Int)).toNat) (v:=.ref a) (by simp[ha])
 rwa [VB h1]at this
theorem LO{w A B C U:PH}{a c:Nat}(hw:w∈WA)(ha:a<w.length)(hA:A.cps.toList=w.cps.toList.take a)(hB:B.cps.toList=w.cps.toList.drop (a+1))(hC:C.cps.toList=w.cps.toList.drop a)(hU:U=⟨#[c]⟩\/U=Fi ⟨#[c]⟩)(hc:isLet c=true):Wd (A++B)/\(∀D,D=B\/D=C->Wd (A++U++D)):=by
 have wl:=(Ap w hw).2
 have wL:=Jr w hw
 have lt:∀d,isLet d=true->d<128/\d≠32:=fun d h=>by unfold isLet at h;simp only[QW,decide_eq_true_eq]at h;omega
 have lA:A.length<=8:=by rw[<-aP,hA,QY,aP];omega
 have lB:B.length<=8:=by rw[<-aP,hB,Rq,aP];omega
 have lC:C.length<=8:=by rw[<-aP,hC,Rq,aP];omega
 have mA:∀d∈A.cps.toList,d<128/\d≠32:=fun d hd=>lt d (wL d (by rw[hA]at hd;exact SD hd))
 have mB:∀d∈B.cps.toList,d<128/\d≠32:=fun d hd=>lt d (wL d (by rw[hB]at hd;exact Ul hd))
 have mC:∀d∈C.cps.toList,d<128/\d≠32:=fun d hd=>lt d (wL d (by rw[hC]at hd;exact Ul hd))
 have h1:∀d∈(⟨#[c]⟩:PH).cps.toList,isLet d=true:=fun d hd=>by
  have:d=c:=by simpa using hd
  rw[this];exact hc
 have hu:U.length=1/\∀d∈U.cps.toList,d<128/\d≠32:=by
  rcases hU with rfl|rfl
  ·exact⟨rfl,fun d hd=>lt d (h1 d hd)⟩
  ·exact⟨Ai h1,fun d hd=>by have:=L8 h1 d hd;omega⟩
 have w1:Wd (A++U):=iE ⟨by omega,mA⟩ ⟨by omega,hu.2⟩ (by omega)
 have l1:(A++U).length<=9:=by rw[Qx];omega
 refine⟨iE ⟨by omega,mA⟩ ⟨by omega,mB⟩ (by omega),fun D hD=>?_⟩
 rcases hD with rfl|rfl
 ·exact iE w1 ⟨by omega,mB⟩ (by omega)
 ·exact iE w1 ⟨by omega,mC⟩ (by omega)
noncomputable def Pt:List PH:=["voters","withdrawn","help","join","fund","ask"]
theorem MK:∀z∈Pt,Wd z:=by
 unfold Wd
 decide +kernel
noncomputable def iV(ns:List PH)(r:PH):Prop:=Tx r/\∀s z,dg s r=.deed (.enrol z)->z∈ns
theorem Er{s:aG}{ws:List PH}{z:PH}(h:D7 s ws=.deed (.enrol z)):ws=(["enrol",z]:List PH):=by
 unfold D7 at h
 split at h
 ·unfold Bt at h
  (repeat' split at h)<;>cases h
 ·rename_i w a
  unfold act2 at h
  (repeat' split at h)<;>cases h
  rename_i e
  rw[e]
 ·unfold xK at h
  (repeat' split at h)<;>cases h
 ·cases h
theorem BK{ns ws:List PH}(h:ws≠[])(f:∀w∈ws,Wd w)(hl:ws.length<=20)(he:∀z,ws=(["enrol",z]:List PH)->z∈ns):iV ns (QP " " ws):=⟨rj hl f,fun s z hz=>by
 rw[kl h f]at hz
 split at hz
 ·cases hz
 ·exact he z (Er hz)⟩
theorem zx{s:aG}{ns:List PH}{r:PH}(hr:iV ns r)(h:∀p∈s.ps,p.1∈ns):∀p∈(md s (dg s r)).ps,p.1∈ns:=by
 have cl:∀p∈(lH s).ps,p.1∈ns:=fun p hp=>by
  unfold lH at hp
  split at hp
  ·exact h p hp
  ·have:p.1∈(dQ s (runOf s)).ps.map (·.1):=P9.mpr ⟨p,hp,rfl⟩
   rw[kH]at this
   obtain⟨q,hq,e⟩:=P9.mp this
   rw[<-e];exact h q hq
 cases e:dg s r with
 |deed D=>
  simp only[md]
  split
  ·cases D with
   |enrol z=>
    intro p hp
    rcases QC.mp hp with hp|hp
    ·exact h p hp
    ·rw[QR.mp hp];exact hr.2 s z e
   |propose z x=>exact h
   |give x=>
    intro p hp
    simp only[cq.app,qU]at hp
    split at hp
    ·exact h p hp
    ·obtain⟨q,hq,rfl⟩:=P9.mp hp
     exact h q hq
   |leave z=>exact fun p hp=>h p (QL.mp hp).1
   |withdraw z=>exact h
   |want v n=>
    simp only[cq.app]
    split<;>exact h
   |unwant v n=>exact h
  ·exact h
 |close=>exact cl
 |tell t=>exact h
 |no c=>exact h
theorem Ie{n:Int}{k:Nat}(h0:0<=n)(hk:0<k)(h:n<10 ^ k)(k40:k<=40):Wd (iT n):=by
 refine⟨P6 (Be h0 hk h) k40,fun c hc=>?_⟩
 obtain⟨m,rfl⟩:=Tb h0
 rw[qC]at hc
 obtain⟨d,hd,rfl⟩:=P9.mp hc
 have:=XD (b:=10) (n:=m) (by decide) (by decide) hd
 unfold XU at this
 simp only[QW,decide_eq_true_eq]at this
 have h1:48<=d.toNat:=this.1
 have h2:d.toNat<=57:=this.2
 omega
theorem tY{z:PH}(h:dw z=true):Wd z:=by
 refine⟨by have:=(fq h).2;omega,fun c hc=>?_⟩
 unfold dw at h
 simp only[QW]at h
 have:=Rt.mp h.2 c hc
 unfold isLet at this
 simp only[QW,decide_eq_true_eq]at this
 omega
theorem Gd(a b c:PH):a++b++c=a++(b++c):=jd.mpr (by simp only[cT,VZ])
theorem Lj{w w' a:PH}(h:w'=w++" "):w'++a=QP " " [w,a]:=by rw[h];rfl
theorem O3{w w' a b:PH}(h:w'=w++" "):w'++a++" "++b=QP " " [w,a,b]:=by
 rw[h]
 show w++" "++a++" "++b=w++" "++(a++" "++b)
 simp only[Gd]
theorem kc:Wd "enrol"/\Wd "give"/\Wd "propose"/\Wd "want"/\Wd "purse"/\Wd "close":=by
 have:=hZ.1
 exact⟨this _ (by decide +kernel),this _ (by decide +kernel),this _ (by decide +kernel),this _ (by decide +kernel),this _ (by decide +kernel),this _ (by decide +kernel)⟩
theorem F3{ns:List PH}{z:PH}(h:Wd z)(hz:z∈ns):iV ns (("enrol ":PH)++z):=by
 rw[Lj (w:="enrol") (by decide +kernel)]
 exact BK (by simp) (by simp[kc,h]) (by simp) (fun y e=>by
  have e:z=y:=by simpa using e
  rw[<-e];exact hz)
theorem LH{ns:List PH}{w w' z:PH}(e:w'=w++" ")(hw:Wd w)(h:Wd z)(ne:w≠"enrol"):iV ns (w'++z):=by
 rw[Lj e]
 exact BK (by simp) (by simp[hw,h]) (by simp) (fun y e=>absurd (SQ e).1 ne)
theorem zi{ns:List PH}{w w' z y:PH}(e:w'=w++" ")(hw:Wd w)(h:Wd z)(h':Wd y):iV ns (w'++z++" "++y):=by
 rw[O3 e]
 exact BK (by simp) (by simp[hw,h,h']) (by simp) (fun x e=>by simp at e)
theorem GH{ns:List PH}:iV ns "close":=by
 rw[show("close":PH)=QP " " ["close"]from rfl]
 exact BK (by simp) (by simp[kc]) (by simp) (fun x e=>by simp at e)
theorem OJ{i:Int}{H:Hp}{Q:VK}(h0:0<=i)(h:i<=1000000000000)(q:Q (.str (iT i)) H):qG [.int i] H Q:=vk (mT h0 h).log q
theorem gD{n:Int}(h0:0<=n):aV (iT n):=dm.mpr fun c hc=>by
 obtain⟨m,rfl⟩:=Tb h0
 rw[qC]at hc
 obtain⟨d,hd,rfl⟩:=P9.mp hc
 have:=XD (b:=10) (n:=m) (by decide) (by decide) hd
 unfold XU at this
 simp only[QW,decide_eq_true_eq]at this
 have h2:d.toNat<=57:=this.2
 omega
theorem rC:aV Qp/\aV " "/\aV ", "/\aV "; "/\aV ": "/\aV " of "/\aV "+"/\aV "-"/\aV "none"/\aV "ok":=by
 unfold aV
 decide +kernel
theorem Dy{p:PH×Int}(h1:aV p.1)(h2:0<=p.2):aV (vn p):=by
 obtain⟨e0,e1,_⟩:=rC
 exact bq (bq (bq e0 h1) e1) (gD h2)
theorem tN{rs:List jj}{g:Int}(hg:0<=g)(h:∀r∈rs,aV r.1/\0<=r.2.1/\∀p∈r.2.2,aV p.1/\0<=p.2):aV (qi rs g):=by
 obtain⟨e0,e1,e2,e3,e4,e5,e6,e7,e8,_⟩:=rC
 unfold qi
 split
 ·exact e8
 ·refine bq (bq (bq e0 (fY e3 fun x hx=>?_)) e5) (gD hg)
  obtain⟨r,hr,rfl⟩:=P9.mp hx
  obtain⟨z1,z2,z3⟩:=h r hr
  refine bq (bq (bq (bq (bq e0 z1) e1) (gD z2)) e4) (fY e2 fun x hx=>?_)
  obtain⟨p,hp,rfl⟩:=P9.mp hx
  exact Dy (z3 p hp).1 (z3 p hp).2
theorem AK{rs:List (PH×Int×List PH)}(h:∀r∈rs,aV r.1/\0<=r.2.1/\∀x∈r.2.2,aV x):aV (sT rs):=by
 obtain⟨e0,e1,e2,e3,e4,e5,e6,e7,e8,_⟩:=rC
 unfold sT
 split
 ·exact e8
 ·refine fY e2 fun x hx=>?_
  obtain⟨r,hr,rfl⟩:=P9.mp hx
  obtain⟨z1,z2,z3⟩:=h r hr
  refine bq (bq (bq (bq (bq e0 z1) e1) (gD z2)) e1) ?_
  unfold xh
  split
  ·exact e7
  ·exact fY e6 z3
theorem G3{s:aG}(G:lX s){row t:PH}(h:jH s (dg s row)=.txt t):aV t:=by
 obtain⟨_,_,_,_,_,_,_,_,e8,e9⟩:=rC
 have ht:∀t,dg s row=.tell t->aV t:=fun t ht=>by
  unfold dg at ht
  split at ht
  ·cases ht
  ·unfold D7 at ht
   split at ht
   ·unfold Bt at ht
    (repeat' split at ht)<;>cases ht
    ·exact AK fun r hr=>by
      obtain⟨p,hp,rfl⟩:=P9.mp hr
      exact⟨G.g.ac p hp,by have:=(G.g.cb p hp).1;show 0<=p.2;omega,fun x hx=>by
       have hx:x∈(s.ps.map (·.1)).filter _:=hx
       obtain⟨v,hv,rfl⟩:=P9.mp (QL.mp hx).1
       exact G.g.ap v hv⟩
    ·exact gD G.pot.1
    ·exact gD G.giv.1
    ·exact gD G.spt.1
   ·unfold act2 at ht
    (repeat' split at ht)<;>cases ht
    rename_i hm
    exact gD (G.g.p0 _ (pT hm)).1
   ·unfold xK at ht
    (repeat' split at ht)<;>cases ht
   ·cases ht
 cases e:dg s row with
 |deed D=>
  rw[e]at h
  simp only[jH]at h
  split at h<;>cases h
  exact e9
 |close=>
  rw[e]at h
  cases h
  unfold sg
  split
  ·exact e8
  ·by_cases hr:∃run,gZ (bO (cc s) (aZ s)) (PF (aH s)) [] run
   ·obtain⟨run,rx⟩:=hr
    refine tN (Wf _) fun r hr=>?_
    unfold toldOf at hr
    rw[vh rx]at hr
    obtain⟨a1,a2⟩:=DO G.g (fun x hx=>((iM rx).2 x hx).1) r hr
    obtain⟨b1,b2,b3,b4⟩:=Ff G rx r hr
    exact⟨a1,b2.1,fun p hp=>⟨a2 p hp,(b4 p hp).2.1⟩⟩
   ·have e0:toldOf s=[]:=by unfold toldOf;rw[show runOf s=[]from dif_neg hr];rfl
    rw[e0]
    exact tN (Wf _) fun r hr=>nomatch hr
 |tell t'=>
  rw[e]at h
  cases h
  exact ht t e
 |no c=>rw[e]at h;cases h
noncomputable def Dq(kf:PH->List Bool):LZ->Qw
 |.txt t=>.str t
 |.kin cl=>.list ((kf cl).map Uw)
theorem ie{K:PM}{H:Hp}:∀bs:List Bool,DatAll K H (bs.map V.bl) (bs.map Uw)
 |[]=>.nil
 |b::r=>.cons (.bl b) (ie r)
theorem gy.dat{K:PM}{kf:PH->List Bool}{H0 H:Hp}{v:V}:∀{a:LZ},gy kf H0 H v a->eF K H v (Dq kf a)
 |.txt t,h=>by cases h;exact .str t
 |.kin cl,h=>by
  obtain⟨l,rfl,_,e⟩:=h
  exact .lst (aY.of e) (ie _)
noncomputable def Ae(n:Nat)(d:Qw):Prop:=d.canLay0=true/\d.depth<=n
theorem Ae.shaped{n:Nat}{d:Qw}(h:Ae n d)(hn:n<=64):R6 d=true:=by
 unfold R6
 rw[h.1,decide_eq_true (show d.depth<=64 by have:=h.2;omega)]
 rfl
theorem JO{n:Nat}:∀{ds:List Qw},(∀d∈ds,Ae n d)->Sq ds=true/\SM ds<=n
 |[],_=>by simp[Sq,SM]
 |x::xs,h=>by
  obtain⟨h1,h2⟩:=h x QH
  obtain⟨h3,h4⟩:=JO fun y hy=>h y (Qs _ hy)
  rw[Sq,h1,h3,SM]
  exact⟨rfl,by omega⟩
theorem FC{n:Nat}{ds:List Qw}(h:∀d∈ds,Ae n d):Ae (n+1) (.list ds):=by
 obtain⟨h1,h2⟩:=JO h
 exact⟨by rw[RV];exact h1,by rw[SW];omega⟩
theorem wy(bs:List Bool):Ae 1 (.list (bs.map Uw)):=FC fun d hd=>by
 obtain⟨b,_,rfl⟩:=P9.mp hd
 exact⟨by rw[RV],by simp[SW]⟩
theorem B4{kf:PH->List Bool}{s:aG}(G:lX s){row:PH}:Ae 1 (Dq kf (jH s (dg s row))):=by
 cases e:jH s (dg s row)with
 |txt t=>exact⟨by rw[Dq,RV];exact sX (G3 G e),by simp[Dq,SW]⟩
 |kin cl=>exact wy _
theorem gy.but{kf:PH->List Bool}{H0 H H':Hp}{v:V}{fp:List PK}(b:bZ fp H H')(n:∀l,v=.ref l->l∉fp):∀{a:LZ},gy kf H0 H v a->gy kf H0 H' v a
 |.txt _,h=>h
 |.kin _,h=>by
  obtain⟨l,rfl,f,e⟩:=h
  exact⟨l,rfl,f,b.1 _ _ (n l rfl) e⟩
noncomputable def xC(K:PM)(H0 H:Hp)(d1 d2:PK)(s1 s2:aG)(L:List (PK×List V)):Prop:=∃fp1 fp2,cF K H d1 fp1 s1/\cF K H d2 fp2 s2/\(∀a∈fp1,a∉fp2)/\(∀a∈fp1,H0 a=none)/\(∀a∈fp2,H0 a=none)/\av H0 H/\∀p∈L,H p.1=some (.lst p.2)/\p.1∉fp1/\p.1∉fp2
theorem xC.same{K:PM}{H0 H H':Hp}{d1 d2:PK}{s1 s2:aG}{L:List (PK×List V)}(t:xC K H0 H d1 d2 s1 s2 L)(s:av H H'):xC K H0 H' d1 d2 s1 s2 L:=by
 obtain⟨fp1,fp2,a1,a2,dj,z1,z2,s0,hL⟩:=t
 exact⟨fp1,fp2,a1.same s,a2.same s,dj,z1,z2,s0.trans s,fun p hp=>⟨s _ _ (hL p hp).1,(hL p hp).2⟩⟩
theorem xC.add{K:PM}{H0 H H':Hp}{d1 d2:PK}{s1 s2:aG}{L:List (PK×List V)}(t:xC K H0 H d1 d2 s1 s2 L)(s:av H H'){l:PK}{xs:List V}(f:H l=none)(h:H' l=some (.lst xs)):xC K H0 H' d1 d2 s1 s2 ((l,xs)::L):=by
 obtain⟨fp1,fp2,a1,a2,dj,z1,z2,s0,hL⟩:=t
 refine⟨fp1,fp2,a1.same s,a2.same s,dj,z1,z2,s0.trans s,fun p hp=>?_⟩
 rcases Qb.mp hp with rfl|hp
 ·exact⟨h,fun z=>a1.there _ z f,fun z=>a2.there _ z f⟩
 ·exact⟨s _ _ (hL p hp).1,(hL p hp).2⟩
theorem xC.flip{K:PM}{H0 H:Hp}{d1 d2:PK}{s1 s2:aG}{L:List (PK×List V)}(t:xC K H0 H d1 d2 s1 s2 L):xC K H0 H d2 d1 s2 s1 L:=by
 obtain⟨fp1,fp2,a1,a2,dj,z1,z2,s0,hL⟩:=t
 exact⟨fp2,fp1,a2,a1,fun a h2 h1=>dj a h1 h2,z2,z1,s0,fun p hp=>⟨(hL p hp).1,(hL p hp).2.2,(hL p hp).2.1⟩⟩
theorem xC.one{K:PM}{H0 H:Hp}{d1 d2:PK}{s1 s2:aG}{L:List (PK×List V)}(t:xC K H0 H d1 d2 s1 s2 L):∃fp,cF K H d1 fp s1/\(∀p∈L,p.1∉fp)/\(∀l,H l=none->l∉fp)/\∀H' fp' s' E,cF K H' d1 fp' s'->bZ fp H H'->ji fp fp' H->(∀p∈E,H' p.1=some (.lst p.2)/\p.1∉fp'/\H p.1=none)->xC K H0 H' d1 d2 s' s2 (E++L):=by
 obtain⟨fp1,fp2,a1,a2,dj,z1,z2,s0,hL⟩:=t
 refine⟨fp1,a1,fun p hp=>(hL p hp).2.1,fun l hl z=>a1.there _ z hl,fun H' fp' s' E a b w hE=>?_⟩
 have nw:∀x o,H x=some o->x∉fp1->x∉fp':=fun x o hx h1 h2=>by
  rcases w x h2 with h|h
  ·exact h1 h
  ·rw[hx]at h;cases h
 refine⟨fp',fp2,a,a2.but b fun x hx h1=>dj x h1 hx,fun x h1 h2=>?_,fun x h1=>?_,z2,IX s0 b z1,fun p hp=>?_⟩
 ·rcases w x h1 with h|h
  ·exact dj x h h2
  ·exact a2.there x h2 h
 ·rcases w x h1 with h|h
  ·exact z1 x h
  ·exact s0.free h
 ·rcases QC.mp hp with hp|hp
  ·exact⟨(hE p hp).1,(hE p hp).2.1,fun z=>a2.there _ z (hE p hp).2.2⟩
  ·exact⟨b.1 _ _ (hL p hp).2.1 (hL p hp).1,nw _ _ (hL p hp).1 (hL p hp).2.1,(hL p hp).2.2⟩
theorem xC.sub{K:PM}{H0 H:Hp}{d1 d2:PK}{s1 s2:aG}{L L':List (PK×List V)}(t:xC K H0 H d1 d2 s1 s2 L)(h:∀p∈L',p∈L):xC K H0 H d1 d2 s1 s2 L':=by
 obtain⟨fp1,fp2,a1,a2,dj,z1,z2,s0,hL⟩:=t
 exact⟨fp1,fp2,a1,a2,dj,z1,z2,s0,fun p hp=>hL p (h p hp)⟩
theorem xC.at{K:PM}{H0 H:Hp}{d1 d2:PK}{s1 s2:aG}{L:List (PK×List V)}(t:xC K H0 H d1 d2 s1 s2 L):av H0 H/\∀p∈L,H p.1=some (.lst p.2):=by
 obtain⟨fp1,fp2,a1,a2,dj,z1,z2,s0,hL⟩:=t
 exact⟨s0,fun p hp=>(hL p hp).1⟩
theorem xC.said{K:PM}{kf:PH->List Bool}{H0 H:Hp}{d1 d2:PK}{s:aG}{L:List (PK×List V)}(t:xC K H0 H d1 d2 s s L)(G:lX s)(row:PH):∃fp1,cF K H d1 fp1 s/\∀v1 H1 fp1',cF K H1 d1 fp1' (md s (dg s row))->bZ fp1 H H1->ji fp1 fp1' H->gy kf H H1 v1 (jH s (dg s row))->(∀l,v1=.ref l->l∉fp1')->
  ∃fp2,cF K H1 d2 fp2 s/\∀v2 H2 fp2',cF K H2 d2 fp2' (md s (dg s row))->bZ fp2 H1 H2->ji fp2 fp2' H1->gy kf H1 H2 v2 (jH s (dg s row))->
   xC K H0 H2 d1 d2 (md s (dg s row)) (md s (dg s row)) L/\∃d,eF K H2 v1 d/\eF K H2 v2 d/\R6 d=true:=by
 obtain⟨fp1,a1,_,_,k1⟩:=t.one
 refine⟨fp1,a1,fun v1 H1 fp1' b1 c1 w1 e1 m1=>?_⟩
 obtain⟨X,hX,hv⟩:∃X:List (PK×List V),(∀p∈X,H1 p.1=some (.lst p.2)/\p.1∉fp1'/\H p.1=none)/\∀l,v1=.ref l->∃p∈X,p.1=l:=by
  revert e1
  cases jH s (dg s row)with
  |txt t=>exact fun e=>⟨[],(fun _ h=>nomatch h),fun l h=>by rw[e]at h;cases h⟩
  |kin cl=>
   rintro⟨l,rfl,f,e⟩
   exact⟨[(l,_)],(fun p hp=>by rw[QR.mp hp];exact⟨e,m1 l rfl,f⟩),fun l' h=>⟨_,QR.mpr rfl,by cases h;rfl⟩⟩
 obtain⟨fp2,a2,n2,_,k2⟩:=(k1 H1 fp1' _ X b1 c1 w1 hX).flip.one
 refine⟨fp2,a2,fun v2 H2 fp2' b2 c2 w2 e2=>⟨((k2 H2 fp2' _ [] b2 c2 w2 fun _ h=>nomatch h).flip).sub fun p hp=>Rk _ (Rk _ hp),_,gy.dat (e1.but c2 fun l hl=>?_),e2.dat,(B4 G).shaped (by decide)⟩⟩
 obtain⟨p,hp,rfl⟩:=hv l hl
 exact n2 p (S6 _ hp)
noncomputable def rA:aG->List PH->List LZ
 |_,[]=>[]
 |s,r::rs=>jH s (dg s r)::rA (md s (dg s r)) rs
noncomputable def gA:aG->List PH->aG
 |s,[]=>s
 |s,r::rs=>gA (md s (dg s r)) rs
theorem zy:∀(s:aG)(rs:List PH)(r:PH),rA s (rs++[r])=rA s rs++[jH (gA s rs) (dg (gA s rs) r)]/\gA s (rs++[r])=md (gA s rs) (dg (gA s rs) r)
 |s,[],r=>⟨rfl,rfl⟩
 |s,q::rs,r=>by
  obtain⟨h1,h2⟩:=zy (md s (dg s q)) rs r
  exact⟨by rw[Uq,rA,h1];rfl,by rw[Uq,gA,h2];rfl⟩
theorem cE.look:∀{rs:List PH}{s:aG}{n:Nat},cE n s->n+rs.length<=900->cE (n+rs.length) (gA s rs)
 |[],s,n,g,_=>g
 |r::rs,s,n,g,h=>by
  simp only[QU]at h ⊢
  have:=cE.look (rs:=rs) (g.next (by omega) (dg s r)) (by omega)
  rwa [show n+(rs.length+1)=n+1+rs.length by omega]
theorem BE{kf:PH->List Bool}:∀{rs:List PH}{s:aG}{n:Nat},cE n s->n+rs.length<=900->∀a∈rA s rs,Ae 1 (Dq kf a)
 |[],s,n,_,_,a,h=>nomatch h
 |r::rs,s,n,g,hl,a,h=>by
  simp only[QU]at hl
  rw[rA]at h
  rcases Qb.mp h with rfl|h
  ·exact B4 g.d
  ·exact BE (g.next (by omega) (dg s r)) (by omega) a h
theorem ni{K:PM}{kf:PH->List Bool}{H0 H:Hp}:∀{as:List LZ}{vs:List V},Qd (fun a v=>gy kf H0 H v a) as vs->DatAll K H vs (as.map (Dq kf))
 |_,_,.nil=>.nil
 |_,_,.cons h t=>.cons h.dat (ni t)
theorem Bv{H:Hp}{l:PK}{o:HO}(h:H l=some o):upd H l o=H:=funext fun a=>by
 by_cases e:a=l
 ·rw[e,ax,h]
 ·rw[ak e]
theorem Dw{H1 H2:Hp}{l:PK}{o:HO}(s:eh l H1 H2):av (upd H1 l o) (upd H2 l o):=fun a u h=>by
 by_cases e:a=l
 ·subst e;rw[ax]at h ⊢;exact h
 ·rw[ak e]at h ⊢;exact s a u e h
theorem zF{R:List PH}{i:Nat}(h:i<R.length):R.take (i+1)=R.take i++[R.getD i ""]:=by
 rw[List.take_succ,Qj h,QG,Qj h]
 rfl
theorem LN{C:PK}{H H2:Hp}{c dx:PK}{fp:List PK}(f0:H c=none)(g0:H dx=none)(b:bZ [c] (upd (upd H dx (.own c)) c (.ins C dx [])) H2)(w:ji [c] fp (upd (upd H dx (.own c)) c (.ins C dx []))):
  av H H2/\∀a∈fp,H a=none:=by
 refine⟨fun a o h=>?_,fun a ha=>?_⟩
 ·have n1:a≠c:=fun e=>by rw[e,f0]at h;cases h
  have n2:a≠dx:=fun e=>by rw[e,g0]at h;cases h
  exact b.1 a o (by simpa using n1) (by rw[ak n1,ak n2];exact h)
 ·rcases w a ha with e|e
  ·rw[QR.mp e];exact f0
  ·by_cases n1:a=c
   ·rw[n1];exact f0
   ·rw[ak n1]at e
    by_cases n2:a=dx
    ·rw[n2];exact g0
    ·rw[ak n2]at e;exact e
theorem CW{α:Type}(x:α):∀k:Nat,(QT k [x]).flatten=QT k x
 |0=>rfl
 |k+1=>by rw[SJ,TB,SJ,CW x k];rfl
theorem DH{l:PK}{x:V}{k:Nat}{H:Hp}{Q:VK}(h1:H l=some (.lst [x]))(hk:k<=1000)(h:∀p H2,H p=none->av H H2->H2 p=some (.lst (QT k x))->Q (.ref p) H2):IB (.ref l) (.int k) H Q:=by
 refine⟨l,k,[x],rfl,rfl,h1,by omega,by omega,?_,fun p hp=>?_⟩
 ·have:((k:Int)).toNat=k:=by omega
  rw[this]
  refine P6 ?_ bo
  simp only[QU,VX]
  omega
 ·have:(QT ((k:Int)).toNat [x]).flatten=QT k x:=by
   rw[show((k:Int)).toNat=k by omega]
   exact CW x k
  rw[this]
  exact h p _ hp (av.updN hp) ax
noncomputable def Hz(c:Int):List PH:=(P4 8).map (aQ c)++(P4 8).map (aQ (c/3))
noncomputable def KQ(c:Int):List PH:=[aQ c 0++"aaaaaaaa",Fi (aQ c 1),aQ c 2++"\n"]
theorem qR{z:PH}(h:dw z=true):∀c∈z.cps.toList,isLet c=true:=fun c hc=>by
 unfold dw at h
 simp only[QW]at h
 exact Rt.mp h.2 c hc
theorem MN(c:Int):∀z∈Hz c,dw z=true:=fun z hz=>by
 rcases QC.mp hz with hz|hz<;>(obtain⟨j,_,rfl⟩:=P9.mp hz;exact da _ _)
theorem a8:Wd "aaaaaaaa"/\("aaaaaaaa":PH).length=8/\("\n":PH).length=1/\("\n":PH).cps.toList=[10]:=by
 unfold Wd
 decide +kernel
theorem Ii(c:Int):∀z∈KQ c,Wd z/\dw z=false:=fun z hz=>by
 have n0:=da c 0
 have n1:=da c 1
 have n2:=da c 2
 have l0:=fq n0
 have l1:=fq n1
 have l2:=fq n2
 obtain⟨a1,a2,a3,a4⟩:=a8
 have hz:z=aQ c 0++"aaaaaaaa"\/z=Fi (aQ c 1)\/z=aQ c 2++"\n":=by simpa[KQ]using hz
 rcases hz with rfl|rfl|rfl
 ·exists iE (tY n0) a1 (by omega)
  cases e:dw (aQ c 0++"aaaaaaaa")with
  |false=>rfl
  |true=>
   have:=(fq e).2
   rw[Qx]at this
   omega
 ·have hl:=Ai (qR n1)
  have hu:=L8 (qR n1)
  exists ⟨by omega,fun d hd=>by have:=hu d hd;omega⟩
  cases e:dw (Fi (aQ c 1))with
  |false=>rfl
  |true=>
   have h1:0<(Fi (aQ c 1)).cps.toList.length:=by rw[aP];omega
   have h2:=hu _ (RA h1)
   have h3:=qR e _ (RA h1)
   unfold isLet at h3
   simp only[QW,decide_eq_true_eq]at h3
   omega
 ·exists iE (tY n2) hZ.2.2.2.2.2.2 (by omega)
  cases e:dw (aQ c 2++"\n")with
  |false=>rfl
  |true=>
   have:=qR e 10 (by rw[cT,a4];simp)
   cases this
noncomputable def yw(c:Int):List PH:=Hz c++KQ c
theorem Ln(c:Int):∀z∈yw c,Wd z:=fun z hz=>by
 rcases QC.mp hz with hz|hz
 ·exact tY (MN c z hz)
 ·exact(Ii c z hz).1
theorem Ig(c:Int):(yw c).length=19:=by simp[yw,Hz,KQ]
theorem Jm(c:Int):0<(((P4 18).map fun j=>aQ c (8+j)).filter fun z=>!decide (z∈yw c)).length:=by
 have h:=Gz c (Hz c) (by simp[Hz])
 obtain⟨z,hz⟩:=List.exists_mem_of_length_pos h
 obtain⟨m,n⟩:=QL.mp hz
 obtain⟨k,hk,rfl⟩:=P9.mp m
 have hk:=Q6.mp hk
 have n:aQ c k∉Hz c:=by simpa using n
 have k8:8<=k:=Vr fun q=>n (S6 _ (P9.mpr ⟨k,Q6.mpr q,rfl⟩))
 refine Yk (a:=aQ c k) (QL.mpr ⟨P9.mpr ⟨k-8,Q6.mpr (by omega),by rw[show 8+(k-8)=k by omega]⟩,?_⟩)
 have:aQ c k∉yw c:=fun q=>by
  rcases QC.mp q with q|q
  ·exact n q
  ·have:=(Ii c _ q).2
   rw[da]at this
   cases this
 simpa using this
theorem iV.mono{ns ms:List PH}{r:PH}(h:iV ns r)(m:∀z∈ns,z∈ms):iV ms r:=⟨h.1,fun s z e=>m z (h.2 s z e)⟩
theorem MT{ns:List PH}{n o:PH}(hn:Wd n)(ho:Wd o)(mn:n∈ns){g:List PH}(h:g∈CI n o):iV ns (QP " " g):=by
 obtain⟨w,r,e,_,_,hr⟩:=n9 h
 refine BK (by rw[e];simp) (BI hn ho h) (by rw[e];simp;omega) fun z hz=>?_
 have:z=n:=by
  rcases nJ h with q|q|q|q|q|q|q|q|q|q|q|q|q<;>rw[q]at hz<;>simp at hz
  ·exact hz.symm
  all_goals exact absurd hz.1 (by decide +kernel)
 rw[this];exact mn
theorem Iw{s:aG}{cl:PH}{a:Act}(h:a=.no cl):md s a=s/\jH s a=.kin cl:=by rw[h];exact⟨rfl,rfl⟩
theorem Jq{s:aG}{z:PH}(hz:Wd z)(h0:z≠"")(h:∀p∈s.ps,p.1≠z):dg s (("purse ":PH)++z)=.no "NoVoter"/\Tx (("purse ":PH)++z):=by
 rw[Lj (w:="purse") (by decide +kernel)]
 have f:∀x∈(["purse",z]:List PH),Wd x:=by simp[kc,hz]
 refine⟨?_,rj (by simp) f⟩
 rw[kl (by simp) f,if_neg]
 ·show act2 s "purse" z=_
  rw[act2,if_pos rfl,if_neg]
  intro m
  obtain⟨p,hp,e⟩:=P9.mp m
  exact h p hp e
 ·intro m
  rcases Qb.mp m with m|m
  ·exact absurd m (by decide +kernel)
  ·exact h0 (QR.mp m).symm
theorem Ct{kf:PH->List Bool}{H H':Hp}{fp':List PK}:∀{as:List LZ}{ys:List V},Qd (fun a v=>gy kf H H' v a/\∀l',v=.ref l'->l'∉fp') as ys->∃X:List (PK×List V),(∀p∈X,H' p.1=some (.lst p.2)/\p.1∉fp'/\H p.1=none)/\∀fp2 H'',(∀p∈X,p.1∉fp2)->bZ fp2 H' H''->Qd (fun a v=>gy kf H H'' v a) as ys
 |_,_,.nil=>⟨[],(fun _ h=>nomatch h),fun _ _ _ _=>.nil⟩
 |a::as,v::ys,.cons h t=>by
  obtain⟨X,h1,h2⟩:=Ct t
  cases a with
  |txt t=>exact⟨X,h1,fun fp2 H'' n b=>.cons h.1 (h2 fp2 H'' n b)⟩
  |kin cl=>
   obtain⟨⟨l,e,f,e'⟩,nl⟩:=h
   refine⟨(l,(kf cl).map V.bl)::X,fun p hp=>?_,fun fp2 H'' n b=>.cons ⟨l,e,f,b.1 _ _ (n _ (QH ..)) e'⟩ (h2 fp2 H'' (fun p hp=>n p (Qs _ hp)) b)⟩
   rcases Qb.mp hp with rfl|hp
   ·exact⟨e',nl l e,f⟩
   ·exact h1 p hp
noncomputable def PG(H0 H:Hp)(gs:List (List PH))(as:List PK):Prop:=av H0 H/\Qd (fun g a=>H0 a=none/\H a=some (.lst (g.map V.str))) gs as
theorem PG.snoc{H0 H H':Hp}{gs:List (List PH)}{as:List PK}{a:PK}{g:List PH}(h:PG H0 H gs as)(f:H a=none)(s:av H H')(e:H' a=some (.lst (g.map V.str))):PG H0 H' (gs++[g]) (as++[a]):=
 ⟨h.1.trans s,jl (Paired.mapP h.2 fun _ _ z=>⟨z.1,s _ _ z.2⟩) ⟨h.1.free f,e⟩⟩
theorem PG.same{H0 H H':Hp}{gs:List (List PH)}{as:List PK}(h:PG H0 H gs as)(s:av H H'):PG H0 H' gs as:=⟨h.1.trans s,Paired.mapP h.2 fun _ _ z=>⟨z.1,s _ _ z.2⟩⟩
theorem vq{K:PM}{ns:List PH}(hn:ns.length=19)(x:Int):∃z∈ns,xW (ns.map V.str) (x%((ns.map V.str).length:Int))=some (.str z):=by
 rw[P7,hn]
 exact mr hn (by decide)
theorem nC{xs:List Int}{k:Nat}(h:k<xs.length):∃x,xW (xs.map V.int) ((k:Nat):Int)=some (.int x):=⟨xs[k],bM (by simp[h])⟩
noncomputable def jm(K:PM):Sp:=cL 2 fun vs H Q=>∃(a:PK)(ns:List Int)(k:Nat),vs=[.ref a,.int k]/\aY K H a (ns.map V.int)/\∀(v:Int) H',av H H'->Q (.int v) H'
noncomputable def eE(_:PM):Sp:=cL 2 fun vs H Q=>∃(c:Int)(m:Nat),vs=[.int c,.int m]/\m<=1000/\∀(l:PK) H',H l=none->av H H'->H' l=some (.lst ((d4 c m).map V.int))->Q (.ref l) H'
noncomputable def fI(K:PM):Sp:=cL 1 fun vs H Q=>∃(c dx:PK),vs=[.ref c]/\H c=some (.ins (ao K "Chest") dx [])/\∀H' fp,aO K H' c fp ⟨[],[],[],0,0,0⟩->bZ [c] H H'->ji [c] fp H->Q .non H'
noncomputable def d7(K:PM):Sp:=cL 1 fun vs H Q=>∃(d dx:PK),vs=[.ref d]/\H d=some (.ins (ao K "Desk") dx [])/\∀H' fp,cF K H' d fp ⟨[],[],[],0,0,0⟩->bZ [d] H H'->ji [d] fp H->Q .non H'
noncomputable def dD(_:PM):Sp:=cL 2 fun vs H Q=>∃(c:Int)(k:Nat),vs=[.int c,.int k]/\k<=1000/\∀H',av H H'->Q (.str (aQ c k)) H'
noncomputable def fe(K:PM):Sp:=cL 2 fun vs H Q=>∃(a:PK)(c:Int)(xs:List Int),vs=[.ref a,.int c]/\aY K H a (xs.map V.int)/\xs.length=15/\∀l (rows:List PH) H',rows.length<=60->(∀r∈rows,iV ((P4 6).map (aQ c)) r)->H l=none->av H H'->H' l=some (.lst (rows.map V.str))->Q (.ref l) H'
noncomputable def jO(K:PM):Sp:=fun vs H Q E=>vs.length=1/\∃z:PH,vs=[.str z]/\aV z/\z.length<=100000/\
 (("":PH)∉QJ z " "->∀l,H l=none->Q (.ref l) (upd H l (.lst ((QJ z " ").map V.str))))/\(("":PH)∈QJ z " "->∀H',av H H'->E (.ref (ao K "NoRow")) none H')
noncomputable def fL(_:PM):Sp:=cL 2 fun vs H Q=>∃s n:Nat,vs=[.int s,.int n]/\0<s/\0<n/\Q (.int (R5 s n:Nat)) H
noncomputable def m9(_:PM):Sp:=cL 1 fun vs H Q=>∃n:Nat,vs=[.int n]/\n<=20/\Q (.int (mZ n:Nat)) H
noncomputable def hW(_:PM):Sp:=cL 2 fun vs H Q=>∃v w:Nat,vs=[.int v,.int w]/\1<=v/\v<=20/\w<=12/\Q (.int (mZ v ^ (w+1):Nat)) H
noncomputable def pq(K:PM):Sp:=cL 2 fun vs H Q=>∃(a:PK)(sts:List (Nat×Int×List Int))(i:Nat),vs=[.ref a,.int i]/\hV H a sts/\sts.length<=64/\(∀x∈sts,i<x.2.2.length)/\∀H',av H H'->Q (.int (sts.map fun x=>x.2.2.getD i 0).sum) H'
noncomputable def kF(K:PM):Sp:=cL 2 fun vs H Q=>∃(a b:PK)(ps:List Int)(sts:List (Nat×Int×List Int)),vs=[.ref a,.ref b]/\aY K H a (ps.map V.int)/\hV H b sts/\ps.length<=20/\sts.length<=12/\(∀x∈sts,x.2.2.length=ps.length)/\
 ∀l H',H l=none->av H H'->H' l=some (.lst ((bL ps sts).map V.int))->Q (.ref l) H'
noncomputable def ke(K:PM):Sp:=cL 2 fun vs H Q=>∃(a b:PK)(cs:List Int)(rows:List (List Int)),vs=[.ref a,.ref b]/\aY K H a (cs.map V.int)/\gF K H b rows/\cs.length<=12/\(∀x∈cs,1<=x/\x<=1000000000000)/\1<=rows.length/\rows.length<=20/\
 ∀l H',H l=none->av H H'->H' l=some (.lst ((cs.map (· * ((mZ rows.length ^ (cs.length+1):Nat):Int))).map V.int))->Q (.ref l) H'
noncomputable def jM(_:PM):Sp:=cL 2 fun vs H Q=>∃m p:Int,vs=[.int m,.int p]/\1<=p/\p<=1000/\Q (.int ((m+p-1)/p)) H
noncomputable def kn(K:PM):Sp:=cL 2 fun vs H Q=>∃(a:PK)(ps:List Int)(price:Int),vs=[.ref a,.int price]/\aY K H a (ps.map V.int)/\ps.length<=40/\(∀p∈ps,0<=p)/\1<=price/\
 (ps.sum<price->∀H',av H H'->Q .non H')/\(price<=ps.sum->∀L H',IH ps price L->av H H'->Q (.int L) H')
noncomputable def ku(K:PM):Sp:=cL 2 fun vs H Q=>∃(a b:PK)(ws ks:List Int),vs=[.ref a,.ref b]/\aY K H a (ws.map V.int)/\aY K H b (ks.map V.int)/\ks.length<=64/\∀H',av H H'->Q (.bl (ks.all fun k=>decide (k∈ws))) H'
noncomputable def kL(K:PM):Sp:=cL 2 fun vs H Q=>∃(a b:PK)(rows:List (List Int))(ks:List Int),vs=[.ref a,.ref b]/\gF K H a rows/\aY K H b (ks.map V.int)/\rows.length<=64/\ks.length<=64/\
 ∀l H',H l=none->av H H'->H' l=some (.lst ((kd rows ks).map V.int))->Q (.ref l) H'
noncomputable def gq(K:PM):Sp:=cL 2 fun vs H Q=>∃(a:PK)(rows:List (List Int))(k:Int),vs=[.ref a,.int k]/\gF K H a rows/\rows.length<=64/\
 ∀l H',H l=none->av H H'->H' l=some (.lst ((kd rows [k]).map V.int))->Q (.ref l) H'
noncomputable def mD(K:PM):Sp:=cL 4 fun vs H Q=>∃(a b:PK)(ps:List Int)(rows:List (List Int))(k:Nat)(price:Int),vs=[.ref a,.ref b,.int k,.int price]/\aY K H a (ps.map V.int)/\gF K H b rows/\rows.length<=20/\ps.length=rows.length/\(∀p∈ps,0<=p)/\1<=price/\
 (Hx rows.length (WR rows) (PF ps) k<price->∀H',av H H'->Q .non H')/\(price<=Hx rows.length (WR rows) (PF ps) k->∀L H',1<=L->price<=uf rows.length (WR rows) (PF ps) k L->uf rows.length (WR rows) (PF ps) k (L-1)<price->av H H'->Q (.int L) H')
noncomputable def kj(K:PM):Sp:=cL 4 fun vs H Q=>∃(a b c d:PK)(ps cs:List Int)(rows:List (List Int))(done:List Nat),vs=[.ref a,.ref b,.ref c,.ref d]/\aY K H a (ps.map V.int)/\aY K H b (cs.map V.int)/\gF K H c rows/\aY K H d ((done.map fun k:Nat=>(k:Int)).map V.int)/\
 cs.length<=12/\(∀x∈cs,1<=x/\x<=1000000000000)/\1<=rows.length/\rows.length<=20/\ps.length=rows.length/\(∀p∈ps,0<=p)/\done.length<=12/\
 ∀l H' (os:List (Option Int)),H l=none->av H H'->H' l=some (.lst (os.map oV))->os.length=cs.length->(∀j o,os[j]?=some o->Cn (bO cs rows) (PF ps) done j o)->Q (.ref l) H'
noncomputable def pL(K:PM):Sp:=cL 1 fun vs H Q=>∃(a:PK)(os:List (Option Int)),vs=[.ref a]/\aY K H a (os.map oV)/\os.length<=12/\∀(k:Option Nat) H',gK os k->av H H'->Q (oV (k.map fun j:Nat=>(j:Int))) H'
noncomputable def mE(_:PM):Sp:=cL 1 fun vs H Q=>∃(a:PK)(sts:List (Nat×Int×List Int)),vs=[.ref a]/\hV H a sts/\sts.length<=12/\(∀x∈sts,x.1<12)/\(sts.map (·.1)).Nodup/\
 ∀l H' (ws:List Nat),H l=none->av H H'->H' l=some (.lst ((ws.map fun k:Nat=>(k:Int)).map V.int))->ws.Pairwise (· < ·)->(∀k,k∈ws↔k∈sts.map (·.1))->Q (.ref l) H'
noncomputable def pY(K:PM):Sp:=cL 2 fun vs H Q=>∃(a:PK)(ps:List Int)(lev:Int),vs=[.ref a,.int lev]/\aY K H a (ps.map V.int)/\ps.length<=64/\
 ∀l H',H l=none->av H H'->H' l=some (.lst ((ps.map (min · lev)).map V.int))->Q (.ref l) H'
noncomputable def iG(K:PM):Sp:=cL 4 fun vs H Q=>∃(a b:PK)(ps:List Int)(rows:List (List Int))(k:Nat)(L:Int),vs=[.ref a,.ref b,.int k,.int L]/\aY K H a (ps.map V.int)/\gF K H b rows/\rows.length=ps.length/\ps.length<=64/\∀l H',H l=none->av H H'->H' l=some (.lst ((my rows ps k L).map V.int))->Q (.ref l) H'
noncomputable def d0(K:PM):Sp:=cL 4 fun vs H Q=>∃(a b c d:PK)(ps cs:List Int)(rows:List (List Int))(sts:List (Nat×Int×List Int)),vs=[.ref a,.ref b,.ref c,.ref d]/\aY K H a (ps.map V.int)/\aY K H b (cs.map V.int)/\gF K H c rows/\hV H d sts/\
 cs.length<=12/\(∀x∈cs,1<=x/\x<=1000000000000)/\1<=rows.length/\rows.length<=20/\ps.length=rows.length/\sts.length<=12/\(∀x∈sts,x.1<12)/\(sts.map (·.1)).Nodup/\(∀x∈sts,x.2.2.length=ps.length)/\(∀p∈bL ps sts,0<=p)/\
 ((∀k,k<cs.length->k∉sts.map (·.1)->Hx rows.length (WR rows) (PF (bL ps sts)) k<(bO cs rows).c k)->∀H',av H H'->Q .non H')/\
 (∀k L,Nx (bO cs rows) (PF (bL ps sts)) (sts.map (·.1)) k L->∀t b H',H t=none->H b=none->av H H'->H' t=some (.tup [.int k,.int L,.ref b])->H' b=some (.lst ((my rows (bL ps sts) k L).map V.int))->Q (.ref t) H')
noncomputable def sr(K:PM):Sp:=cL 3 fun vs H Q=>∃(a b c:PK)(ps cs:List Int)(rows:List (List Int)),vs=[.ref a,.ref b,.ref c]/\aY K H a (ps.map V.int)/\aY K H b (cs.map V.int)/\gF K H c rows/\Jh cs rows ps/\
 ∀l H' run,H l=none->av H H'->iX H H' l (aT rows ps run)->gZ (bO cs rows) (PF ps) [] run->Q (.ref l) H'
noncomputable def eA(K:PM):Sp:=cL 3 fun vs H Q=>∃(c b:PK)(g:Int)(left:List Int)(fp:List PK)(s:aG),vs=[.ref c,.ref b,.int g]/\aO K H c fp s/\H b=some (.lst (left.map V.int))/\0<g/\g<nh/\left.length=s.ps.length/\s.ps.length<=20/\
 ∀H' fp',aO K H' c fp' (HZ s left g)->bZ fp H H'->ji fp fp' H->Q .non H'
noncomputable def dF(K:PM):Sp:=cL 2 fun vs H Q=>∃(c dx d1 d2 w:PK)(n:PH)(wt:List PK)(s:aG),vs=[.ref c,.str n]/\H c=some (.ins (ao K "Chest") dx (gE d1 d2 w s.pot s.giv s.spt))/\H d2=some (.dK (eD s.cs))/\H w=some (.lst (wt.map V.ref))/\Qd (Br H) s.ws wt/\
 aV n/\(∀p∈s.cs,aV p.1)/\(∀p∈s.ws,aV p.1/\aV p.2)/\s.cs.length<=1000/\
 ∀l H',H l=none->av H H'->H' l=some (.lst ((intsOf (BD s n)).map V.int))->Q (.ref l) H'
noncomputable def eU(K:PM):Sp:=cL 3 fun vs H Q=>∃(c b:PK)(k:Nat)(L:Int)(paid:List Int)(fp:List PK)(s:aG),vs=[.ref c,.int k,.ref b]/\aO K H c fp s/\k<s.cs.length/\H b=some (.lst (paid.map V.int))/\paid.length=s.ps.length/\s.ps.length<=20/\s.cs.length<=12/\
 ∀t r H',H t=none->H r=none->t≠r->av H H'->H' t=some (.tup [.str (bK s (k,L,paid)).1,.int (bK s (k,L,paid)).2.1,.ref r])->Ot H H' r (bK s (k,L,paid)).2.2->Q (.ref t) H'
noncomputable def cM(K:PM):Sp:=fun vs H Q E=>vs.length=2/\∃(c:PK)(n:PH)(fp:List PK)(s:aG),vs=[.ref c,.str n]/\aO K H c fp s/\((n∈s.cs.map (·.1)/\Q .non H)\/(n∉s.cs.map (·.1)/\Tx n/\cz K H E "NoWork"))
noncomputable def OE(s:aG)(n:PH):aG:={s with cs:=s.cs.filter fun p=>decide (p.1≠n),ws:=s.ws.filter fun p=>!decide (p.2=n)}
noncomputable def dP(K:PM):Sp:=fun vs H Q E=>vs.length=2/\∃(c:PK)(n:PH)(fp:List PK)(s:aG),vs=[.ref c,.str n]/\aO K H c fp s/\s.ws.length<=1000/\
 ((cq.withdraw n).due s=none->∀H' fp',aO K H' c fp' (OE s n)->bZ fp H H'->ji fp fp' H->Q .non H')/\∀cl,(cq.withdraw n).due s=some cl->Tx n/\cz K H E cl
noncomputable def iO(K:PM):Sp:=cL 1 fun vs H Q=>∃(c:PK)(fp:List PK)(s:aG),vs=[.ref c]/\aO K H c fp s/\pf s/\
 ((s.ps=[]\/s.cs=[])->∀t l H',H t=none->H l=none->t≠l->av H H'->H' t=some (.tup [.ref l,.int 1])->H' l=some (.lst [])->Q (.ref t) H')/\
 (s.ps≠[]->s.cs≠[]->∀run t l ts H' fp',gZ (bO (cc s) (aZ s)) (PF (aH s)) [] run->bZ fp H H'->ji fp fp' H->aO K H' c fp' (cQ s (bL (aH s) (aT (aZ s) (aH s) run)) (fc s) ((aT (aZ s) (aH s) run).map (bK s)))->
  H t=none->H l=none->l∉fp'->H' t=some (.tup [.ref l,.int (fc s)])->oW H' l ts ((aT (aZ s) (aH s) run).map (bK s))->(∀t'∈ts,∀y z r,H' t'=some (.tup [y,z,.ref r])->r≠l/\H r=none/\r∉fp')->Q (.ref t) H')
noncomputable def lz(_:PM):Sp:=cL 1 fun vs H Q=>∃(l:PK)(rs:List (PH×Int)),vs=[.ref l]/\nQ H l rs/\rs.length<=20/\(∀p∈rs,Sm p.1/\Nb p.2)/\∀H',av H H'->Q (.str (Fw rs)) H'
noncomputable def kK(_:PM):Sp:=cL 3 fun vs H Q=>∃(l:PK)(r:jj),vs=[.str r.1,.int r.2.1,.ref l]/\nQ H l r.2.2/\Sm r.1/\Nb r.2.1/\r.2.2.length<=20/\(∀p∈r.2.2,Sm p.1/\Nb p.2)/\∀H',av H H'->Q (.str (j6 r)) H'
noncomputable def gO(_:PM):Sp:=cL 2 fun vs H Q=>∃(l:PK)(ts:List PK)(rs:List jj)(g:Int),vs=[.ref l,.int g]/\oW H l ts rs/\rs.length<=12/\Nb g/\(∀r∈rs,Sm r.1/\Nb r.2.1/\r.2.2.length<=20/\∀p∈r.2.2,Sm p.1/\Nb p.2)/\∀H',av H H'->Q (.str (qi rs g)) H'
noncomputable def iS(K:PM):Sp:=cL 1 fun vs H Q=>∃(c:PK)(fp:List PK)(s:aG),vs=[.ref c]/\aO K H c fp s/\lX s/\∀H' fp',aO K H' c fp' (lH s)->bZ fp H H'->ji fp fp' H->Q (.str (sg s)) H'
noncomputable def kB(K:PM):Sp:=cL 3 fun vs H Q=>∃(l:PK)(r:PH×Int×List PH),vs=[.str r.1,.int r.2.1,.ref l]/\aY K H l (r.2.2.map V.str)/\Sm r.1/\Nb r.2.1/\r.2.2.length<=20/\(∀x∈r.2.2,Sm x)/\∀H',av H H'->Q (.str (nj r)) H'
noncomputable def jD(_:PM):Sp:=cL 1 fun vs H Q=>∃(l:PK)(ts:List PK)(rs:List (PH×Int×List PH)),vs=[.ref l]/\JX H l ts rs/\rs.length<=12/\(∀r∈rs,Sm r.1/\Nb r.2.1/\r.2.2.length<=20/\∀x∈r.2.2,Sm x)/\∀H',av H H'->Q (.str (sT rs)) H'
noncomputable def gb(K:PM):Sp:=cL 2 fun vs H Q=>∃(c dx d1 d2 w:PK)(n:PH)(wt:List PK)(s:aG),vs=[.ref c,.str n]/\H c=some (.ins (ao K "Chest") dx (gE d1 d2 w s.pot s.giv s.spt))/\H d1=some (.dK (eD s.ps))/\H w=some (.lst (wt.map V.ref))/\Qd (Br H) s.ws wt/\
 aV n/\(∀p∈s.ps,aV p.1)/\(∀p∈s.ws,aV p.1/\aV p.2)/\s.ps.length<=1000/\
 ∀l H',H l=none->av H H'->H' l=some (.lst (((s.ps.map (·.1)).filter fun v=>decide ((v,n)∈s.ws)).map V.str))->Q (.ref l) H'
noncomputable def iq(K:PM):Sp:=cL 1 fun vs H Q=>∃(c:PK)(fp:List PK)(s:aG),vs=[.ref c]/\aO K H c fp s/\(∀p∈s.ps,aV p.1)/\(∀p∈s.cs,aV p.1)/\(∀p∈s.ws,aV p.1/\aV p.2)/\s.ps.length<=1000/\s.cs.length<=1000/\
 ∀l ts H',H l=none->av H H'->JX H' l ts (s.cs.map (xi s))->(∀t∈ts,∀x y w,H' t=some (.tup [x,y,.ref w])->w≠l/\H w=none)->Q (.ref l) H'
noncomputable def lI(K:PM):Sp:=cL 1 fun vs H Q=>∃(c:PK)(fp:List PK)(s:aG),vs=[.ref c]/\aO K H c fp s/\Q (.int s.pot) H
noncomputable def jc(K:PM):Sp:=cL 1 fun vs H Q=>∃(c:PK)(fp:List PK)(s:aG),vs=[.ref c]/\aO K H c fp s/\Q (.int s.giv) H
noncomputable def ja(K:PM):Sp:=cL 1 fun vs H Q=>∃(c:PK)(fp:List PK)(s:aG),vs=[.ref c]/\aO K H c fp s/\Q (.int s.spt) H
noncomputable def pA(K:PM):Sp:=fun vs H Q E=>vs.length=2/\∃(c:PK)(w:PH)(fp:List PK)(s:aG),vs=[.ref c,.str w]/\aO K H c fp s/\lX s/\Tx w/\xu K (fun H' fp' s'=>aO K H' c fp' s') H fp s Q E (Bt s w)
noncomputable def pJ(_:PM):Sp:=cL 1 fun vs H Q=>∃z:PH,vs=[.str z]/\aV z/\z.length<=100000/\∀H',av H H'->Q (.bl (dw z)) H'
noncomputable def dR(K:PM):Sp:=fun vs H Q E=>vs.length=2/\∃(z:PH)(d:PK)(kvs:List (Key×V)),vs=[.str z,.ref d]/\H d=some (.dK kvs)/\Tx z/\
 ((dw z=true/\gL kvs (.inr z)=none/\∀H',av H H'->Q .non H')\/(dw z=false/\cz K H E "NoName")\/(dw z=true/\(gL kvs (.inr z)).isSome=true/\cz K H E "Twice"))
noncomputable def fH(K:PM):Sp:=fun vs H Q E=>vs.length=2/\∃(d:PK)(kvs:List (Key×V))(n:Int),vs=[.ref d,.int n]/\H d=some (.dK kvs)/\(n=12\/n=20)/\(((kvs.length:Int)<n/\Q .non H)\/(n<=(kvs.length:Int)/\cz K H E "Full"))
noncomputable def i9(K:PM):Sp:=fun vs H Q E=>vs.length=2/\∃(c:PK)(n:PH)(fp:List PK)(s:aG),vs=[.ref c,.str n]/\aO K H c fp s/\Tx n/\
 ((cq.enrol n).due s=none->∀H' fp',aO K H' c fp' ({s with ps:=s.ps++[(n,0)]})->bZ fp H H'->ji fp fp' H->Q .non H')/\∀cl,(cq.enrol n).due s=some cl->cz K H E cl
noncomputable def cg(K:PM):Sp:=fun vs H Q E=>vs.length=2/\∃(c:PK)(n:PH)(fp:List PK)(s:aG),vs=[.ref c,.str n]/\aO K H c fp s/\((n∈s.ps.map (·.1)/\Q .non H)\/(n∉s.ps.map (·.1)/\Tx n/\cz K H E "NoVoter"))
noncomputable def fK(K:PM):Sp:=fun vs H Q E=>vs.length=2/\∃(c:PK)(n:PH)(fp:List PK)(s:aG),vs=[.ref c,.str n]/\aO K H c fp s/\Tx n/\(n∈s.ps.map (·.1)->Q (.int (vP s.ps n)) H)/\(n∉s.ps.map (·.1)->cz K H E "NoVoter")
noncomputable def iu(K:PM):Sp:=fun vs H Q E=>vs.length=2/\∃(c:PK)(n:PH)(fp:List PK)(s:aG),vs=[.ref c,.str n]/\aO K H c fp s/\Tx n/\s.ws.length<=1000/\
 ((cq.leave n).due s=none->∀H' fp',aO K H' c fp' (HU s n (vP s.ps n))->bZ fp H H'->ji fp fp' H->Q .non H')/\∀cl,(cq.leave n).due s=some cl->cz K H E cl
noncomputable def fv(K:PM):Sp:=fun vs H Q E=>vs.length=2/\∃(x y:Int),vs=[.int x,.int y]/\(y=0\/y=1)/\((y<=x/\x<=1000000000/\Q .non H)\/((x<y\/1000000000<x)/\cz K H E "TooMuch"))
noncomputable def iF(K:PM):Sp:=cL 2 fun vs H Q=>∃(c:PK)(x:Int)(fp:List PK)(s:aG),vs=[.ref c,.int x]/\aO K H c fp s/\s.ps.length<=20/\
 ∀H' fp',aO K H' c fp' (wY s x)->bZ fp H H'->ji fp fp' H->Q .non H'
noncomputable def jG(K:PM):Sp:=fun vs H Q E=>vs.length=2/\∃(c:PK)(x:Int)(fp:List PK)(s:aG),vs=[.ref c,.int x]/\aO K H c fp s/\s.ps.length<=20/\
 ((cq.give x).due s=none->∀H' fp',aO K H' c fp' (qU s x)->bZ fp H H'->ji fp fp' H->Q .non H')/\∀cl,(cq.give x).due s=some cl->cz K H E cl
noncomputable def kC(_:PM):Sp:=cL 1 fun vs H Q=>∃z:PH,vs=[.str z]/\aV z/\z.length<=100000/\∀H',av H H'->Q (.bl (i6 z)) H'
noncomputable def fJ(K:PM):Sp:=fun vs H Q E=>vs.length=1/\∃z:PH,vs=[.str z]/\aV z/\z.length<=100000/\
 (i6 z=true->∀(n:Int) H',0<=n->n.natAbs.log2<1920->((toString n:String):PH)=z->av H H'->Q (.int n) H')/\(i6 z=false->∀H',av H H'->E (.ref (ao K "NoRow")) none H')
noncomputable def pN(K:PM):Sp:=fun vs H Q E=>vs.length=3/\∃(c:PK)(w a:PH)(fp:List PK)(s:aG),vs=[.ref c,.str w,.str a]/\aO K H c fp s/\lX s/\Tx w/\Tx a/\xu K (fun H' fp' s'=>aO K H' c fp' s') H fp s Q E (act2 s w a)
noncomputable def gm(K:PM):Sp:=fun vs H Q E=>vs.length=3/\∃(c:PK)(n:PH)(x:Int)(fp:List PK)(s:aG),vs=[.ref c,.str n,.int x]/\aO K H c fp s/\Tx n/\
 ((cq.propose n x).due s=none->∀H' fp',aO K H' c fp' ({s with cs:=s.cs++[(n,x)]})->bZ fp H H'->ji fp fp' H->Q .non H')/\∀cl,(cq.propose n x).due s=some cl->cz K H E cl
noncomputable def Jk(s:aG)(v n:PH):aG:=if(v,n)∈s.ws then s else{s with ws:=s.ws++[(v,n)]}
noncomputable def jF(K:PM):Sp:=fun vs H Q E=>vs.length=3/\∃(c:PK)(v n:PH)(fp:List PK)(s:aG),vs=[.ref c,.str v,.str n]/\aO K H c fp s/\Tx v/\Tx n/\(∀p∈s.ws,aV p.1/\aV p.2)/\s.ws.length<=900/\
 ((cq.want v n).due s=none->∀H' fp',aO K H' c fp' (Jk s v n)->bZ fp H H'->ji fp fp' H->Q .non H')/\∀cl,(cq.want v n).due s=some cl->cz K H E cl
noncomputable def Pd(s:aG)(v n:PH):aG:={s with ws:=s.ws.filter fun p=>!decide (p=(v,n))}
noncomputable def gG(K:PM):Sp:=fun vs H Q E=>vs.length=3/\∃(c:PK)(v n:PH)(fp:List PK)(s:aG),vs=[.ref c,.str v,.str n]/\aO K H c fp s/\Tx v/\Tx n/\(∀p∈s.ws,aV p.1/\aV p.2)/\s.ws.length<=900/\
 ((cq.unwant v n).due s=none->∀H' fp',aO K H' c fp' (Pd s v n)->bZ fp H H'->ji fp fp' H->Q .non H')/\∀cl,(cq.unwant v n).due s=some cl->cz K H E cl
noncomputable def lE(K:PM):Sp:=fun vs H Q E=>vs.length=4/\∃(c:PK)(w a b:PH)(fp:List PK)(s:aG),vs=[.ref c,.str w,.str a,.str b]/\aO K H c fp s/\lX s/\Tx w/\Tx a/\Tx b/\xu K (fun H' fp' s'=>aO K H' c fp' s') H fp s Q E (xK s w a b)
noncomputable def jq(K:PM):Sp:=fun vs H Q E=>vs.length=2/\∃(d:PK)(row:PH)(fp:List PK)(s:aG),vs=[.ref d,.str row]/\cF K H d fp s/\lX s/\Tx row/\xu K (fun H' fp' s'=>cF K H' d fp' s') H fp s Q E (dg s row)
noncomputable def qj(cl:PH):List Bool:=[decide (cl="NoRow"),decide (cl="NoVoter"),true,decide (cl="NoName"),decide (cl="Twice"),decide (cl="NoWork"),decide (cl="TooMuch"),decide (cl="Full"),false]
noncomputable def cP(K:PM):Sp:=cL 2 fun vs H Q=>∃(d:PK)(row:PH)(fp:List PK)(s:aG),vs=[.ref d,.str row]/\cF K H d fp s/\lX s/\Tx row/\∀v H' fp',cF K H' d fp' (md s (dg s row))->bZ fp H H'->ji fp fp' H->gy qj H H' v (jH s (dg s row))->(∀l,v=.ref l->l∉fp')->Q v H'
noncomputable def J8:List PH:=["works","pot","given","spent","close","works","pot","spent"]
noncomputable def o8(ns:List PH):List PH:=(ns.map fun z=>("purse ":PH)++z)++J8
noncomputable def gY(K:PM):Sp:=cL 2 fun vs H Q=>∃(d b:PK)(fp:List PK)(s:aG)(n:Nat)(ns:List PH),vs=[.ref d,.ref b]/\cF K H d fp s/\cE n s/\n+27<=900/\H b=some (.lst (ns.map V.str))/\b∉fp/\ns.length=19/\(∀z∈ns,Wd z)/\
 ∀l H' fp' ys,bZ fp H H'->ji fp fp' H->cF K H' d fp' (gA s (o8 ns))->H l=none->l∉fp'->H' l=some (.lst ys)->Qd (fun a v=>gy qj H H' v a/\∀l',v=.ref l'->l'∉fp') (rA s (o8 ns)) ys->Q (.ref l) H'
noncomputable def dI(K:PM):Sp:=cL 2 fun vs H Q=>∃(a b:PK)(xs:List Int)(ns:List PH),vs=[.ref a,.ref b]/\aY K H a (xs.map V.int)/\aY K H b (ns.map V.str)/\6<=xs.length/\ns.length=19/\∀l g n o H',n∈ns->o∈ns->g∈CI n o->H l=none->av H H'->H' l=some (.lst (g.map V.str))->Q (.ref l) H'
noncomputable def eR(_:PM):Sp:=cL 2 fun vs H Q=>∃(w:PH)(x:Int),vs=[.str w,.int x]/\w∈WA/\∀z H',z∉WA->Wd z->av H H'->Q (.str z) H'
noncomputable def fO(_:PM):Sp:=cL 1 fun vs H Q=>∃x:Int,vs=[.int x]/\∀z H',i6 z=false->Wd z->av H H'->Q (.str z) H'
noncomputable def nS(K:PM):Sp:=cL 2 fun vs H Q=>∃(a b:PK)(xs:List Int)(ns:List PH),vs=[.ref a,.ref b]/\aY K H a (xs.map V.int)/\aY K H b (ns.map V.str)/\6<=xs.length/\ns.length=19/\(∀z∈ns,Wd z)/\∀l ws H',gk ws->ws.length<=5->(∀w∈ws,Wd w)->H l=none->av H H'->H' l=some (.lst (ws.map V.str))->Q (.ref l) H'
noncomputable def top(i:Nat):P5:=PySem.Challenge.pw_purse_k53_refused_rows.main.body.getD i (.Pass ⟨0,0,0,0⟩)
noncomputable abbrev wV:P5:=top 63
theorem tE:aB ["script","k","cell"] ["script","k"] (aq wV):=⟨rfl,rfl,rfl,by decide +kernel,rfl,by decide +kernel,by decide +kernel⟩
noncomputable abbrev qY:P5:=top 64
theorem gv:aB ["cell","many","spins","k","turn"] ["cell","many"] (aq qY):=⟨rfl,rfl,rfl,by decide +kernel,rfl,by decide +kernel,by decide +kernel⟩
noncomputable abbrev j1:P5:=inClass (top 44) 0
theorem rg:aB ["self"] ["self"] (aq j1):=⟨rfl,rfl,rfl,by decide +kernel,rfl,by decide +kernel,by decide +kernel⟩
noncomputable abbrev lQ:P5:=inClass (top 61) 0
theorem sC:aB ["self"] ["self"] (aq lQ):=⟨rfl,rfl,rfl,by decide +kernel,rfl,by decide +kernel,by decide +kernel⟩
noncomputable abbrev tU:P5:=top 65
theorem d6:aB ["cell","k","letters","xs","word","at"] ["cell","k"] (aq tU):=⟨rfl,rfl,rfl,by decide +kernel,rfl,by decide +kernel,by decide +kernel⟩
noncomputable abbrev j9:P5:=top 67
theorem cp:aB ["xs","cell","people","plans","rows","k","j"] ["xs","cell"] (aq j9):=⟨rfl,rfl,rfl,by decide +kernel,rfl,by decide +kernel,by decide +kernel⟩
noncomputable abbrev qw:P5:=top 48
theorem oP:aB ["row","words"] ["row"] (aq qw):=⟨rfl,rfl,rfl,by decide +kernel,rfl,by decide +kernel,by decide +kernel⟩
noncomputable abbrev jV:P5:=top 5
theorem fD:aB ["step","number","multiple"] ["step","number"] (aq jV):=⟨rfl,rfl,rfl,by decide +kernel,rfl,by decide +kernel,by decide +kernel⟩
noncomputable abbrev xD:P5:=top 6
theorem jx:aB ["n","least","number"] ["n"] (aq xD):=⟨rfl,rfl,rfl,by decide +kernel,rfl,by decide +kernel,by decide +kernel⟩
noncomputable abbrev sZ:P5:=top 7
theorem fm:aB ["voters","works","factor","grains","work"] ["voters","works"] (aq sZ):=⟨rfl,rfl,rfl,by decide +kernel,rfl,by decide +kernel,by decide +kernel⟩
noncomputable abbrev yP:P5:=top 22
theorem Dr:aB ["steps","voter"] ["steps","voter"] (aq yP):=⟨rfl,rfl,rfl,by decide +kernel,rfl,by decide +kernel,by decide +kernel⟩
noncomputable abbrev zo:P5:=top 23
theorem EO:aB ["purses","steps"] ["purses","steps"] (aq zo):=⟨rfl,rfl,rfl,by decide +kernel,rfl,by decide +kernel,by decide +kernel⟩
noncomputable abbrev tF:P5:=top 15
theorem qz:aB ["costs","wishes","grains"] ["costs","wishes"] (aq tF):=⟨rfl,rfl,rfl,by decide +kernel,rfl,by decide +kernel,by decide +kernel⟩
noncomputable abbrev rm:P5:=top 2
theorem ye:aB ["amount","shares"] ["amount","shares"] (aq rm):=⟨rfl,rfl,rfl,by decide +kernel,rfl,by decide +kernel,by decide +kernel⟩
noncomputable abbrev tO:P5:=top 3
theorem d9:aB ["purses","price","missing","payers","purse"] ["purses","price"] (aq tO):=⟨rfl,rfl,rfl,by decide +kernel,rfl,by decide +kernel,by decide +kernel⟩
noncomputable abbrev tQ:P5:=top 11
theorem Ao:aB ["wanted","works"] ["wanted","works"] (aq tQ):=⟨rfl,rfl,rfl,by decide +kernel,rfl,by decide +kernel,by decide +kernel⟩
noncomputable abbrev tX:P5:=top 13
theorem zR:aB ["wishes","works"] ["wishes","works"] (aq tX):=⟨rfl,rfl,rfl,by decide +kernel,rfl,by decide +kernel,by decide +kernel⟩
noncomputable abbrev qV:P5:=top 12
theorem yD:aB ["wishes","work"] ["wishes","work"] (aq qV):=⟨rfl,rfl,rfl,by decide +kernel,rfl,by decide +kernel,by decide +kernel⟩
noncomputable abbrev wA:P5:=top 16
theorem Ca:aB ["purses","wishes","work","price"] ["purses","wishes","work","price"] (aq wA):=⟨rfl,rfl,rfl,by decide +kernel,rfl,by decide +kernel,by decide +kernel⟩
noncomputable abbrev tK:P5:=top 17
theorem hG:aB ["purses","costs","wishes","done","offers","work","price"] ["purses","costs","wishes","done"] (aq tK):=⟨rfl,rfl,rfl,by decide +kernel,rfl,by decide +kernel,by decide +kernel⟩
noncomputable abbrev zC:P5:=top 18
theorem iC:aB ["offers","best","work","offer"] ["offers"] (aq zC):=⟨rfl,rfl,rfl,by decide +kernel,rfl,by decide +kernel,by decide +kernel⟩
noncomputable abbrev vJ:P5:=top 21
theorem BO:aB ["steps"] ["steps"] (aq vJ):=⟨rfl,rfl,rfl,by decide +kernel,rfl,by decide +kernel,by decide +kernel⟩
noncomputable abbrev zd:P5:=top 1
theorem DD:aB ["purses","level"] ["purses","level"] (aq zd):=⟨rfl,rfl,rfl,by decide +kernel,rfl,by decide +kernel,by decide +kernel⟩
noncomputable abbrev oS:P5:=top 20
theorem mP:aB ["purses","wishes","work","level","wanters"] ["purses","wishes","work","level"] (aq oS):=⟨rfl,rfl,rfl,by decide +kernel,rfl,by decide +kernel,by decide +kernel⟩
noncomputable abbrev oR:P5:=top 24
theorem dX:aB ["purses","costs","wishes","steps","left","offers","work","level"] ["purses","costs","wishes","steps"] (aq oR):=⟨rfl,rfl,rfl,by decide +kernel,rfl,by decide +kernel,by decide +kernel⟩
noncomputable abbrev CZ:P5:=top 25
theorem nX:aB ["purses","costs","wishes","steps","step"] ["purses","costs","wishes"] (aq CZ):=⟨rfl,rfl,rfl,by decide +kernel,rfl,by decide +kernel,by decide +kernel⟩
noncomputable abbrev ix:P5:=inClass (top 44) 21
theorem oA:aB ["self","left","grains"] ["self","left","grains"] (aq ix):=⟨rfl,rfl,rfl,by decide +kernel,rfl,by decide +kernel,by decide +kernel⟩
noncomputable abbrev fR:P5:=inClass (top 44) 8
theorem lh:aB ["self","voter"] ["self","voter"] (aq fR):=⟨rfl,rfl,rfl,by decide +kernel,rfl,by decide +kernel,by decide +kernel⟩
noncomputable abbrev jn:P5:=inClass (top 44) 20
theorem eN:aB ["self","place","paid","name","rows"] ["self","place","paid"] (aq jn):=⟨rfl,rfl,rfl,by decide +kernel,rfl,by decide +kernel,by decide +kernel⟩
noncomputable abbrev i8:P5:=inClass (top 44) 10
theorem ow:aB ["self","work"] ["self","work"] (aq i8):=⟨rfl,rfl,rfl,by decide +kernel,rfl,by decide +kernel,by decide +kernel⟩
noncomputable abbrev j3:P5:=inClass (top 44) 16
theorem qK:aB ["self","work"] ["self","work"] (aq j3):=⟨rfl,rfl,rfl,by decide +kernel,rfl,by decide +kernel,by decide +kernel⟩
noncomputable abbrev oO:P5:=inClass (top 44) 19
theorem cn:aB ["self","grains","purses","wishes","steps","told","name","cost","rows"] ["self"] (aq oO):=⟨rfl,rfl,rfl,by decide +kernel,rfl,by decide +kernel,by decide +kernel⟩
noncomputable abbrev tT:P5:=top 52
theorem Am:aB ["rows"] ["rows"] (aq tT):=⟨rfl,rfl,rfl,by decide +kernel,rfl,by decide +kernel,by decide +kernel⟩
noncomputable abbrev tZ:P5:=top 53
theorem qq:aB ["work","cost","rows","payers"] ["work","cost","rows"] (aq tZ):=⟨rfl,rfl,rfl,by decide +kernel,rfl,by decide +kernel,by decide +kernel⟩
noncomputable abbrev mL:P5:=top 54
theorem lY:aB ["done","grains","told"] ["done","grains"] (aq mL):=⟨rfl,rfl,rfl,by decide +kernel,rfl,by decide +kernel,by decide +kernel⟩
noncomputable abbrev oY:P5:=top 57
theorem nN:aB ["chest","closing"] ["chest"] (aq oY):=⟨rfl,rfl,rfl,by decide +kernel,rfl,by decide +kernel,by decide +kernel⟩
noncomputable abbrev tS:P5:=top 55
theorem qT:aB ["work","cost","wanters","names"] ["work","cost","wanters"] (aq tS):=⟨rfl,rfl,rfl,by decide +kernel,rfl,by decide +kernel,by decide +kernel⟩
noncomputable abbrev qD:P5:=top 56
theorem yE:aB ["works"] ["works"] (aq qD):=⟨rfl,rfl,rfl,by decide +kernel,rfl,by decide +kernel,by decide +kernel⟩
noncomputable abbrev lL:P5:=inClass (top 44) 7
theorem rV:aB ["self","work"] ["self","work"] (aq lL):=⟨rfl,rfl,rfl,by decide +kernel,rfl,by decide +kernel,by decide +kernel⟩
noncomputable abbrev o5:P5:=inClass (top 44) 2
theorem wM:aB ["self"] ["self"] (aq o5):=⟨rfl,rfl,rfl,by decide +kernel,rfl,by decide +kernel,by decide +kernel⟩
noncomputable abbrev tM:P5:=inClass (top 44) 3
theorem zU:aB ["self"] ["self"] (aq tM):=⟨rfl,rfl,rfl,by decide +kernel,rfl,by decide +kernel,by decide +kernel⟩
noncomputable abbrev oG:P5:=inClass (top 44) 4
theorem vY:aB ["self"] ["self"] (aq oG):=⟨rfl,rfl,rfl,by decide +kernel,rfl,by decide +kernel,by decide +kernel⟩
noncomputable abbrev oN:P5:=inClass (top 44) 5
theorem xg:aB ["self"] ["self"] (aq oN):=⟨rfl,rfl,rfl,by decide +kernel,rfl,by decide +kernel,by decide +kernel⟩
noncomputable abbrev yZ:P5:=top 58
theorem DE:aB ["chest","deed"] ["chest","deed"] (aq yZ):=⟨rfl,rfl,rfl,by decide +kernel,rfl,by decide +kernel,by decide +kernel⟩
noncomputable abbrev y4:P5:=top 40
theorem El:aB ["name"] ["name"] (aq y4):=⟨rfl,rfl,rfl,by decide +kernel,rfl,by decide +kernel,by decide +kernel⟩
noncomputable abbrev j0:P5:=top 41
theorem qo:aB ["name","names"] ["name","names"] (aq j0):=⟨rfl,rfl,rfl,by decide +kernel,rfl,by decide +kernel,by decide +kernel⟩
noncomputable abbrev oQ:P5:=top 43
theorem vc:aB ["names","most"] ["names","most"] (aq oQ):=⟨rfl,rfl,rfl,by decide +kernel,rfl,by decide +kernel,by decide +kernel⟩
noncomputable abbrev oJ:P5:=inClass (top 44) 11
theorem vO:aB ["self","name"] ["self","name"] (aq oJ):=⟨rfl,rfl,rfl,by decide +kernel,rfl,by decide +kernel,by decide +kernel⟩
noncomputable abbrev gP:P5:=inClass (top 44) 9
theorem mj:aB ["self","voter"] ["self","voter"] (aq gP):=⟨rfl,rfl,rfl,by decide +kernel,rfl,by decide +kernel,by decide +kernel⟩
noncomputable abbrev jX:P5:=inClass (top 44) 6
theorem qI:aB ["self","voter"] ["self","voter"] (aq jX):=⟨rfl,rfl,rfl,by decide +kernel,rfl,by decide +kernel,by decide +kernel⟩
noncomputable abbrev o3:P5:=inClass (top 44) 12
theorem va:aB ["self","name"] ["self","name"] (aq o3):=⟨rfl,rfl,rfl,by decide +kernel,rfl,by decide +kernel,by decide +kernel⟩
noncomputable abbrev o4:P5:=top 42
theorem wb:aB ["coins","least"] ["coins","least"] (aq o4):=⟨rfl,rfl,rfl,by decide +kernel,rfl,by decide +kernel,by decide +kernel⟩
noncomputable abbrev o7:P5:=inClass (top 44) 14
theorem wx:aB ["self","part"] ["self","part"] (aq o7):=⟨rfl,rfl,rfl,by decide +kernel,rfl,by decide +kernel,by decide +kernel⟩
noncomputable abbrev qQ:P5:=inClass (top 44) 13
theorem x6:aB ["self","coins"] ["self","coins"] (aq qQ):=⟨rfl,rfl,rfl,by decide +kernel,rfl,by decide +kernel,by decide +kernel⟩
noncomputable abbrev tI:P5:=top 49
theorem A0:aB ["word"] ["word"] (aq tI):=⟨rfl,rfl,rfl,by decide +kernel,rfl,by decide +kernel,by decide +kernel⟩
noncomputable abbrev oH:P5:=top 50
theorem xj:aB ["word"] ["word"] (aq oH):=⟨rfl,rfl,rfl,by decide +kernel,rfl,by decide +kernel,by decide +kernel⟩
noncomputable abbrev zD:P5:=top 59
theorem DW:aB ["chest","deed","word"] ["chest","deed","word"] (aq zD):=⟨rfl,rfl,rfl,by decide +kernel,rfl,by decide +kernel,by decide +kernel⟩
noncomputable abbrev lN:P5:=inClass (top 44) 15
theorem sq:aB ["self","work","cost"] ["self","work","cost"] (aq lN):=⟨rfl,rfl,rfl,by decide +kernel,rfl,by decide +kernel,by decide +kernel⟩
noncomputable abbrev qy:P5:=inClass (top 44) 17
theorem xM:aB ["self","voter","work"] ["self","voter","work"] (aq qy):=⟨rfl,rfl,rfl,by decide +kernel,rfl,by decide +kernel,by decide +kernel⟩
noncomputable abbrev nI:P5:=inClass (top 44) 18
theorem uN:aB ["self","voter","work"] ["self","voter","work"] (aq nI):=⟨rfl,rfl,rfl,by decide +kernel,rfl,by decide +kernel,by decide +kernel⟩
noncomputable abbrev tD:P5:=top 60
theorem An:aB ["chest","deed","word","last"] ["chest","deed","word","last"] (aq tD):=⟨rfl,rfl,rfl,by decide +kernel,rfl,by decide +kernel,by decide +kernel⟩
noncomputable abbrev vG:P5:=inClass (top 61) 1
theorem tq:aB ["self","row","words"] ["self","row"] (aq vG):=⟨rfl,rfl,rfl,by decide +kernel,rfl,by decide +kernel,by decide +kernel⟩
noncomputable abbrev tR:P5:=top 66
theorem dC:aB ["desk","row","caught","answer","e","kinds"] ["desk","row"] (aq tR):=⟨rfl,rfl,rfl,by decide +kernel,rfl,by decide +kernel,by decide +kernel⟩
noncomputable abbrev tV:P5:=top 72
theorem rf:aB ["desk","names","rows"] ["desk","names"] (aq tV):=⟨rfl,rfl,rfl,by decide +kernel,rfl,by decide +kernel,by decide +kernel⟩
noncomputable abbrev jo:P5:=top 70
theorem cU:aB ["xs","names","name","other","good"] ["xs","names"] (aq jo):=⟨rfl,rfl,rfl,by decide +kernel,rfl,by decide +kernel,by decide +kernel⟩
noncomputable abbrev jk:P5:=top 69
theorem b7:aB ["word","x","words","at","some","found"] ["word","x"] (aq jk):=⟨rfl,rfl,rfl,by decide +kernel,rfl,by decide +kernel,by decide +kernel⟩
noncomputable abbrev oU:P5:=top 68
theorem mF:aB ["x","some"] ["x"] (aq oU):=⟨rfl,rfl,rfl,by decide +kernel,rfl,by decide +kernel,by decide +kernel⟩
noncomputable abbrev vH:P5:=top 71
theorem js:aB ["xs","names","name","words","way"] ["xs","names"] (aq vH):=⟨rfl,rfl,rfl,by decide +kernel,rfl,by decide +kernel,by decide +kernel⟩
noncomputable abbrev Cm:P5:=top 73
theorem eT:aB ["script","first","cell","xs","one","other","rows","row","names","number","spins","good","strangers","stranger"] ["script"] (aq Cm):=⟨rfl,rfl,rfl,by decide +kernel,rfl,by decide +kernel,by decide +kernel⟩
structure gT(K:PM):Prop where
 IM:(Ro K (ao K "NoName")).isSome=true
 GQ:mO K (ao K "NoName")
 KN:(Ro K (ao K "Twice")).isSome=true
 JM:mO K (ao K "Twice")
 GA:(Ro K (ao K "NoVoter")).isSome=true
 Ej:mO K (ao K "NoVoter")
 Ih:(Ro K (ao K "NoWork")).isSome=true
 Gx:mO K (ao K "NoWork")
 Gm:(Ro K (ao K "TooMuch")).isSome=true
 Es:mO K (ao K "TooMuch")
 NB:(Ro K (ao K "Full")).isSome=true
 Lx:mO K (ao K "Full")
 KR:(Ro K (ao K "NoRow")).isSome=true
 JI:mO K (ao K "NoRow")
 oB:RP K (.ref (ao K "NoName")) (.ref (ao K "PurseError"))=some true
 oj:Qa K (.ref (ao K "NoName")) (.type "ValueError")=some true
 uB:Qa K (.ref (ao K "NoName")) (.ref (ao K "NoName"))=some true
 xq:Qa K (.ref (ao K "NoName")) (.ref (ao K "Twice"))=some false
 rR:Qa K (.ref (ao K "NoName")) (.ref (ao K "NoVoter"))=some false
 uy:Qa K (.ref (ao K "NoName")) (.ref (ao K "NoWork"))=some false
 r8:Qa K (.ref (ao K "NoName")) (.ref (ao K "TooMuch"))=some false
 yc:Qa K (.ref (ao K "NoName")) (.ref (ao K "Full"))=some false
 xE:Qa K (.ref (ao K "NoName")) (.ref (ao K "NoRow"))=some false
 rZ:Qa K (.ref (ao K "NoName")) (.ref (ao K "NoPaper"))=some false
 pV:RP K (.ref (ao K "Twice")) (.ref (ao K "PurseError"))=some true
 qf:Qa K (.ref (ao K "Twice")) (.type "ValueError")=some true
 xp:Qa K (.ref (ao K "Twice")) (.ref (ao K "NoName"))=some false
 yk:Qa K (.ref (ao K "Twice")) (.ref (ao K "Twice"))=some true
 uc:Qa K (.ref (ao K "Twice")) (.ref (ao K "NoVoter"))=some false
 wD:Qa K (.ref (ao K "Twice")) (.ref (ao K "NoWork"))=some false
 uG:Qa K (.ref (ao K "Twice")) (.ref (ao K "TooMuch"))=some false
 Bo:Qa K (.ref (ao K "Twice")) (.ref (ao K "Full"))=some false
 xY:Qa K (.ref (ao K "Twice")) (.ref (ao K "NoRow"))=some false
 uJ:Qa K (.ref (ao K "Twice")) (.ref (ao K "NoPaper"))=some false
 nF:RP K (.ref (ao K "NoVoter")) (.ref (ao K "PurseError"))=some true
 nk:Qa K (.ref (ao K "NoVoter")) (.type "ValueError")=some true
 sk:Qa K (.ref (ao K "NoVoter")) (.ref (ao K "NoName"))=some false
 uH:Qa K (.ref (ao K "NoVoter")) (.ref (ao K "Twice"))=some false
 qB:Qa K (.ref (ao K "NoVoter")) (.ref (ao K "NoVoter"))=some true
 se:Qa K (.ref (ao K "NoVoter")) (.ref (ao K "NoWork"))=some false
 qZ:Qa K (.ref (ao K "NoVoter")) (.ref (ao K "TooMuch"))=some false
 xm:Qa K (.ref (ao K "NoVoter")) (.ref (ao K "Full"))=some false
 uu:Qa K (.ref (ao K "NoVoter")) (.ref (ao K "NoRow"))=some false
 qL:Qa K (.ref (ao K "NoVoter")) (.ref (ao K "NoPaper"))=some false
 ou:RP K (.ref (ao K "NoWork")) (.ref (ao K "PurseError"))=some true
 ot:Qa K (.ref (ao K "NoWork")) (.type "ValueError")=some true
 uv:Qa K (.ref (ao K "NoWork")) (.ref (ao K "NoName"))=some false
 wR:Qa K (.ref (ao K "NoWork")) (.ref (ao K "Twice"))=some false
 sm:Qa K (.ref (ao K "NoWork")) (.ref (ao K "NoVoter"))=some false
 uL:Qa K (.ref (ao K "NoWork")) (.ref (ao K "NoWork"))=some true
 sF:Qa K (.ref (ao K "NoWork")) (.ref (ao K "TooMuch"))=some false
 xV:Qa K (.ref (ao K "NoWork")) (.ref (ao K "Full"))=some false
 wF:Qa K (.ref (ao K "NoWork")) (.ref (ao K "NoRow"))=some false
 sS:Qa K (.ref (ao K "NoWork")) (.ref (ao K "NoPaper"))=some false
 mX:RP K (.ref (ao K "TooMuch")) (.ref (ao K "PurseError"))=some true
 nM:Qa K (.ref (ao K "TooMuch")) (.type "ValueError")=some true
 sV:Qa K (.ref (ao K "TooMuch")) (.ref (ao K "NoName"))=some false
 ub:Qa K (.ref (ao K "TooMuch")) (.ref (ao K "Twice"))=some false
 ra:Qa K (.ref (ao K "TooMuch")) (.ref (ao K "NoVoter"))=some false
 rQ:Qa K (.ref (ao K "TooMuch")) (.ref (ao K "NoWork"))=some false
 qN:Qa K (.ref (ao K "TooMuch")) (.ref (ao K "TooMuch"))=some true
 vz:Qa K (.ref (ao K "TooMuch")) (.ref (ao K "Full"))=some false
 uD:Qa K (.ref (ao K "TooMuch")) (.ref (ao K "NoRow"))=some false
 rn:Qa K (.ref (ao K "TooMuch")) (.ref (ao K "NoPaper"))=some false
 rq:RP K (.ref (ao K "Full")) (.ref (ao K "PurseError"))=some true
 qt:Qa K (.ref (ao K "Full")) (.type "ValueError")=some true
 yx:Qa K (.ref (ao K "Full")) (.ref (ao K "NoName"))=some false
 AY:Qa K (.ref (ao K "Full")) (.ref (ao K "Twice"))=some false
 vQ:Qa K (.ref (ao K "Full")) (.ref (ao K "NoVoter"))=some false
 xZ:Qa K (.ref (ao K "Full")) (.ref (ao K "NoWork"))=some false
 vy:Qa K (.ref (ao K "Full")) (.ref (ao K "TooMuch"))=some false
 Cr:Qa K (.ref (ao K "Full")) (.ref (ao K "Full"))=some true
 Ag:Qa K (.ref (ao K "Full")) (.ref (ao K "NoRow"))=some false
 u6:Qa K (.ref (ao K "Full")) (.ref (ao K "NoPaper"))=some false
 pW:RP K (.ref (ao K "NoRow")) (.ref (ao K "PurseError"))=some true
 pG:Qa K (.ref (ao K "NoRow")) (.type "ValueError")=some true
 vV:Qa K (.ref (ao K "NoRow")) (.ref (ao K "NoName"))=some false
 yC:Qa K (.ref (ao K "NoRow")) (.ref (ao K "Twice"))=some false
 uR:Qa K (.ref (ao K "NoRow")) (.ref (ao K "NoVoter"))=some false
 xr:Qa K (.ref (ao K "NoRow")) (.ref (ao K "NoWork"))=some false
 uC:Qa K (.ref (ao K "NoRow")) (.ref (ao K "TooMuch"))=some false
 zP:Qa K (.ref (ao K "NoRow")) (.ref (ao K "Full"))=some false
 yo:Qa K (.ref (ao K "NoRow")) (.ref (ao K "NoRow"))=some true
 uk:Qa K (.ref (ao K "NoRow")) (.ref (ao K "NoPaper"))=some false
 aI:L2.gT K (ao K "Chest")
 aS:df K (ao K "Chest") "purses"
 bJ:df K (ao K "Chest") "costs"
 bQ:df K (ao K "Chest") "wishes"
 cB:df K (ao K "Chest") "unshared"
 jS:df K (ao K "Chest") "gifts"
 iJ:df K (ao K "Chest") "outlay"
 zO:L2.gT K (ao K "Desk")
 hJ:df K (ao K "Desk") "chest"
noncomputable def mM(K:PM):TS:=
 (aE (px (dv K (uX (qp K) (af 0) (dz (af 1)) (dz (aN gW (af 1) (tC (.int 1)))))) (au 2) (bB (af 2)))
  (bB (tC (.int 0))))
noncomputable def jQ(K:PM):TS:=
 (aE (bG (cH az) (au 2))
  (aE (px (nK (ae (af 1) az)) (au 3) (aE (bG (aN gW (aN gW (aN oMod (af 0) (tC (.int 900900929))) (aN rH (tC (.int 2503)) (af 3))) (tC (.int 77))) (au 4))
  (cS (Dk K "list" lD (af 2) (ae (aN oMod (aN oDiv (aN rH (aN rH (af 4) (af 4)) (aN gW (af 4) (aN rH (tC (.int 31)) (af 3)))) (tC (.int 13))) (tC (.int 700700003))) az)))))
  (bB (af 2))))
noncomputable def fi(K:PM):TS:=
 (aE (rG K (af 0) AR "purses")
  (aE (rG K (af 0) AR "costs")
  (aE (rG K (af 0) (cH az) "wishes")
  (aE (rG K (af 0) (tC (.int 0)) "unshared")
  (aE (rG K (af 0) (tC (.int 0)) "gifts")
  (rG K (af 0) (tC (.int 0)) "outlay"))))))
noncomputable def gd(K:PM):TS:=
 (rG K (af 0) (yW (ao K "Chest") (fI K) [] E0 az) "chest")
noncomputable def lK(K:PM):TS:=
 (aE (bG (tC (.str "abcdefghijklmnopqrstuvwxyz")) (au 2))
  (aE (bG (bf (eE K) [] E0 (ae (af 0) (ae (tC (.int 9)) az))) (au 3))
  (aE (bG (Dk K "str" (rJoin K) (tC (.str "")) (ae (bP [none,some 2] (dv K (uX (qp K) (af 3) cy (dz (tC (.int 7))))) (au 0) du (aN uP (af 1) (aN oMod (af 0) (tC (.int 26))))) az)) (au 4))
  (aE (cm (bA (aN oC (aN oMod (aN (cu K) (af 3) (tC (.int 8))) (tC (.int 4))) (tC (.int 0)))) (bB (aN dh (aN uP (af 2) (aN oMod (aN gW (aN (cu K) (af 3) (tC (.int 7))) (aN oDiv (af 1) (tC (.int 8)))) (tC (.int 26)))) (uX qx (af 4) cy (dz (aN oMod (af 1) (tC (.int 8))))))) bS)
  (aE (cm (bA (aN oC (aN oMod (aN (cu K) (af 3) (tC (.int 8))) (tC (.int 4))) (tC (.int 1)))) (bB (aN dh (uX qx (af 4) (dz (aN CS (tC (.int 7)) (aN oMod (af 1) (tC (.int 8))))) cy) (aN uP (af 2) (aN oMod (aN gW (aN (cu K) (af 3) (tC (.int 7))) (aN oDiv (af 1) (tC (.int 8)))) (tC (.int 26)))))) bS)
  (aE (bG (uX qx (af 4) cy (dz (aN oMod (aN oDiv (aN (cu K) (af 3) (tC (.int 8))) (tC (.int 4))) (tC (.int 8))))) (au 4))
  (aE (bG (aN oMod (aN oDiv (aN (cu K) (af 3) (tC (.int 8))) (tC (.int 32))) (aN gW (gr ve (ae (af 4) az)) (tC (.int 1)))) (au 5))
  (bB (aN dh (aN dh (uX qx (af 4) cy (dz (af 5))) (aN uP (af 2) (aN oMod (aN gW (aN (cu K) (af 3) (tC (.int 7))) (af 1)) (tC (.int 26))))) (uX qx (af 4) (dz (af 5)) cy))))))))))
noncomputable def fz(K:PM):TS:=
 (aE (bG (bP [none,some 1] (nK (ae (aN gW (tC (.int 1)) (aN oMod (aN (cu K) (af 0) (tC (.int 0))) (tC (.int 6)))) az)) (au 0) du (bf (dD K) [] E0 (ae (af 1) (ae (af 0) az)))) (au 2))
  (aE (bG (bP [none,some 1] (nK (ae (aN gW (tC (.int 1)) (aN oMod (aN (cu K) (af 0) (tC (.int 1))) (tC (.int 6)))) az)) (au 0) du (bf (dD K) [] E0 (ae (aN oDiv (af 1) (tC (.int 3))) (ae (af 0) az)))) (au 3))
  (aE (bG (aN g9 (bP [none] (dv K (af 2)) (au 0) du (aN dh (tC (.str "enrol ")) (af 0))) (cH (ae (aN dh (tC (.str "give ")) (gr qG (ae (aN oMod (aN (cu K) (af 0) (tC (.int 2))) (tC (.int 500))) az))) az))) (au 4))
  (aE (bG (aN g9 (af 4) (bP [none,some 3,some 0] (nK (ae (gr (gQ K) (ae (af 3) az)) az)) (au 0) du (aN dh (aN dh (aN dh (tC (.str "propose ")) (aN (cu K) (af 1) (af 0))) (tC (.str " "))) (gr qG (ae (aN gW (tC (.int 1)) (aN oMod (aN (cu K) (af 2) (aN gW (tC (.int 3)) (af 0))) (tC (.int 90)))) az))))) (au 4))
  (aE (px (nK (ae (gr (gQ K) (ae (af 2) az)) az)) (au 5) (px (nK (ae (gr (gQ K) (ae (af 3) az)) az)) (au 6) (cm (bA (aN oC (aN oMod (aN oDiv (aN (cu K) (af 0) (aN gW (tC (.int 9)) (aN oMod (aN gW (af 5) (af 6)) (tC (.int 6))))) (aN gW (af 5) (tC (.int 1)))) (tC (.int 2))) (tC (.int 0)))) (cS (Dk K "list" lD (af 4) (ae (aN dh (aN dh (aN dh (tC (.str "want ")) (aN (cu K) (af 2) (af 5))) (tC (.str " "))) (aN (cu K) (af 3) (af 6))) az))) bS)))
  (bB (af 4)))))))
noncomputable def jI(K:PM)(E:XK):TS:=
 (aE (bG (Dk K "str" JC (af 0) (ae (tC (.str " ")) az)) (au 1))
  (aE (cm (bA (aN (Hw K false) (tC (.str "")) (af 1))) (eJ (ao K "NoRow") E (ae (zH [(tC (.str "no row: ")),(oF (af 0))] Qp) az)) bS)
  (bB (af 1))))
noncomputable def fj(K:PM):TS:=
 (aE (bG (af 0) (au 2))
  (aE (D5 (bA (aN LS (aN oMod (af 2) (af 1)) (tC (.int 0)))) (Ef 2 (af 0) gW))
  (bB (af 2))))
noncomputable def mR(K:PM):TS:=
 (aE (bG (tC (.int 1)) (au 1))
  (aE (px (Fe (ae (tC (.int 1)) (ae (aN gW (af 0) (tC (.int 1))) az))) (au 2) (bG (bf (fL K) [] E0 (ae (af 1) (ae (af 2) az))) (au 1)))
  (bB (af 1))))
noncomputable def kY(K:PM):TS:=
 (aE (bG (bf (m9 K) [] E0 (ae (af 0) az)) (au 2))
  (aE (bG (af 2) (au 3))
  (aE (px (nK (ae (af 1) az)) (au 4) (Ef 3 (af 2) rH))
  (bB (af 3)))))
noncomputable def pB(K:PM):TS:=
 (bB (gr (Gh K) (ae (bP [none,none,none,some 1] (dv K (af 0)) (fZ K 3 (bz (au 0) (bz (au 1) (bz (au 2) fS)))) du (aN (cu K) (af 2) (af 3))) az)))
noncomputable def qd(K:PM):TS:=
 (bB (bP [none,none,some 1] (wC K (af 0)) (fZ K 2 (bz (au 0) (bz (au 1) fS))) du (aN CS (af 1) (bf (pq K) [] E0 (ae (af 2) (ae (af 0) az))))))
noncomputable def kD(K:PM):TS:=
 (aE (bG (bf (hW K) [] E0 (ae (gr (gQ K) (ae (af 1) az)) (ae (gr (gQ K) (ae (af 0) az)) az))) (au 2))
  (bB (bP [none,some 2] (dv K (af 0)) (au 0) du (aN rH (af 0) (af 1)))))
noncomputable def jL(K:PM):TS:=
 (bB (aN oDiv (aN CS (aN gW (af 0) (af 1)) (tC (.int 1))) (af 1)))
noncomputable def kR(K:PM):TS:=
 (aE (cm (bA (aN oLt (gr (Gh K) (ae (af 0) az)) (af 1))) (bB (tC .non)) bS)
  (aE (bG (af 1) (au 2))
  (aE (bG (gr (gQ K) (ae (af 0) az)) (au 3))
  (aE (px (dv K (gr (Fd K) (ae (af 0) az))) (au 4) (aE (cm (bA (aN OU (aN rH (af 4) (af 3)) (af 2))) (bB (bf (jM K) [] E0 (ae (af 2) (ae (af 3) az)))) bS)
  (aE (Ef 2 (af 4) CS)
  (Ef 3 (tC (.int 1)) CS))))
  (bB (tC (.int 0)))))))
noncomputable def ly(K:PM):TS:=
 (bB (gr (J7 K) (ae (bP [none,some 0] (dv K (af 1)) (au 0) du (aN (Hw K false) (af 0) (af 1))) az)))
noncomputable def kI(K:PM):TS:=
 (bB (bP [none,none,some 1] (wC K (af 0)) (fZ K 2 (bz (au 0) (bz (au 1) fS))) (tB (bf (ku K) [] E0 (ae (af 1) (ae (af 2) az)))) (af 0)))
noncomputable def jN(K:PM):TS:=
 (bB (bf (kL K) [] E0 (ae (af 0) (ae (cH (ae (af 1) az)) az))))
noncomputable def mx(K:PM):TS:=
 (bB (bf (kn K) [] E0 (ae (bP [none,some 0] (dv K (bf (gq K) [] E0 (ae (af 1) (ae (af 2) az)))) (au 0) du (aN (cu K) (af 1) (af 0))) (ae (af 3) az))))
noncomputable def k9(K:PM):TS:=
 (aE (bG (cH az) (au 4))
  (aE (px (wC K (bf (ke K) [] E0 (ae (af 1) (ae (af 2) az)))) (fZ K 2 (bz (au 5) (bz (au 6) fS))) (cS (Dk K "list" lD (af 4) (ae (OD (bA (aN (Hw K false) (af 5) (af 3))) (tC .non) (bf (mD K) [] E0 (ae (af 0) (ae (af 2) (ae (af 5) (ae (af 6) az)))))) az))))
  (bB (af 4))))
noncomputable def pD(K:PM):TS:=
 (aE (bG (tC .non) (au 1))
  (aE (px (wC K (af 0)) (fZ K 2 (bz (au 2) (bz (au 3) fS))) (cm (HR (bA (aN IL (af 3) (tC .non))) (Ou (bA (aN Kj (af 1) (tC .non))) (bA (aN oLt (af 3) (aN (cu K) (af 0) (af 1)))))) (bG (af 2) (au 1)) bS))
  (bB (af 1))))
noncomputable def nB(K:PM):TS:=
 (bB (gr (Fd K) (ae (bP [none,none,none] (dv K (af 0)) (fZ K 3 (bz (au 0) (bz (au 1) (bz (au 2) fS)))) du (af 0)) az)))
noncomputable def pZ(K:PM):TS:=
 (bB (bP [none,some 1] (dv K (af 0)) (au 0) du (gr NV (ae (af 0) (ae (af 1) az)))))
noncomputable def iZ(K:PM):TS:=
 (aE (bG (bf (gq K) [] E0 (ae (af 1) (ae (af 2) az))) (au 4))
  (bB (bP [none,none,some 4] (wC K (bf (pY K) [] E0 (ae (af 0) (ae (af 3) az)))) (fZ K 2 (bz (au 0) (bz (au 1) fS))) du (OD (bA (aN (Hw K false) (af 0) (af 2))) (af 1) (tC (.int 0))))))
noncomputable def i5(K:PM):TS:=
 (aE (bG (bf (kF K) [] E0 (ae (af 0) (ae (af 3) az))) (au 4))
  (aE (bG (bf (kj K) [] E0 (ae (af 4) (ae (af 1) (ae (af 2) (ae (bf (mE K) [] E0 (ae (af 3) az)) az))))) (au 5))
  (aE (bG (bf (pL K) [] E0 (ae (af 5) az)) (au 6))
  (aE (cm (bA (aN Kj (af 6) (tC .non))) (bB (tC .non)) bS)
  (aE (bG (aN (cu K) (af 5) (af 6)) (au 7))
  (bB (om (ae (af 6) (ae (af 7) (ae (bf (iG K) [] E0 (ae (af 4) (ae (af 2) (ae (af 6) (ae (af 7) az))))) az))))))))))
noncomputable def sG(K:PM):TS:=
 (aE (bG (cH az) (au 3))
  (aE (bG (bf (d0 K) [] E0 (ae (af 0) (ae (af 1) (ae (af 2) (ae (af 3) az))))) (au 4))
  (aE (D5 (bA (aN IL (af 4) (tC .non))) (aE (cS (Dk K "list" lD (af 3) (ae (af 4) az)))
  (bG (bf (d0 K) [] E0 (ae (af 0) (ae (af 1) (ae (af 2) (ae (af 3) az))))) (au 4))))
  (bB (af 3)))))
noncomputable def eu(K:PM):TS:=
 (aE (ju K (af 0) (aN oDiv (gr (Gh K) (ae (bP [none,some 2] (dv K (af 1)) (au 0) du (aN oMod (af 0) (af 1))) az)) (af 2)) F4 "unshared")
  (rG K (af 0) (Ed K (ae (c7 K (af 0) "purses") (ae (bP [none,some 2] (dv K (af 1)) (au 0) du (aN oDiv (af 0) (af 1))) az))) "purses"))
noncomputable def dB(K:PM):TS:=
 (bB (gR (bP [none,none,some 1,some 0] (D9 (c7 K (af 0) "costs")) (fZ K 2 (bz (au 0) (bz (au 1) fS))) (bA (aN (F1 K false) (om (ae (af 2) (ae (af 1) az))) (c7 K (af 3) "wishes"))) (af 0))))
noncomputable def eO(K:PM):TS:=
 (aE (bG (aN (cu K) (gr HS (ae (c7 K (af 0) "costs") az)) (af 1)) (au 3))
  (aE (bG (gR (bP [none,none] (IZ K (ae (c7 K (af 0) "purses") (ae (af 2) az))) (fZ K 2 (bz (au 0) (bz (au 1) fS))) (bA (aN OR (af 1) (tC (.int 0)))) (om (ae (af 0) (ae (af 1) az))))) (au 4))
  (bB (om (ae (af 3) (ae (FG (c7 K (af 0) "costs") (af 3)) (ae (af 4) az)))))))
noncomputable def eB(K:PM)(E:XK):TS:=
 (cm (tB (uV (af 1) (c7 K (af 0) "costs"))) (eJ (ao K "NoWork") E (ae (zH [(tC (.str "no work: ")),(oF (af 1))] Qp) az)) bS)
noncomputable def fk(K:PM)(E:XK):TS:=
 (aE (cS (cD (ao K "Chest") "check_work" (cM K) [] E (af 0) (ae (af 1) az)))
  (aE (cS (z9 (c7 K (af 0) "costs") (af 1)))
  (rG K (af 0) (bP [none,none,some 1] (dv K (c7 K (af 0) "wishes")) (fZ K 2 (bz (au 0) (bz (au 1) fS))) (bA (aN LS (af 1) (af 2))) (om (ae (af 0) (ae (af 1) az)))) "wishes")))
noncomputable def je(K:PM):TS:=
 (aE (cm (Ou (BN (Oq (c7 K (af 0) "purses"))) (BN (Oq (c7 K (af 0) "costs")))) (bB (om (ae (cH az) (ae (tC (.int 1)) az)))) bS)
  (aE (bG (bf (hW K) [] E0 (ae (gr xo (ae (c7 K (af 0) "purses") az)) (ae (gr xo (ae (c7 K (af 0) "costs") az)) az))) (au 1))
  (aE (bG (gR (bP [none,some 1] (HD (c7 K (af 0) "purses")) (au 0) du (aN rH (af 0) (af 1)))) (au 2))
  (aE (bG (gR (bP [none,some 0] (CJ (c7 K (af 0) "purses")) (au 0) du (cD (ao K "Chest") "wanted_places" (dF K) [] E0 (af 1) (ae (af 0) az)))) (au 3))
  (aE (bG (bf (sr K) [] E0 (ae (af 2) (ae (gr Ce (ae (JE K "dict" HJ (c7 K (af 0) "costs")) az)) (ae (af 3) az)))) (au 4))
  (aE (bG (bP [none,none,none,some 0] (dv K (af 4)) (fZ K 3 (bz (au 0) (bz (au 1) (bz (au 2) fS)))) du (cD (ao K "Chest") "told_step" (eU K) [] E0 (af 3) (ae (af 0) (ae (af 2) az)))) (au 5))
  (aE (cS (cD (ao K "Chest") "keep_coins" (eA K) [] E0 (af 0) (ae (bf (kF K) [] E0 (ae (af 2) (ae (af 4) az))) (ae (af 1) az))))
  (aE (px (dv K (af 5)) (fZ K 3 (bz (au 6) (bz (au 7) (bz (au 8) fS)))) (aE (ju K (af 0) (af 7) F4 "outlay")
  (cS (cD (ao K "Chest") "withdraw" (dP K) [] E0 (af 0) (ae (af 6) az)))))
  (bB (om (ae (af 5) (ae (af 1) az))))))))))))
noncomputable def kP(K:PM):TS:=
 (bB (Dk K "str" (rJoin K) (tC (.str ", ")) (ae (bP [none,none] (dv K (af 0)) (fZ K 2 (bz (au 0) (bz (au 1) fS))) du (zH [(sY (af 0)),(tC (.str " ")),(xS (af 1))] Qp)) az)))
noncomputable def kJ(K:PM):TS:=
 (aE (bG (bf (lz K) [] E0 (ae (af 2) az)) (au 3))
  (bB (zH [(sY (af 0)),(tC (.str " ")),(xS (af 1)),(tC (.str ": ")),(sY (af 3))] Qp)))
noncomputable def gN(K:PM):TS:=
 (aE (cm (BN (OQ K (af 0))) (bB (tC (.str "none"))) bS)
  (aE (bG (Dk K "str" (rJoin K) (tC (.str "; ")) (ae (bP [none,none,none] (dv K (af 0)) (fZ K 3 (bz (au 0) (bz (au 1) (bz (au 2) fS)))) du (bf (kK K) [] E0 (ae (af 0) (ae (af 1) (ae (af 2) az))))) az)) (au 2))
  (bB (zH [(sY (af 2)),(tC (.str " of ")),(xS (af 1))] Qp))))
noncomputable def iH(K:PM):TS:=
 (aE (bG (cD (ao K "Chest") "close" (iO K) [] E0 (af 0) az) (au 1))
  (bB (bf (gO K) [] E0 (ae (aN (Lo K) (af 1) (tC (.int 0))) (ae (aN (Lo K) (af 1) (tC (.int 1))) az)))))
noncomputable def kq(K:PM):TS:=
 (aE (bG (OD (OQ K (af 2)) (Dk K "str" (rJoin K) (tC (.str "+")) (ae (af 2) az)) (tC (.str "-"))) (au 3))
  (bB (zH [(sY (af 0)),(tC (.str " ")),(xS (af 1)),(tC (.str " ")),(sY (af 3))] Qp)))
noncomputable def jK(K:PM):TS:=
 (aE (cm (BN (OQ K (af 0))) (bB (tC (.str "none"))) bS)
  (bB (Dk K "str" (rJoin K) (tC (.str ", ")) (ae (bP [none,none,none] (dv K (af 0)) (fZ K 3 (bz (au 0) (bz (au 1) (bz (au 2) fS)))) du (bf (kB K) [] E0 (ae (af 0) (ae (af 1) (ae (af 2) az))))) az))))
noncomputable def fW(K:PM):TS:=
 (bB (gR (bP [none,some 1,some 0] (CJ (c7 K (af 0) "purses")) (au 0) (bA (aN (F1 K false) (om (ae (af 0) (ae (af 1) az))) (c7 K (af 2) "wishes"))) (af 0))))
noncomputable def iP(K:PM):TS:=
 (bB (gR (bP [none,none,some 0] (vp (c7 K (af 0) "costs")) (fZ K 2 (bz (au 0) (bz (au 1) fS))) du (om (ae (af 0) (ae (af 1) (ae (cD (ao K "Chest") "wanters" (gb K) [] E0 (af 2) (ae (af 0) az)) az)))))))
noncomputable def kr(K:PM):TS:=
 (bB (c7 K (af 0) "unshared"))
noncomputable def i7(K:PM):TS:=
 (bB (c7 K (af 0) "gifts"))
noncomputable def jg(K:PM):TS:=
 (bB (c7 K (af 0) "outlay"))
noncomputable def pQ(K:PM)(E:XK):TS:=
 (aE (cm (bA (aN oC (af 1) (tC (.str "close")))) (bB (bf (iS K) [] E0 (ae (af 0) az))) bS)
  (aE (cm (bA (aN oC (af 1) (tC (.str "works")))) (bB (bf (jD K) [] E0 (ae (cD (ao K "Chest") "works" (iq K) [] E0 (af 0) az) az))) bS)
  (aE (cm (bA (aN oC (af 1) (tC (.str "pot")))) (bB (gr qG (ae (cD (ao K "Chest") "pot" (lI K) [] E0 (af 0) az) az))) bS)
  (aE (cm (bA (aN oC (af 1) (tC (.str "given")))) (bB (gr qG (ae (cD (ao K "Chest") "given" (jc K) [] E0 (af 0) az) az))) bS)
  (aE (cm (bA (aN oC (af 1) (tC (.str "spent")))) (bB (gr qG (ae (cD (ao K "Chest") "spent" (ja K) [] E0 (af 0) az) az))) bS)
  (eJ (ao K "NoRow") E (ae (zH [(tC (.str "no row of one word: ")),(oF (af 1))] Qp) az)))))))
noncomputable def pI(K:PM):TS:=
 (bB (Fs (Bi oLe oLe (tC (.int 1)) (gr ve (ae (af 0) az)) (tC (.int 8))) (gr (J7 K) (ae (bP [none] (EU (af 0)) (au 0) du (aN Jx (af 0) (tC (.str "abcdefghijklmnopqrstuvwxyz")))) az))))
noncomputable def fF(K:PM)(E:XK):TS:=
 (aE (cm (BN (tB (bf (pJ K) [] E0 (ae (af 0) az)))) (eJ (ao K "NoName") E (ae (zH [(tC (.str "no name: ")),(oF (af 0))] Qp) az)) bS)
  (cm (tB (Nd (af 0) (af 1))) (eJ (ao K "Twice") E (ae (zH [(tC (.str "there already: ")),(sY (af 0))] Qp) az)) bS))
noncomputable def ir(K:PM)(E:XK):TS:=
 (cm (bA (aN OU (gr xo (ae (af 0) az)) (af 1))) (eJ (ao K "Full") E (ae (zH [(tC (.str "there are ")),(xS (af 1)),(tC (.str " already"))] Qp) az)) bS)
noncomputable def iR(K:PM)(E:XK):TS:=
 (aE (cS (bf (dR K) [] E (ae (af 1) (ae (c7 K (af 0) "purses") az))))
  (aE (cS (bf (fH K) [] E (ae (c7 K (af 0) "purses") (ae (tC (.int 20)) az))))
  (FJ (c7 K (af 0) "purses") (af 1) (tC (.int 0)))))
noncomputable def d5(K:PM)(E:XK):TS:=
 (cm (tB (uV (af 1) (c7 K (af 0) "purses"))) (eJ (ao K "NoVoter") E (ae (zH [(tC (.str "no voter: ")),(oF (af 1))] Qp) az)) bS)
noncomputable def fG(K:PM)(E:XK):TS:=
 (aE (cS (cD (ao K "Chest") "check_voter" (cg K) [] E (af 0) (ae (af 1) az)))
  (bB (FG (c7 K (af 0) "purses") (af 1))))
noncomputable def i0(K:PM)(E:XK):TS:=
 (aE (cS (cD (ao K "Chest") "check_voter" (cg K) [] E (af 0) (ae (af 1) az)))
  (aE (ju K (af 0) (z9 (c7 K (af 0) "purses") (af 1)) F4 "unshared")
  (rG K (af 0) (bP [none,none,some 1] (dv K (c7 K (af 0) "wishes")) (fZ K 2 (bz (au 0) (bz (au 1) fS))) (bA (aN LS (af 0) (af 2))) (om (ae (af 0) (ae (af 1) az)))) "wishes")))
noncomputable def jf(K:PM)(E:XK):TS:=
 (cm (Ou (bA (aN oLt (af 0) (af 1))) (bA (aN OR (af 0) (tC (.int 1000000000))))) (eJ (ao K "TooMuch") E (ae (zH [(tC (.str "not from ")),(xS (af 1)),(tC (.str " to ")),(xS (tC (.int 1000000000))),(tC (.str " coins"))] Qp) az)) bS)
noncomputable def jb(K:PM):TS:=
 (aE (ju K (af 0) (aN rH (af 1) (gr xo (ae (c7 K (af 0) "purses") az))) NL "unshared")
  (rG K (af 0) (gr (Jz K) (ae (gR (bP [none,none,some 1] (vp (c7 K (af 0) "purses")) (fZ K 2 (bz (au 0) (bz (au 1) fS))) du (om (ae (af 0) (ae (aN gW (af 1) (af 2)) az))))) az)) "purses"))
noncomputable def jJ(K:PM)(E:XK):TS:=
 (aE (cS (bf (fv K) [] E (ae (af 1) (ae (tC (.int 0)) az))))
  (aE (ju K (af 0) (af 1) F4 "gifts")
  (aE (ju K (af 0) (af 1) F4 "unshared")
  (cm (Oq (c7 K (af 0) "purses")) (cS (cD (ao K "Chest") "share" (iF K) [] E0 (af 0) (ae (aN oDiv (c7 K (af 0) "unshared") (gr xo (ae (c7 K (af 0) "purses") az))) az))) bS))))
noncomputable def kU(K:PM):TS:=
 (aE (cm (tB (Dk K "str" uZ (af 0) (ae (tC (.str "0")) az))) (bB (aN oC (af 0) (tC (.str "0")))) bS)
  (bB (Fs (Bi oLe oLe (tC (.int 1)) (gr ve (ae (af 0) az)) (tC (.int 13))) (gr (J7 K) (ae (bP [none] (EU (af 0)) (au 0) du (aN Jx (af 0) (tC (.str "0123456789")))) az)))))
noncomputable def iY(K:PM)(E:XK):TS:=
 (aE (cm (BN (tB (bf (kC K) [] E0 (ae (af 0) az)))) (eJ (ao K "NoRow") E (ae (zH [(tC (.str "no number: ")),(oF (af 0))] Qp) az)) bS)
  (bB (gr BC (ae (af 0) az))))
noncomputable def pS(K:PM)(E:XK):TS:=
 (aE (cm (bA (aN oC (af 1) (tC (.str "purse")))) (bB (gr qG (ae (cD (ao K "Chest") "purse_of" (fK K) [] E (af 0) (ae (af 2) az)) az))) bS)
  (aE (cm (bA (aN oC (af 1) (tC (.str "enrol")))) (cS (cD (ao K "Chest") "enrol" (i9 K) [] E (af 0) (ae (af 2) az))) (cm (bA (aN oC (af 1) (tC (.str "leave")))) (cS (cD (ao K "Chest") "leave" (iu K) [] E (af 0) (ae (af 2) az))) (cm (bA (aN oC (af 1) (tC (.str "give")))) (cS (cD (ao K "Chest") "give" (jG K) [] E (af 0) (ae (bf (fJ K) [] E (ae (af 2) az)) az))) (cm (bA (aN oC (af 1) (tC (.str "withdraw")))) (cS (cD (ao K "Chest") "withdraw" (dP K) [] E (af 0) (ae (af 2) az))) (eJ (ao K "NoRow") E (ae (zH [(tC (.str "no row of two words: ")),(oF (af 1))] Qp) az))))))
  (bB (tC (.str "ok")))))
noncomputable def gg(K:PM)(E:XK):TS:=
 (aE (cS (bf (dR K) [] E (ae (af 1) (ae (c7 K (af 0) "costs") az))))
  (aE (cS (bf (fv K) [] E (ae (af 2) (ae (tC (.int 1)) az))))
  (aE (cS (bf (fH K) [] E (ae (c7 K (af 0) "costs") (ae (tC (.int 12)) az))))
  (FJ (c7 K (af 0) "costs") (af 1) (af 2)))))
noncomputable def jT(K:PM)(E:XK):TS:=
 (aE (cS (cD (ao K "Chest") "check_voter" (cg K) [] E (af 0) (ae (af 1) az)))
  (aE (cS (cD (ao K "Chest") "check_work" (cM K) [] E (af 0) (ae (af 2) az)))
  (cm (bA (aN (F1 K true) (om (ae (af 1) (ae (af 2) az))) (c7 K (af 0) "wishes"))) (cS (Dk K "list" lD (c7 K (af 0) "wishes") (ae (om (ae (af 1) (ae (af 2) az))) az))) bS)))
noncomputable def gM(K:PM)(E:XK):TS:=
 (aE (cS (cD (ao K "Chest") "check_voter" (cg K) [] E (af 0) (ae (af 1) az)))
  (aE (cS (cD (ao K "Chest") "check_work" (cM K) [] E (af 0) (ae (af 2) az)))
  (rG K (af 0) (bP [none,some 1,some 2] (dv K (c7 K (af 0) "wishes")) (au 0) (bA (aN (wZ K true) (af 0) (om (ae (af 1) (ae (af 2) az))))) (af 0)) "wishes")))
noncomputable def kS(K:PM)(E:XK):TS:=
 (aE (cm (bA (aN oC (af 1) (tC (.str "propose")))) (cS (cD (ao K "Chest") "propose" (gm K) [] E (af 0) (ae (af 2) (ae (bf (fJ K) [] E (ae (af 3) az)) az)))) (cm (bA (aN oC (af 1) (tC (.str "want")))) (cS (cD (ao K "Chest") "want" (jF K) [] E (af 0) (ae (af 2) (ae (af 3) az)))) (cm (bA (aN oC (af 1) (tC (.str "unwant")))) (cS (cD (ao K "Chest") "unwant" (gG K) [] E (af 0) (ae (af 2) (ae (af 3) az)))) (eJ (ao K "NoRow") E (ae (zH [(tC (.str "no row of three words: ")),(oF (af 1))] Qp) az)))))
  (bB (tC (.str "ok"))))
noncomputable def nR(K:PM)(E:XK):TS:=
 (aE (bG (bf (jO K) [] E (ae (af 1) az)) (au 2))
  (aE (cm (bA (aN oC (gr (gQ K) (ae (af 2) az)) (tC (.int 1)))) (bB (bf (pA K) [] E (ae (c7 K (af 0) "chest") (ae (aN (cu K) (af 2) (tC (.int 0))) az)))) bS)
  (aE (cm (bA (aN oC (gr (gQ K) (ae (af 2) az)) (tC (.int 2)))) (bB (bf (pN K) [] E (ae (c7 K (af 0) "chest") (ae (aN (cu K) (af 2) (tC (.int 0))) (ae (aN (cu K) (af 2) (tC (.int 1))) az))))) bS)
  (aE (cm (bA (aN oC (gr (gQ K) (ae (af 2) az)) (tC (.int 3)))) (bB (bf (lE K) [] E (ae (c7 K (af 0) "chest") (ae (aN (cu K) (af 2) (tC (.int 0))) (ae (aN (cu K) (af 2) (tC (.int 1))) (ae (aN (cu K) (af 2) (tC (.int 2))) az)))))) bS)
  (eJ (ao K "NoRow") E (ae (zH [(tC (.str "too many words: ")),(oF (af 1))] Qp) az))))))
noncomputable def kg(K:PM):TS:=
 (aE (bG (tC .non) (au 2))
  (aE (bG (tC .non) (au 3))
  (aE (Fo K (.ref (ao K "PurseError")) 4 3 (fun E=>cD (ao K "Desk") "say" (jq K) [] E (af 0) (ae (af 1) az)) (bG (af 4) (au 2)))
  (aE (cm (bA (aN Kj (af 2) (tC .non))) (bB (af 3)) bS)
  (aE (bG (cH (ae (gr (yz K) (ae (af 2) (ae (tC (.ref (ao K "NoRow"))) az))) (ae (gr (yz K) (ae (af 2) (ae (tC (.ref (ao K "NoVoter"))) az))) (ae (gr (yz K) (ae (af 2) (ae (tC (.ty "ValueError")) az))) az)))) (au 5))
  (aE (bG (aN g9 (af 5) (cH (ae (gr (yz K) (ae (af 2) (ae (tC (.ref (ao K "NoName"))) az))) (ae (gr (yz K) (ae (af 2) (ae (tC (.ref (ao K "Twice"))) az))) (ae (gr (yz K) (ae (af 2) (ae (tC (.ref (ao K "NoWork"))) az))) az))))) (au 5))
  (bB (aN g9 (af 5) (cH (ae (gr (yz K) (ae (af 2) (ae (tC (.ref (ao K "TooMuch"))) az))) (ae (gr (yz K) (ae (af 2) (ae (tC (.ref (ao K "Full"))) az))) (ae (gr (yz K) (ae (af 2) (ae (tC (.ref (ao K "NoPaper"))) az))) az))))))))))))
noncomputable def kx(K:PM):TS:=
 (aE (bG (aN g9 (bP [none] (dv K (af 1)) (au 0) du (aN dh (tC (.str "purse ")) (af 0))) (cH (ae (tC (.str "works")) (ae (tC (.str "pot")) (ae (tC (.str "given")) (ae (tC (.str "spent")) (ae (tC (.str "close")) (ae (tC (.str "works")) (ae (tC (.str "pot")) (ae (tC (.str "spent")) az)))))))))) (au 2))
  (bB (bP [none,some 0] (dv K (af 2)) (au 0) du (bf (cP K) [] E0 (ae (af 1) (ae (af 0) az))))))
noncomputable def eS(K:PM):TS:=
 (aE (bG (aN (cu K) (af 1) (aN oMod (aN (cu K) (af 0) (tC (.int 1))) (gr (gQ K) (ae (af 1) az)))) (au 2))
  (aE (bG (aN (cu K) (af 1) (aN oMod (aN (cu K) (af 0) (tC (.int 2))) (gr (gQ K) (ae (af 1) az)))) (au 3))
  (aE (bG (cH (ae (cH (ae (tC (.str "enrol")) (ae (af 2) az))) (ae (cH (ae (tC (.str "leave")) (ae (af 2) az))) (ae (cH (ae (tC (.str "give")) (ae (tC (.str "5")) az))) (ae (cH (ae (tC (.str "propose")) (ae (af 2) (ae (tC (.str "7")) az)))) (ae (cH (ae (tC (.str "withdraw")) (ae (af 2) az))) (ae (cH (ae (tC (.str "close")) az)) az))))))) (au 4))
  (aE (bG (aN g9 (af 4) (cH (ae (cH (ae (tC (.str "want")) (ae (af 2) (ae (af 3) az)))) (ae (cH (ae (tC (.str "unwant")) (ae (af 2) (ae (af 3) az)))) (ae (cH (ae (tC (.str "purse")) (ae (af 2) az))) (ae (cH (ae (tC (.str "pot")) az)) (ae (cH (ae (tC (.str "works")) az)) (ae (cH (ae (tC (.str "spent")) az)) az)))))))) (au 4))
  (bB (aN (cu K) (aN g9 (af 4) (cH (ae (cH (ae (tC (.str "given")) az)) az))) (aN oMod (aN (cu K) (af 0) (tC (.int 0))) (tC (.int 13)))))))))
noncomputable def eM(K:PM):TS:=
 (aE (bG (cH (ae (tC (.str "enrol")) (ae (tC (.str "leave")) (ae (tC (.str "give")) (ae (tC (.str "propose")) (ae (tC (.str "withdraw")) (ae (tC (.str "want")) (ae (tC (.str "unwant")) az)))))))) (au 2))
  (aE (bG (aN g9 (af 2) (cH (ae (tC (.str "close")) (ae (tC (.str "purse")) (ae (tC (.str "pot")) (ae (tC (.str "given")) (ae (tC (.str "spent")) (ae (tC (.str "works")) az)))))))) (au 2))
  (aE (bG (aN oMod (aN oDiv (af 1) (tC (.int 5))) (gr ve (ae (af 0) az))) (au 3))
  (aE (bG (cH (ae (aN dh (uX qx (af 0) cy (dz (af 3))) (uX qx (af 0) (dz (aN gW (af 3) (tC (.int 1)))) cy)) (ae (aN dh (aN dh (uX qx (af 0) cy (dz (af 3))) (aN uP (af 0) (af 3))) (uX qx (af 0) (dz (af 3)) cy)) (ae (aN dh (aN dh (uX qx (af 0) cy (dz (af 3))) (JE K "str" Ax (aN uP (af 0) (af 3)))) (uX qx (af 0) (dz (aN gW (af 3) (tC (.int 1)))) cy)) az)))) (au 4))
  (aE (bG (aN g9 (af 4) (cH (ae (aN (cu K) (cH (ae (tC (.str "voters")) (ae (tC (.str "withdrawn")) (ae (tC (.str "help")) (ae (tC (.str "join")) (ae (tC (.str "fund")) (ae (tC (.str "ask")) az))))))) (aN oMod (aN oDiv (af 1) (tC (.int 5))) (tC (.int 6)))) (ae (aN dh (af 0) (aN uP (tC (.str "\t\n")) (aN oMod (aN oDiv (af 1) (tC (.int 5))) (tC (.int 2))))) az)))) (au 4))
  (aE (bG (aN (cu K) (af 4) (aN oMod (af 1) (tC (.int 5)))) (au 5))
  (aE (cm (bA (aN (Hw K false) (af 5) (af 2))) (bB (tC (.str "rows"))) bS)
  (bB (af 5)))))))))
noncomputable def iw(K:PM):TS:=
 (aE (bG (cH (ae (tC (.str "01")) (ae (tC (.str "00")) (ae (tC (.str "1a")) (ae (tC (.str "-1")) (ae (tC (.str "+1")) (ae (tC (.str "1_0")) (ae (aN dh (tC (.str "1")) (aN L6 (tC (.str "0")) (tC (.int 13)))) (ae (tC (.str "a")) (ae (tC (.str "1.")) (ae (tC (.str "0x1")) (ae (tC (.str "1\t")) (ae (tC (.str "1\n")) (ae (tC (.str "-0")) (ae (tC (.str "O")) (ae (tC (.str "l")) az)))))))))))))))) (au 1))
  (bB (aN (cu K) (af 1) (aN oMod (af 0) (tC (.int 15))))))
noncomputable def nL(K:PM):TS:=
 (aE (bG (aN (cu K) (af 1) (aN oMod (aN (cu K) (af 0) (tC (.int 1))) (gr (gQ K) (ae (af 1) az)))) (au 2))
  (aE (bG (bf (dI K) [] E0 (ae (af 0) (ae (af 1) az))) (au 3))
  (aE (bG (aN oMod (aN (cu K) (af 0) (tC (.int 3))) (tC (.int 9))) (au 4))
  (aE (cm (bA (aN oC (af 4) (tC (.int 0)))) (bB (aN g9 (af 3) (cH (ae (aN (cu K) (cH (ae (af 2) (ae (tC (.str "7")) (ae (tC (.str "close")) az)))) (aN oMod (aN (cu K) (af 0) (tC (.int 4))) (tC (.int 3)))) az)))) bS)
  (aE (cm (bA (aN oC (af 4) (tC (.int 1)))) (bB (uX (qp K) (af 3) cy (dz (aN oMod (aN (cu K) (af 0) (tC (.int 4))) (gr (gQ K) (ae (af 3) az)))))) bS)
  (aE (cm (bA (aN oC (af 4) (tC (.int 2)))) (bB (aN (cu K) (cH (ae (cH (ae (tC (.str "give")) (ae (bf (fO K) [] E0 (ae (aN (cu K) (af 0) (tC (.int 4))) az)) az))) (ae (cH (ae (tC (.str "propose")) (ae (af 2) (ae (bf (fO K) [] E0 (ae (aN (cu K) (af 0) (tC (.int 4))) az)) az)))) az))) (aN oMod (aN (cu K) (af 0) (tC (.int 5))) (tC (.int 2))))) bS)
  (aE (cm (bA (aN oC (af 4) (tC (.int 3)))) (bB (aN g9 (cH (ae (bf (eR K) [] E0 (ae (aN (cu K) (af 3) (tC (.int 0))) (ae (aN (cu K) (af 0) (tC (.int 4))) az))) az)) (uX (qp K) (af 3) (dz (tC (.int 1))) cy))) bS)
  (aE (cm (bA (aN oC (af 4) (tC (.int 4)))) (bB (aN g9 (cH (ae (tC (.str "")) az)) (af 3))) bS)
  (aE (cm (bA (aN oC (af 4) (tC (.int 5)))) (bB (aN g9 (af 3) (cH (ae (tC (.str "")) az)))) bS)
  (aE (cm (bA (aN oC (af 4) (tC (.int 6)))) (bB (aN g9 (cH (ae (aN dh (aN (cu K) (af 3) (tC (.int 0))) (aN uP (tC (.str "\t\n")) (aN oMod (aN (cu K) (af 0) (tC (.int 4))) (tC (.int 2))))) az)) (uX (qp K) (af 3) (dz (tC (.int 1))) cy))) bS)
  (aE (cm (bA (aN oC (af 4) (tC (.int 7)))) (bB (aN g9 (cH (ae (aN dh (aN uP (tC (.str "\t\n")) (aN oMod (aN (cu K) (af 0) (tC (.int 4))) (tC (.int 2)))) (aN (cu K) (af 3) (tC (.int 0)))) az)) (uX (qp K) (af 3) (dz (tC (.int 1))) cy))) bS)
  (bB (aN g9 (aN g9 (uX (qp K) (af 3) cy (dz (tC (.int 1)))) (cH (ae (tC (.str "")) az))) (uX (qp K) (af 3) (dz (tC (.int 1))) cy))))))))))))))
noncomputable def ER(K:PM):TS:=
 (aE (bG (bf (jm K) [] E0 (ae (af 0) (ae (tC (.int 0)) az))) (au 1))
  (aE (bG (bf (jm K) [] E0 (ae (af 0) (ae (tC (.int 1)) az))) (au 2))
  (aE (bG (bf (eE K) [] E0 (ae (af 2) (ae (tC (.int 15)) az))) (au 3))
  (aE (bG (yW (ao K "Desk") (d7 K) [] E0 az) (au 4))
  (aE (bG (yW (ao K "Desk") (d7 K) [] E0 az) (au 5))
  (aE (bG (aN g9 (bf (fe K) [] E0 (ae (af 3) (ae (af 2) az))) (aN IB (cH (ae (tC (.str "close")) az)) (aN oMod (af 1) (tC (.int 2))))) (au 6))
  (aE (px (dv K (af 6)) (au 7) (cm (bA (aN (wZ K true) (bf (cP K) [] E0 (ae (af 4) (ae (af 7) az))) (bf (cP K) [] E0 (ae (af 5) (ae (af 7) az))))) (bB (tC (.bl false))) bS))
  (aE (bG (aN g9 (bP [none,some 2] (nK (ae (tC (.int 8)) az)) (au 0) du (bf (dD K) [] E0 (ae (af 1) (ae (af 0) az)))) (bP [none,some 2] (nK (ae (tC (.int 8)) az)) (au 0) du (bf (dD K) [] E0 (ae (aN oDiv (af 1) (tC (.int 3))) (ae (af 0) az))))) (au 8))
  (aE (bG (aN g9 (af 8) (cH (ae (aN dh (aN (cu K) (af 8) (tC (.int 0))) (tC (.str "aaaaaaaa"))) (ae (JE K "str" Ax (aN (cu K) (af 8) (tC (.int 1)))) (ae (aN dh (aN (cu K) (af 8) (tC (.int 2))) (tC (.str "\n"))) az))))) (au 8))
  (aE (px (dv K (uX (qp K) (af 0) (dz (tC (.int 2))) (dz (tC (.int 62))))) (au 9) (aE (bG (bf (eE K) [] E0 (ae (af 9) (ae (tC (.int 12)) az))) (au 10))
  (aE (cm (bA (aN (wZ K true) (bf (cP K) [] E0 (ae (af 4) (ae (Dk K "str" (rJoin K) (tC (.str " ")) (ae (bf (nS K) [] E0 (ae (uX (qp K) (af 10) cy (dz (tC (.int 6)))) (ae (af 8) az))) az)) az))) (aN g9 (cH (ae (tC (.bl true)) (ae (tC (.bl false)) (ae (tC (.bl true)) az)))) (aN IB (cH (ae (tC (.bl false)) az)) (tC (.int 6)))))) (bB (tC (.bl false))) bS)
  (aE (bG (Dk K "str" (rJoin K) (tC (.str " ")) (ae (bf (dI K) [] E0 (ae (uX (qp K) (af 10) (dz (tC (.int 6))) cy) (ae (af 8) az))) az)) (au 11))
  (cm (HR (bA (aN oC (aN oMod (aN (cu K) (af 10) (tC (.int 11))) (tC (.int 3))) (tC (.int 0)))) (HR (bA (aN LS (af 11) (tC (.str "close")))) (bA (aN (wZ K true) (bf (cP K) [] E0 (ae (af 4) (ae (af 11) az))) (bf (cP K) [] E0 (ae (af 5) (ae (af 11) az))))))) (bB (tC (.bl false))) bS)))))
  (aE (bG (bP [none,some 2] (Fe (ae (tC (.int 8)) (ae (tC (.int 26)) az))) (au 0) du (bf (dD K) [] E0 (ae (af 1) (ae (af 0) az)))) (au 12))
  (aE (bG (aN (cu K) (bP [none,some 8] (dv K (af 12)) (au 0) (bA (aN (Hw K true) (af 0) (af 1))) (af 0)) (tC (.int 0))) (au 13))
  (aE (cm (bA (aN (wZ K true) (bf (cP K) [] E0 (ae (af 4) (ae (aN dh (tC (.str "purse ")) (af 13)) az))) (aN g9 (cH (ae (tC (.bl false)) (ae (tC (.bl true)) (ae (tC (.bl true)) az)))) (aN IB (cH (ae (tC (.bl false)) az)) (tC (.int 6)))))) (bB (tC (.bl false))) bS)
  (bB (aN (wZ K false) (bf (gY K) [] E0 (ae (af 4) (ae (af 8) az))) (bf (gY K) [] E0 (ae (af 5) (ae (af 8) az))))))))))))))))))
section
variable {K:PM}
theorem BX:∀vs H Q E,jm K vs H Q E->mM K {nx:=fun _ H'=>Q .non H',rt:=Q} (start ["script","k","cell"] vs) H:=by
 rintro vs H Q E ⟨_,a,ns,k,rfl,hS,q⟩
 unfold mM
 walk_at "q"
 walk_at "z"
 rename_i p H1 f1 s1 h1
 obtain⟨ms,e,_,_⟩:=CT ns (some (k:Int)) (some ((k:Int)+1))
 rw[e]at h1
 refine rT (dE (K:=K) (xs:=ms.map V.int) 2) (fun i σ H'=>av H1 H'/\∃v,σ=[some (.ref a),some (.int k),v]) ⟨av.refl _,_,rfl⟩ (fun i σ H' h=>h.1.seq (aY.of h1)) ?_ ?_
 ·rintro i σ Ha Hb hi ⟨sa,v,rfl⟩ sb
  rw[P7]at hi
  have et:(ms.map V.int).getD i .non=.int (ms.getD i 0):=by simp[Qm,hi]
  rw[et]
  show bB _ _ _ _
  walk_at "z"
  exact q _ Hb ((s1.trans sa).trans sb)
 ·rintro σ Ha ⟨sa,v,rfl⟩
  walk_at "z"
  exact q 0 Ha (s1.trans sa)
theorem yd:∀vs H Q E,eE K vs H Q E->jQ K {nx:=fun _ H'=>Q .non H',rt:=Q} (start ["cell","many","spins","k","turn"] vs) H:=by
 rintro vs H Q E ⟨_,c,m,rfl,hm,q⟩
 unfold jQ
 walk_at "q"
 walk_at "z"
 rename_i l H1 f1 s1 h1
 walk_at "q"
 walk_at "z"
 have en:((m:Int)).toNat=m:=by omega
 rw[en]
 refine jU (lo:=0) (n:=m) (fun i σ H'=>av H H'/\∃(v3 v4:Option V),H' l=some (.lst ((d4 c i).map V.int))/\σ=[some (.int c),some (.int m),some (.ref l),v3,v4]) ⟨s1,_,_,h1,rfl⟩ ?_ ?_
 ·rintro i σ H2 hi ⟨s2,v3,v4,h2,rfl⟩
  have fit:((d4 c i).map V.int).length<PZ:=by rw[P7,nY];exact QD (show i<1000 by omega) bo
  show aE _ _ _ _ _
  walk_at "q"
  walk_at "z"
  have t0:0<=c%900900929+2503*(0+(i:Int))+77:=by omega
  have t1:c%900900929+2503*(0+(i:Int))+77<=1000000000:=by omega
  have et:c%900900929+2503*(0+(i:Int))+77=c%900900929+2503*(i:Int)+77:=by omega
  have e:(c%900900929+2503*(0+(i:Int))+77)*(c%900900929+2503*(0+(i:Int))+77)*(c%900900929+2503*(0+(i:Int))+77+31*(0+(i:Int)))/13%700700003=eQ c i:=by
   unfold eQ
   rw[et,show(0+(i:Int))=(i:Int) by omega]
  generalize c%900900929+2503*(0+(i:Int))+77=t at *
  walk_at "z"
  exists NK h2
  walk_at "z"
  refine gf h2 fit ?_
  rw[e]
  refine⟨s2.upd f1,_,_,?_,rfl⟩
  rw[ax]
  unfold d4
  rw[Td]
  simp
 ·rintro σ Ha ⟨sa,v3,v4,h2,rfl⟩
  walk_at "z"
  exact q l Ha f1 sa h2
theorem rD(C:gT K):∀vs H Q E,fI K vs H Q E->fi K {nx:=fun _ H'=>Q .non H',rt:=Q} (start ["self"] vs) H:=by
 rintro vs H Q E ⟨_,c,dx,rfl,hc,q⟩
 unfold fi
 walk_at "q"
 walk_at "z"
 refine IJ fun d1 H1 f1 s1 h1=>?_
 walk_at "z"
 have l0:([]:List (PH×V)).length<=0:=Qe _
 have l1:(cj "purses" (.ref d1) []).length<=1:=jY _ _ _
 refine ma (s1 _ _ hc) C.aI C.aS (by decide) ?_
 have n1:d1≠c:=(gj hc f1).symm
 have b1:bZ [c] H1 (upd H1 c (.ins (ao K "Chest") dx (cj "purses" (.ref d1) []))):=bZ.upd (s1 _ _ hc) (by intro xs z;cases z) (by simp)
 walk_at "q"
 walk_at "z"
 refine IJ fun d2 H2 f2 s2 h2=>?_
 walk_at "z"
 have l2:(cj "costs" (.ref d2) (cj "purses" (.ref d1) [])).length<=2:=P6 (jY _ _ _) (by omega)
 refine ma (s2 _ _ ax) C.aI C.bJ (by omega) ?_
 have n2:d2≠c:=(gj ax f2).symm
 have n12:d1≠d2:=gj (b1.1 d1 _ (by simpa using n1) h1) f2
 have b2:bZ [c] H2 (upd H2 c (.ins (ao K "Chest") dx (cj "costs" (.ref d2) (cj "purses" (.ref d1) [])))):=bZ.upd (s2 _ _ ax) (by intro xs z;cases z) (by simp)
 walk_at "q"
 walk_at "z"
 rename_i w H3 f3 s3 h3
 have l3:(cj "wishes" (.ref w) (cj "costs" (.ref d2) (cj "purses" (.ref d1) []))).length<=3:=P6 (jY _ _ _) (by omega)
 refine ma (s3 _ _ ax) C.aI C.bQ (by omega) ?_
 have n3:w≠c:=(gj ax f3).symm
 have b3:bZ [c] H3 (upd H3 c (.ins (ao K "Chest") dx (cj "wishes" (.ref w) (cj "costs" (.ref d2) (cj "purses" (.ref d1) []))))):=bZ.upd (s3 _ _ ax) (by intro xs z;cases z) (by simp)
 walk_at "q"
 walk_at "z"
 have l4:(cj "unshared" (.int 0) (cj "wishes" (.ref w) (cj "costs" (.ref d2) (cj "purses" (.ref d1) [])))).length<=4:=P6 (jY _ _ _) (by omega)
 refine ma ax C.aI C.cB (by omega) ?_
 walk_at "q"
 walk_at "z"
 have l5:(cj "gifts" (.int 0) (cj "unshared" (.int 0) (cj "wishes" (.ref w) (cj "costs" (.ref d2) (cj "purses" (.ref d1) []))))).length<=5:=P6 (jY _ _ _) (by omega)
 refine ma ax C.aI C.jS (by omega) ?_
 walk_at "z"
 refine ma ax C.aI C.iJ (by omega) ?_
 rw[KS]
 have hI:∀(G:Hp)(o:List (PH×V))(fs:List (PH×V)),G c=some (.ins (ao K "Chest") dx o)->bZ [c] G (upd G c (.ins (ao K "Chest") dx fs)):=fun G o fs h=>bZ.upd h (by intro xs z;cases z) (by simp)
 have key:∀Hf:Hp,bZ [c] H3 Hf->Hf c=some (.ins (ao K "Chest") dx (gE d1 d2 w 0 0 0))->Q .non Hf:=fun Hf b4 hf=>by
  have b5:=(b2.trans (bZ.of s3)).trans b4
  have b6:=(b1.trans (bZ.of s2)).trans b5
  refine q _ [c,d1,d2,w] ⟨dx,d1,d2,w,[],⟨hf,b6.1 d1 _ (by simpa using n1) h1,b5.1 d2 _ (by simpa using n2) h2,b4.1 w _ (by simpa using n3) h3,.nil,n12,Uc,Uc⟩,rfl⟩ ((bZ.of s1).trans b6) ?_
  intro a ha
  have g2:H1 d2=none:=b1.2.2 _ f2
  have g3:H1 w=none:=((b1.trans (bZ.of s2)).trans b2).2.2 _ f3
  simp only[Qb,Rb,or_false]at ha
  rcases ha with rfl|rfl|rfl|rfl
  ·exact .inl (by simp)
  ·exact .inr f1
  ·exact .inr (s1.free g2)
  ·exact .inr (s1.free g3)
 refine key _ ?_ ax
 exact((b3.trans (hI _ _ _ ax)).trans (hI _ _ _ ax)).trans (hI _ _ _ ax)
theorem sN(C:gT K):∀vs H Q E,d7 K vs H Q E->gd K {nx:=fun _ H'=>Q .non H',rt:=Q} (start ["self"] vs) H:=by
 rintro vs H Q E ⟨_,d,dx,rfl,hd,q⟩
 unfold gd
 walk_at "z"
 refine EM fun c cx f0 g0 n0=>?_
 refine⟨rfl,c,cx,rfl,ax,fun H1 fp x1 b1 w1=>⟨rfl,?_⟩⟩
 obtain⟨s1,e1⟩:=made f0 g0 b1 w1
 walk_at "z"
 refine ma (s1 _ _ hd) C.zO C.hJ (by decide) ?_
 have b2:bZ [d] H1 (upd H1 d (.ins (ao K "Desk") dx (cj "chest" (.ref c) []))):=bZ.upd (s1 _ _ hd) (by intro xs z;cases z) (by simp)
 have dn:d∉fp:=fun m=>by rw[e1 d m]at hd;cases hd
 refine q _ (d::fp) ⟨dx,c,fp,ax,x1.but b2 (fun y hy m=>dn (by rw[<-QR.mp m];exact hy)),dn,rfl⟩ ((bZ.of s1).trans b2) ?_
 intro y hy
 rcases Qb.mp hy with rfl|hy
 ·exact .inl (by simp)
 ·exact .inr (e1 y hy)
theorem join_ones:∀(cs:List Nat),(QP ("":PH) (cs.map fun c=>⟨#[c]⟩)).cps.toList=cs:=by
 rw[AA]
 intro cs
 induction cs with
 |nil=>rfl
 |cons a r ih=>
  cases r with
  |nil=>rfl
  |cons b t=>
   show(((⟨#[a]⟩:PH)++(⟨#[]⟩:PH)++QP ⟨#[]⟩ ((b::t).map fun c=>(⟨#[c]⟩:PH))).cps).toList=_
   rw[Uv,Uv,Xq,Xq,ih]
   simp
theorem zZ:∀vs H Q E,dD K vs H Q E->lK K {nx:=fun _ H'=>Q .non H',rt:=Q} (start ["cell","k","letters","xs","word","at"] vs) H:=by
 rintro vs H Q E ⟨_,c,k,rfl,hk,q⟩
 have hL:("abcdefghijklmnopqrstuvwxyz":PH).length=26:=by decide +kernel
 have hla:=M0
 unfold lK
 walk_at "q"
 walk_at "z"
 generalize ("abcdefghijklmnopqrstuvwxyz":PH)=letters at *
 have hix:∀(x:Int)(H':Hp)(Q':VK),Q' (.str ⟨#[mh x]⟩) H'->uP (.str letters) (.int (x%26)) H' Q':=fun x H' Q' z=>⟨letters,_,mh x,rfl,rfl,by rw[size_eq];omega,hla x,z⟩
 walk_at "q"
 walk_at "z"
 refine⟨rfl,c,9,rfl,by decide,fun l H1 f1 s1 h1=>?_⟩
 have q1:aY K H1 l ((d4 c 9).map V.int):=aY.of h1
 walk_at "z"
 walk_at "q"
 walk_at "z"
 rename_i p2 H2 f2 s2 h2
 have e2:iU ((d4 c 9).map V.int) none (some 7)=((P4 7).map (eQ c)).map V.int:=by
  have:iU ((d4 c 9).map V.int) none (some ((7:Nat):Int))=((d4 c 9).take 7).map V.int:=Cq _ _
  refine T4 this ?_
  congr 1
 rw[e2]at h2
 have q2:aY K H2 p2 (((P4 7).map (eQ c)).map V.int):=aY.of h2
 refine bD (dE (K:=K) (xs:=((P4 7).map (eQ c)).map V.int) 0) (fun j=>[some ((((P4 7).map (eQ c)).map V.int).getD j .non),some (.str letters)]) (by rintro j σ' (rfl|⟨k,rfl⟩)<;>rfl) (fun H' s=>s.seq q2) (by exact P6 (show 7<=1000 by decide) bo) (fun j=>.str ⟨#[mh (eQ c j)]⟩) ?_ ?_
 ·intro j hj H' F s kk
  have hj:j<7:=by simpa using hj
  have et:(((P4 7).map (eQ c)).map V.int).getD j .non=.int (eQ c j):=by simp[Qm,hj]
  rw[et]
  walk_at "z"
  exact hix _ _ _ (kk H' (av.refl _))
 intro l3 H3 f3 s3 h3
 have e3:(P4 (((P4 7).map (eQ c)).map V.int).length).map (fun j=>V.str ⟨#[mh (eQ c j)]⟩)=((wl c).map fun c=>(⟨#[c]⟩:PH)).map V.str:=by
  rw[P7,P7,S1]
  unfold wl
  rw[Qn,Qn]
  rfl
 rw[e3]at h3
 have s23:=s2.trans s3
 have q3:aY K H3 l ((d4 c 9).map V.int):=s23.seq q1
 walk_at "z"
 have hone:∀x∈(wl c).map fun c=>(⟨#[c]⟩:PH),x.length<=1:=fun x hx=>by
  obtain⟨j,_,rfl⟩:=P9.mp hx
  exact Qe 1
 have hz:("":PH).length=0:=by decide +kernel
 refine pU 1 (aY.of h3) hone (by rw[P7,kN,hz];decide) ?_
 have hw:=join_ones (wl c)
 have hwl:=aP (QP ("":PH) ((wl c).map fun c=>(⟨#[c]⟩:PH)))
 rw[hw,kN]at hwl
 generalize QP ("":PH) ((wl c).map fun c=>(⟨#[c]⟩:PH))=word at *
 have g7:xW ((d4 c 9).map V.int) 7=some (.int (eQ c 7)):=bM (j:=7) (xG (by decide))
 have g8:xW ((d4 c 9).map V.int) 8=some (.int (eQ c 8)):=bM (j:=8) (xG (by decide))
 have s03:=s1.trans s23
 have fin:∀z:PH,z.cps.toList=j5 c k->Q (.str z) H3:=fun z hz=>by
  have:z=aQ c k:=jd.mpr (by rw[hz,ip])
  rw[this]
  exact q H3 s03
 have hk8:(k:Int)%8=((k%8:Nat):Int):=by omega
 have hd8:(k:Int)/8=((k/8:Nat):Int):=by omega
 walk_at "z"
 walk_at "q"
 walk_at "z"
 refine cA q3 g8 ?_
 walk_at "z"
 refine dJ (fun h0=>?_) (fun h0=>?_)
 ·walk_at "z"
  refine cA q3 g7 ?_
  walk_at "z"
  refine hix _ _ _ ?_
  walk_at "z"
  rw[hk8,hd8]
  have hs:=rJ (z:=word) (b:=k%8) (by omega)
  have hsl:=aP (QK word none (some ((k%8:Nat):Int)))
  rw[hs,QY,hw,kN]at hsl
  refine iW (by rw[AM];omega) ?_
  refine fin _ ?_
  rw[cT,hs,hw]
  unfold j5
  rw[if_pos h0]
  rfl
 walk_at "z"
 walk_at "q"
 walk_at "z"
 refine cA q3 g8 ?_
 walk_at "z"
 refine dJ (fun h1'=>?_) (fun h1'=>?_)
 ·walk_at "z"
  refine cA q3 g7 ?_
  walk_at "z"
  refine hix _ _ _ ?_
  have e7:(7:Int)-(k:Int)%8=((7-k%8:Nat):Int):=by omega
  rw[e7,hd8]
  have hs:=kA (z:=word) (a:=7-k%8) (by omega)
  have hsl:=aP (QK word (some ((7-k%8:Nat):Int)) none)
  rw[hs,Rq,hw,kN]at hsl
  refine iW (by rw[AM];omega) ?_
  refine fin _ ?_
  rw[cT,hs,hw]
  unfold j5
  rw[if_neg h0,if_pos h1']
 walk_at "z"
 walk_at "q"
 walk_at "z"
 refine cA q3 g8 ?_
 walk_at "z"
 obtain⟨n,hn,hn8⟩:∃n:Nat,eQ c 8/4%8=(n:Int)/\n<8:=⟨(eQ c 8/4%8).toNat,by omega,by omega⟩
 have e3:LR c=(wl c).take n:=by unfold LR;rw[hn];rfl
 rw[hn]
 have hs:=rJ (z:=word) (b:=n) (by omega)
 have hsl:=aP (QK word none (some (n:Int)))
 rw[hs,hw,<-e3]at hsl
 rw[hw,<-e3]at hs
 generalize QK word none (some (n:Int))=w3 at *
 have h3l:=Fz c
 walk_at "q"
 walk_at "z"
 refine cA q3 g8 ?_
 walk_at "z"
 have hat:eQ c 8/32%((w3.length:Int)+1)=(Kh c:Int):=by
  unfold Kh
  rw[hsl]
  have:=Su (eQ c 8/32) (show((w3.length:Int)+1)≠0 by omega)
  omega
 have hat2:Kh c<=w3.length:=by
  have:=Tu (eQ c 8/32) (show 0<(w3.length:Int)+1 by omega)
  omega
 rw[hat]
 walk_at "z"
 refine cA q3 g7 ?_
 walk_at "z"
 refine hix _ _ _ ?_
 have ha:=rJ (z:=w3) (b:=Kh c) hat2
 have hb:=kA (z:=w3) (a:=Kh c) hat2
 have hal:=aP (QK w3 none (some (Kh c:Int)))
 have hbl:=aP (QK w3 (some (Kh c:Int)) none)
 rw[ha,QY,hs]at hal
 rw[hb,Rq,hs]at hbl
 refine iW (by rw[AM];omega) ?_
 have hcl:=aP (QK w3 none (some (Kh c:Int))++⟨#[mh (eQ c 7+(k:Int))]⟩)
 rw[cT,QV,ha,hs,QY]at hcl
 have h1l:(⟨#[mh (eQ c 7+(k:Int))]⟩:PH).cps.toList=[mh (eQ c 7+(k:Int))]:=rfl
 rw[h1l]at hcl
 simp only[R8]at hcl
 walk_at "z"
 refine fin _ ?_
 rw[cT,cT,ha,hb,hs,h1l]
 unfold j5
 rw[if_neg h0,if_neg h1']
 simp
theorem J0{c:Int}{n j:Nat}(h:j<n):(((P4 n).map (aQ c)).map V.str)[j]?=some (.str (aQ c j)):=by simp[h]
theorem rp:∀vs H Q E,fe K vs H Q E->fz K {nx:=fun _ H'=>Q .non H',rt:=Q} (start ["xs","cell","people","plans","rows","k","j"] vs) H:=by
 rintro vs H Q E ⟨_,a,c,xs,rfl,qa,hx,q⟩
 unfold fz
 obtain⟨x0,e0⟩:=nC (xs:=xs) (k:=0) (by omega)
 obtain⟨x1,e1⟩:=nC (xs:=xs) (k:=1) (by omega)
 obtain⟨x2,e2⟩:=nC (xs:=xs) (k:=2) (by omega)
 have hsz:=size_eq
 obtain⟨n1,en1,h1n⟩:∃n1:Nat,(1+x0%6).toNat=n1/\n1<=6:=⟨_,rfl,by omega⟩
 obtain⟨n2,en2,h2n⟩:∃n2:Nat,(1+x1%6).toNat=n2/\n2<=6:=⟨_,rfl,by omega⟩
 have nl:∀(c:Int)(k:Nat),(aQ c k).length<=8:=fun c k=>(fq (da c k)).2
 walk_at "q"
 walk_at "z"
 refine cA qa e0 ?_
 walk_at "z"
 rw[en1]
 refine bD (j7 (lo:=0) (n:=n1) 0) (fun j=>[some (.int (0+(j:Int))),some (.int c)]) (by rintro j σ' (rfl|⟨k,rfl⟩)<;>rfl) (fun _ _=>trivial) (P6 (show n1<=1000 by omega) bo) (fun j=>.str (aQ c j)) ?_ ?_
 ·intro j hj H' G s' kk
  walk_at "z"
  refine⟨rfl,c,j,by rw[show(0+(j:Int))=(j:Int) by omega],by omega,fun H'' s''=>kk H'' s''⟩
 intro l1 H1 f1 s1 h1
 rw[show(P4 n1).map (fun j=>V.str (aQ c j))=((P4 n1).map (aQ c)).map V.str by rw[Qn];rfl]at h1
 walk_at "z"
 walk_at "q"
 walk_at "z"
 refine cA (s1.seq qa) e1 ?_
 walk_at "z"
 rw[en2]
 refine bD (j7 (lo:=0) (n:=n2) 0) (fun j=>[some (.int (0+(j:Int))),some (.int c)]) (by rintro j σ' (rfl|⟨k,rfl⟩)<;>rfl) (fun _ _=>trivial) (P6 (show n2<=1000 by omega) bo) (fun j=>.str (aQ (c/3) j)) ?_ ?_
 ·intro j hj H' G s' kk
  walk_at "z"
  refine⟨rfl,c/3,j,by rw[show(0+(j:Int))=(j:Int) by omega],by omega,fun H'' s''=>kk H'' s''⟩
 intro l2 H2 f2 s2 h2
 rw[show(P4 n2).map (fun j=>V.str (aQ (c/3) j))=((P4 n2).map (aQ (c/3))).map V.str by rw[Qn];rfl]at h2
 have q1:aY K H2 l1 (((P4 n1).map (aQ c)).map V.str):=aY.of (s2 _ _ h1)
 have hl1:(((P4 n1).map (aQ c)).map V.str).length=n1:=by simp
 have hl2:(((P4 n2).map (aQ (c/3))).map V.str).length=n2:=by simp
 have L1:("enrol ":PH).length=6/\("give ":PH).length=5/\("propose ":PH).length=8/\("want ":PH).length=5:=by decide +kernel
 have lsp:=dU.2.2.1
 walk_at "z"
 walk_at "q"
 walk_at "z"
 refine bD (dE (K:=K) (xs:=((P4 n1).map (aQ c)).map V.str) 0) (fun j=>[some ((((P4 n1).map (aQ c)).map V.str).getD j .non)]) (by rintro j σ' (rfl|⟨k,rfl⟩)<;>rfl) (fun H' s=>s.seq q1) (by rw[hl1];exact P6 (show n1<=1000 by omega) bo) (fun j=>.str (("enrol ":PH)++aQ c j)) ?_ ?_
 ·intro j hj H' F s kk
  rw[hl1]at hj
  have et:(((P4 n1).map (aQ c)).map V.str).getD j .non=.str (aQ c j):=by simp[Qm,hj]
  have:=nl c j
  rw[et]
  walk_at "z"
  exact kk H' (av.refl _)
 intro l3 H3 f3 s3 h3
 rw[hl1,show(P4 n1).map (fun j=>V.str (("enrol ":PH)++aQ c j))=((P4 n1).map fun j=>("enrol ":PH)++aQ c j).map V.str by rw[Qn];rfl]at h3
 walk_at "z"
 refine cA ((s1.trans (s2.trans s3)).seq qa) e2 ?_
 walk_at "z"
 refine OJ (by omega) (by omega) ?_
 have lg:(iT (x2%500)).length<=3:=Be (by omega) (by decide) (by omega)
 walk_at "z"
 rename_i l4 H4 f4 s4 h4
 refine cZ (s4 _ _ h3) h4 (by rw[P7,P7,S1,size_eq];simp;omega) fun l5 H5 f5 s5 h5=>?_
 have s25:=s3.trans (s4.trans s5)
 have q2:aY K H5 l2 (((P4 n2).map (aQ (c/3))).map V.str):=aY.of (s25 _ _ h2)
 have s05:=s1.trans (s2.trans s25)
 have qa5:=s05.seq qa
 walk_at "z"
 walk_at "q"
 walk_at "z"
 rw[hl2]
 refine bD (j7 (lo:=0) (n:=n2) 0) (fun j=>[some (.int (0+(j:Int))),some (.ref l2),some (.ref a)]) (by rintro j σ' (rfl|⟨k,rfl⟩)<;>rfl) (fun _ _=>trivial) (P6 (show n2<=1000 by omega) bo) (fun j=>.str (("propose ":PH)++aQ (c/3) j++" "++iT (1+xs.getD (3+j) 0%90))) ?_ ?_
 ·intro j hj H' G s' kk
  have ej:(0+(j:Int))=(j:Int):=by omega
  rw[ej]
  walk_at "z"
  refine cA (s'.seq q2) (bM (J0 hj)) ?_
  have:=nl (c/3) j
  walk_at "z"
  refine iW (by rw[Qx];omega) ?_
  walk_at "z"
  have ex:xW (xs.map V.int) (3+(j:Int))=some (.int (xs.getD (3+j) 0)):=by
   have:=bM (xs:=xs.map V.int) (j:=3+j) (v:=.int (xs.getD (3+j) 0)) (by simp[Qm,show 3+j<xs.length by omega])
   rwa [show((3+j:Nat):Int)=3+(j:Int) by omega]at this
  refine cA (s'.seq qa5) ex ?_
  walk_at "z"
  refine OJ (by omega) (by omega) ?_
  have lg:(iT (1+xs.getD (3+j) 0%90)).length<=2:=Be (by omega) (by decide) (by omega)
  refine iW (by rw[Qx,Qx];omega) ?_
  exact kk H' (av.refl _)
 intro l6 H6 f6 s6 h6
 rw[show(P4 n2).map (fun j=>V.str (("propose ":PH)++aQ (c/3) j++" "++iT (1+xs.getD (3+j) 0%90)))=((P4 n2).map fun j=>("propose ":PH)++aQ (c/3) j++" "++iT (1+xs.getD (3+j) 0%90)).map V.str by rw[Qn];rfl]at h6
 have h5:H5 l5=some (.lst ((((P4 n1).map fun j=>("enrol ":PH)++aQ c j)++[("give ":PH)++iT (x2%500)]).map V.str)):=by rw[h5];simp
 have ok:∀r∈(((P4 n1).map fun j=>("enrol ":PH)++aQ c j)++[("give ":PH)++iT (x2%500)])++((P4 n2).map fun j=>("propose ":PH)++aQ (c/3) j++" "++iT (1+xs.getD (3+j) 0%90)),iV ((P4 6).map (aQ c)) r:=fun r hr=>by
  obtain⟨wE,wG,wP,wW,_⟩:=kc
  rcases QC.mp hr with hr|hr
  ·rcases QC.mp hr with hr|hr
   ·obtain⟨j,hj,rfl⟩:=P9.mp hr
    exact F3 (tY (da c j)) (P9.mpr ⟨j,Q6.mpr (by have:=Q6.mp hj;omega),rfl⟩)
   ·rw[QR.mp hr]
    exact LH (by decide +kernel) wG (Ie (k:=3) (by omega) (by decide) (by omega) (by decide)) (by decide +kernel)
  ·obtain⟨j,hj,rfl⟩:=P9.mp hr
   exact zi (by decide +kernel) wP (tY (da _ j)) (Ie (k:=2) (by omega) (by decide) (by omega) (by decide))
 have lr:(((P4 n1).map fun j=>("enrol ":PH)++aQ c j)++[("give ":PH)++iT (x2%500)]).length<=7:=by simp;omega
 have lr2:((P4 n2).map fun j=>("propose ":PH)++aQ (c/3) j++" "++iT (1+xs.getD (3+j) 0%90)).length<=6:=by simp;omega
 generalize (((P4 n1).map fun j=>("enrol ":PH)++aQ c j)++[("give ":PH)++iT (x2%500)])=R1 at *
 generalize ((P4 n2).map fun j=>("propose ":PH)++aQ (c/3) j++" "++iT (1+xs.getD (3+j) 0%90))=R2 at *
 refine cZ (s6 _ _ h5) h6 (by rw[P7,P7,size_eq];omega) fun l7 H7 f7 s7 h7=>?_
 rw[<-Rj]at h7
 have f07:H l7=none:=s05.free (s6.free f7)
 have s07:=s05.trans (s6.trans s7)
 have g1:H7 l1=some (.lst (((P4 n1).map (aQ c)).map V.str)):=(s2.trans (s25.trans (s6.trans s7))) _ _ h1
 have g2:H7 l2=some (.lst (((P4 n2).map (aQ (c/3))).map V.str)):=(s25.trans (s6.trans s7)) _ _ h2
 have n71:l1≠l7:=fun e=>by rw[<-e]at f7;rw[(s2.trans (s25.trans s6)) _ _ h1]at f7;cases f7
 have n72:l2≠l7:=fun e=>by rw[<-e]at f7;rw[(s25.trans s6) _ _ h2]at f7;cases f7
 walk_at "z"
 walk_at "q"
 walk_at "z"
 rw[hl1]
 let I:Nat->Nat->List (Option V)->Hp->Prop:=fun i m σ H'=>av H H'/\H' l1=some (.lst (((P4 n1).map (aQ c)).map V.str))/\H' l2=some (.lst (((P4 n2).map (aQ (c/3))).map V.str))/\∃(rows:List PH)(v6:Option V),H' l7=some (.lst (rows.map V.str))/\rows.length<=13+6*i+m/\(∀r∈rows,iV ((P4 6).map (aQ c)) r)/\∃v5,σ=[some (.ref a),some (.int c),some (.ref l1),some (.ref l2),some (.ref l7),v5,v6]
 refine jU (lo:=0) (n:=n1) (fun i σ H'=>I i 0 σ H') ⟨s07,g1,g2,R1++R2,_,h7,by rw[QV];omega,ok,_,rfl⟩ ?_ ?_
 ·rintro i σ Ha hi ⟨sa,k1,k2,rows,v6,hr,hrl,hok,v5,rfl⟩
  have ei:(0+(i:Int))=(i:Int):=by omega
  rw[ei]
  have Q2:aY K Ha l2 (((P4 n2).map (aQ (c/3))).map V.str):=aY.of k2
  show px _ _ _ _ _ _
  walk_at "z"
  rw[hl2]
  refine jU (lo:=0) (n:=n2) (fun j σ H'=>av H H'/\H' l1=some (.lst (((P4 n1).map (aQ c)).map V.str))/\H' l2=some (.lst (((P4 n2).map (aQ (c/3))).map V.str))/\∃(rows:List PH)(v6:Option V),H' l7=some (.lst (rows.map V.str))/\rows.length<=13+6*i+j/\(∀r∈rows,iV ((P4 6).map (aQ c)) r)/\σ=[some (.ref a),some (.int c),some (.ref l1),some (.ref l2),some (.ref l7),some (.int i),v6]) ⟨sa,k1,k2,rows,_,hr,hrl,hok,rfl⟩ ?_ ?_
  ·rintro j σ Hb hj ⟨sb,k1,k2,rows,v6,hr,hrl,hok,rfl⟩
   have ej:(0+(j:Int))=(j:Int):=by omega
   rw[ej]
   have qab:=sb.seq qa
   obtain⟨y,ey⟩:∃y:Nat,9+((i:Int)+(j:Int))%6=(y:Int)/\y<15:=⟨(9+((i:Int)+(j:Int))%6).toNat,by omega,by omega⟩
   obtain⟨x,hx9⟩:=nC (xs:=xs) (k:=y) (by omega)
   rw[<-ey.1]at hx9
   show cm _ _ _ _ _ _
   walk_at "z"
   refine cA qab hx9 ?_
   walk_at "z"
   refine dJ (fun _=>?_) fun _=>?_
   ·walk_at "z"
    exists NK hr
    walk_at "z"
    have lc:=nl c i
    have lp:=nl (c/3) j
    refine cA (aY.of k1) (bM (J0 hi)) ?_
    walk_at "z"
    refine iW (by rw[Qx];omega) ?_
    walk_at "z"
    refine cA (aY.of k2) (bM (J0 hj)) ?_
    refine iW (by rw[Qx,Qx];omega) ?_
    walk_at "z"
    refine gf hr (by rw[P7];exact QD (show rows.length<1000 by omega) bo) ?_
    refine⟨sb.upd f07,by rw[ak n71];exact k1,by rw[ak n72];exact k2,rows++[("want ":PH)++aQ c i++" "++aQ (c/3) j],_,by rw[ax];simp,by rw[QV,R8];omega,fun r hr=>?_,rfl⟩
    rcases QC.mp hr with hr|hr
    ·exact hok r hr
    ·rw[QR.mp hr]
     exact zi (by decide +kernel) kc.2.2.2.1 (tY (da _ _)) (tY (da _ _))
   ·walk_at "z"
    exact⟨sb,k1,k2,rows,_,hr,by omega,hok,rfl⟩
  ·rintro σ Hc ⟨sc,k1,k2,rows,v6,hr,hrl,hok,rfl⟩
   exact⟨sc,k1,k2,rows,_,hr,by omega,hok,_,rfl⟩
 ·rintro σ Hd ⟨sd,k1,k2,rows,v6,hr,hrl,hok,v5,rfl⟩
  walk_at "z"
  exact q l7 rows Hd (by omega) hok f07 sd hr
theorem yM:∀vs H Q E,jO K vs H Q E->jI K E {nx:=fun _ H'=>Q .non H',rt:=Q} (start ["row","words"] vs) H:=by
 rintro vs H Q E ⟨_,z,rfl,ha,hz,qn,qe⟩
 have hsz:=size_eq
 have hsl:=split_len z
 have hrp:=repr_fits ha hz
 unfold jI
 walk_at "q"
 walk_at "z"
 refine⟨z," ",rfl,rfl,by decide +kernel,by omega,by omega,fun l hl=>?_⟩
 have s1:av H (upd H l (.lst ((QJ z " ").map V.str))):=av.updN hl
 have h1:upd H l (.lst ((QJ z " ").map V.str)) l=some (.lst ((QJ z " ").map V.str)):=ax
 walk_at "z"
 walk_at "q"
 walk_at "z"
 exists l,_,rfl,.inl (aY.of h1),rfl,su _
 rw[if_neg (by decide),A4]
 exists _,rfl
 refine dJ (fun hm=>?_) (fun hm=>?_)
 ·have n1:(Qp++("no row: ":PH)).length=8:=by decide +kernel
  have n2:(Qp++("no row: ":PH)++TZ z).length<=PZ:=by
   rw[Qx]
   omega
  exact⟨_,rfl,by omega,_,rfl,z,rfl,by omega,_,rfl,n2,n2,(by decide:1<=PZ),qe hm _ s1⟩
 ·walk_at "z"
  exact qn hm l hl
theorem rE:∀vs H Q E,fL K vs H Q E->fj K {nx:=fun _ H'=>Q .non H',rt:=Q} (start ["step","number","multiple"] vs) H:=by
 rintro vs H Q E ⟨_,s,n,rfl,hs,hn,q⟩
 unfold fj
 walk_at "w"
 exists fun μ σ H'=>∃m:Nat,σ=[some (.int s),some (.int n),some (.int m)]/\H'=H/\0<m/\s∣m/\m<=R5 s n/\μ=R5 s n-m,⟨_,s,rfl,rfl,hs,WI s,XR (WG hs hn) (WU s n),rfl⟩
 rintro μ σ H' ⟨m,rfl,rfl,h1,h2,h3,rfl⟩
 walk_at "w"
 refine LA (fun h=>?_) (fun h=>?_)
 ·have hne:m%n≠0:=fun e=>by
   have e':((m:Int)%(n:Int))=0:=by exact_mod_cast e
   rw[e']at h
   simp at h
  have hst:=J1 hs hn h2 h3 hne
  exists fun σ' H''=>∃m':Nat,σ'=[some (.int s),some (.int n),some (.int m')]/\H''=H'/\m'=m+s,?_
  ·rintro σ' H'' ⟨m',rfl,rfl,rfl⟩
   exact⟨_,(by omega),m+s,rfl,rfl,(by omega),Nat.dvd_add h2 (WI s),hst,rfl⟩
  ·walk_at "w"
   exact⟨m+s,rfl,rfl,rfl⟩
 ·have h0:m%n=0:=by
   rcases Xo (m%n)with z|z
   ·exact z
   ·exfalso
    apply h
    have:¬((m:Int)%(n:Int))=0:=by
     intro e
     have e':m%n=0:=by exact_mod_cast e
     omega
    simp[this]
  walk_at "w"
  rw[Li h1 h2 h3 h0]
  exact q
theorem Cy:∀vs H Q E,m9 K vs H Q E->mR K {nx:=fun _ H'=>Q .non H',rt:=Q} (start ["n","least","number"] vs) H:=by
 rintro vs H Q E ⟨_,n,rfl,hn,q⟩
 unfold mR
 walk_at "w"
 refine jU (lo:=1) (n:=((n:Int)+1-1).toNat) (fun i σ H'=>H'=H/\∃v,σ=[some (.int n),some (.int (mZ i:Nat)),v]) ⟨rfl,none,rfl⟩ ?_ ?_
 ·rintro i σ H' hi ⟨rfl,v,rfl⟩
  show bG _ _ _ _ _
  walk_at "w"
  exists rfl,mZ i,i+1,?_,zV i,Ws i
  ·have e:(1:Int)+(i:Int)=((i+1:Nat):Int):=by omega
   rw[e]
  ·exact⟨rfl,_,rfl⟩
 ·rintro σ H' ⟨rfl,v,rfl⟩
  walk_at "w"
  have e:((n:Int)+1-1).toNat=n:=by omega
  rw[e]
  exact q
theorem Aq(a i:Nat):((a ^ (i+1):Nat):Int)*((a:Nat):Int)=((a ^ (i+1+1):Nat):Int):=by
 rw[We a (i+1)]
 push_cast
 rfl
theorem zW:∀vs H Q E,hW K vs H Q E->kY K {nx:=fun _ H'=>Q .non H',rt:=Q} (start ["voters","works","factor","grains","work"] vs) H:=by
 rintro vs H Q E ⟨_,v,w,rfl,h1,h2,h3,q⟩
 have ts:=y3 v (by omega)
 unfold kY
 walk_at "w"
 exists rfl,v,rfl,h2
 walk_at "w"
 refine jU (lo:=0) (n:=((w:Int)).toNat) (fun i σ H'=>H=H'/\∃u,σ=[some (.int v),some (.int w),some (.int (mZ v:Nat)),some (.int (mZ v ^ (i+1):Nat)),u]) ⟨rfl,none,by rw[Nat.pow_one];rfl⟩ ?_ ?_
 ·rintro i σ H' hi ⟨rfl,u,rfl⟩
  show Ef _ _ _ _ _ _
  walk_at "w"
  rw[Aq]
  exact⟨rfl,_,rfl⟩
 ·rintro σ H' ⟨rfl,u,rfl⟩
  walk_at "w"
  exact q
theorem DX:∀vs H Q E,pq K vs H Q E->pB K {nx:=fun _ H'=>Q .non H',rt:=Q} (start ["steps","voter"] vs) H:=by
 rintro vs H Q E ⟨_,a,sts,i,rfl,hA,hl,hi,q⟩
 obtain⟨ts,bs,B⟩:=hA.b
 have qA:aY K H a (ts.map V.ref):=(B.ys (av.refl _)).1
 unfold pB
 walk_at "z"
 refine bD (j4 (ts:=ts) (u:=fun i=>.int ((sts.getD i stN).1:Nat)) (v:=fun i=>.int (sts.getD i stN).2.1) (w:=fun i=>.ref (bs.getD i 0)) 0 1 2) (fun j=>[some (.int ((sts.getD j stN).1:Nat)),some (.int (sts.getD j stN).2.1),some (.ref (bs.getD j 0)),some (.int (i:Int))]) (by rintro j σ' (rfl|⟨k,rfl⟩)<;>rfl) (fun H' s=>B.ys s) (by rw[B.tl];exact P6 (show sts.length<=1000 by omega) bo) (fun j=>.int ((sts.getD j stN).2.2.getD i 0)) ?_ ?_
 ·intro j hj H' G s kk
  rw[B.tl]at hj
  have hp:aY K H' (bs.getD j 0) ((sts.getD j stN).2.2.map V.int):=B.paid s hj
  have hil:=hi (sts.getD j stN) (by simp[Qm,hj])
  walk_at "z"
  refine cA hp (bM (v:=.int ((sts.getD j stN).2.2.getD i 0)) (by generalize (sts.getD j stN).2.2=xs at *;simp[Qm,hil])) ?_
  exact kk H' (av.refl _)
 intro l H1 f1 s1 h1
 have e1:(P4 ts.length).map (fun j=>V.int ((sts.getD j stN).2.2.getD i 0))=(sts.map fun x=>x.2.2.getD i 0).map V.int:=by
  rw[B.tl,bw (fun x:Nat×Int×List Int=>V.int (x.2.2.getD i 0)) stN sts,Qn]
  rfl
 rw[e1]at h1
 walk_at "z"
 exact q H1 s1
theorem DC:∀vs H Q E,kF K vs H Q E->qd K {nx:=fun _ H'=>Q .non H',rt:=Q} (start ["purses","steps"] vs) H:=by
 rintro vs H Q E ⟨_,a,b,ps,sts,rfl,hA,hB,hl,hsl,hsp,q⟩
 have hlp:(ps.map V.int).length=ps.length:=P7 _
 unfold qd
 walk_at "z"
 try refine⟨a,rfl,⟨_,hA⟩,?_⟩
 refine bD (rK (xs:=ps.map V.int) 0 1) (fun j=>[some (.int j),some ((ps.map V.int).getD j .non),some (.ref b)]) (by rintro j σ' (rfl|⟨k,rfl⟩)<;>rfl) (fun H' s=>s.seq hA) (by rw[hlp];exact P6 (show _<=1000 by omega) bo) (fun j=>.int (ps.getD j 0-(sts.map fun x=>x.2.2.getD j 0).sum)) ?_ ?_
 ·intro j hj H' G s kk
  rw[hlp]at hj
  have e:(ps.map V.int).getD j .non=.int (ps.getD j 0):=by simp[Qm,hj]
  rw[e]
  walk_at "z"
  refine⟨rfl,b,sts,j,rfl,kW s hB,by omega,fun x hx=>by rw[hsp x hx];exact hj,fun H2 s2=>?_⟩
  walk_at "z"
  exact kk H2 s2
 ·intro l H' f s h
  rw[hlp]at h
  refine q l H' f s ?_
  rw[h]
  unfold bL
  rw[Qn]
  rfl
theorem AH:∀vs H Q E,ke K vs H Q E->kD K {nx:=fun _ H'=>Q .non H',rt:=Q} (start ["costs","wishes","grains"] vs) H:=by
 rintro vs H Q E ⟨_,a,b,cs,rows,rfl,hA,⟨bs,hB,hP⟩,hl,hb,hv1,hv,q⟩
 have hlc:(cs.map V.int).length=cs.length:=P7 _
 have hlb:(bs.map V.ref).length=rows.length:=by rw[P7];exact(Qv hP).symm
 have pi:=qg (v:=rows.length) (w:=cs.length+1) hv (by omega)
 unfold kD
 walk_at "v"
 exists rfl,rows.length,cs.length,by rw[hlc,hlb],hv1,hv,hl
 walk_at "v"
 generalize ((mZ rows.length ^ (cs.length+1):Nat):Int)=g at *
 refine bD (dE (xs:=cs.map V.int) 0) (fun j=>[some ((cs.map V.int).getD j .non),some (.int g)]) (by rintro j σ' (rfl|⟨k,rfl⟩)<;>rfl) (fun H' s=>s.seq hA) (by rw[hlc];exact P6 (show cs.length<=1000 by omega) bo) (fun j=>.int (cs.getD j 0*g)) ?_ ?_
 ·intro j hj H' G s k
  rw[hlc]at hj
  have e:(cs.map V.int).getD j .non=.int (cs.getD j 0):=by simp[Qm,hj]
  have hbj:=hb (cs.getD j 0) (by simp[Qm,hj])
  rw[e]
  walk_at "v"
  exact k H' (av.refl _)
 ·intro l H' f s h
  refine q l H' f s ?_
  rw[h,hlc,bw (fun x=>V.int (x*g)) 0 cs,Qn]
  rfl
theorem yb:∀vs H Q E,jM K vs H Q E->jL K {nx:=fun _ H'=>Q .non H',rt:=Q} (start ["amount","shares"] vs) H:=by
 rintro vs H Q E ⟨_,m,p,rfl,h0,h1,q⟩
 unfold jL
 walk_at "w"
 exact q
theorem pairwise_split{ms:List Int}(h:ms.Pairwise (·<=·)){i:Nat}(hi:i<ms.length):(∀y∈ms.take i,y<=ms[i])/\(∀y∈ms.drop (i+1),ms[i]<=y):=by
 have e:ms=ms.take i++ms[i]::ms.drop (i+1):=by
  rw[XJ,YM]
 have h':=h
 rw[e]at h'
 obtain⟨_,h2,h3⟩:=List.pairwise_append.mp h'
 exact⟨fun y hy=>h3 y hy _ QH,fun y hy=>(List.pairwise_cons.mp h2).1 y hy⟩
theorem zY:∀vs H Q E,kn K vs H Q E->kR K {nx:=fun _ H'=>Q .non H',rt:=Q} (start ["purses","price","missing","payers","purse"] vs) H:=by
 rintro vs H Q E ⟨_,a,ps,price,rfl,hS,hl,hp,hpr,qn,qs⟩
 have hL:(ps.map V.int).length=ps.length:=P7 _
 unfold kR
 walk_at "w"
 refine LA (fun h=>?_) (fun h=>?_)
 ·walk_at "w"
  exact qn (of_decide_eq_true h) H (av.refl _)
 have hsum:price<=ps.sum:=by
  rcases Sh ps.sum price with z|z
  ·exact absurd (decide_eq_true z) h
  ·exact z
 walk_at "w"
 refine⟨a,ps,rfl,hS,by omega,fun l ms h0 perm pw=>?_⟩
 have s1:=av.updN (o:=.lst (ms.map V.int)) h0
 have hq:aY K (upd H l (.lst (ms.map V.int))) l (ms.map V.int):=aY.of ax
 generalize upd H l (.lst (ms.map V.int))=H1 at *
 have hlen:ms.length=ps.length:=perm.length_eq
 have hms:∀y∈ms,0<=y:=fun y hy=>hp y (perm.mem_iff.mp hy)
 have hsm:ms.sum=ps.sum:=Cj perm
 walk_at "w"
 refine Il (K:=K) (a:=l) (xs:=ms.map V.int) (fun i σ H'=>H1=H'/\i<=ms.length/\∃(m:Int)(v:Option V),m=price-(ms.take i).sum/\0<m/\(∀y∈ms.take i,y*((ms.length:Int)-(i:Int))<m)/\
  σ=[some (.ref a),some (.int price),some (.int m),some (.int ((ms.length:Int)-(i:Int))),v]) ⟨rfl,Q3 _,price,none,by simp,by omega,by simp,?_⟩ ?_ ?_ ?_
 ·rw[hL,hlen]
  show _=[_,_,_,some (V.int ((ps.length:Int)-((0:Nat):Int))),_]
  rw[show((ps.length:Int)-((0:Nat):Int))=(ps.length:Int) by omega]
  rfl
 ·rintro i σ H' _ ⟨rfl,_⟩
  exact hq
 ·rintro i x σ H' hx ⟨rfl,hil,m,v,hm,hm0,hA,rfl⟩
  have hi:i<ms.length:=by
   have:=(QN.mp hx).1
   rwa [P7]at this
  have hx':x=V.int ms[i]:=by
   rw[Sg,Qj hi]at hx
   exact(QX hx).symm
  subst hx'
  have hmi:0<=ms[i]:=hms _ (RA hi)
  obtain⟨b1,b2⟩:=pairwise_split pw hi
  have htk:ms.take (i+1)=ms.take i++[ms[i]]:=by
   rw[Us,Qj hi]
   rfl
  show aE _ _ _ _ _
  walk_at "w"
  refine LA (fun h=>?_) (fun h=>?_)
  ·have h:=of_decide_eq_true h
   walk_at "w"
   exists rfl,m,(ms.length:Int)-(i:Int),rfl,by omega,by omega
   have e:ms=ms.take i++ms[i]::ms.drop (i+1):=by
    rw[XJ,YM]
   have key:=G1 (pre:=ms.take i) (post:=ms.drop (i+1)) (x:=ms[i]) (m:=m) (p:=(ms.length:Int)-(i:Int)) (price:=price)
    (by rw[Rq];omega) hm hm0 hA h b2
   rw[<-e]at key
   refine qs hsum _ _ ?_ s1
   unfold IH at key ⊢
   rw[CQ perm,CQ perm]at key
   exact key
  ·have h:¬m<=ms[i]*((ms.length:Int)-(i:Int)):=fun z=>h (decide_eq_true z)
   obtain⟨c1,c2⟩:=JJ (p:=(ms.length:Int)-(i:Int)) (by omega) hmi b1 h
   walk_at "w"
   exists rfl,hi,m-ms[i],some (.int ms[i]),?_,c1,?_
   ·rw[htk,Ip]
    omega
   ·rw[htk]
    have e:(ms.length:Int)-((i+1:Nat):Int)=(ms.length:Int)-(i:Int)-1:=by omega
    rw[e]
    exact c2
   ·have e:(ms.length:Int)-((i+1:Nat):Int)=(ms.length:Int)-(i:Int)-1:=by omega
    rw[e]
    rfl
 ·rintro σ H' ⟨rfl,_,m,v,hm,hm0,hA,rfl⟩
  exfalso
  rw[P7,UM]at hm
  omega
theorem range_getD{α β:Type}(f:α->β)(d:α)(xs:List α):(P4 xs.length).map (fun i=>f (xs.getD i d))=xs.map f:=by
 apply S2
 ·simp
 ·intro k h1 h2
  have hk:k<xs.length:=by simpa using h1
  simp[Qm,hk]
theorem Bf:∀vs H Q E,ku K vs H Q E->ly K {nx:=fun _ H'=>Q .non H',rt:=Q} (start ["wanted","works"] vs) H:=by
 rintro vs H Q E ⟨_,a,b,ws,ks,rfl,hA,hB,hl,q⟩
 have hlm:(ks.map V.int).length=ks.length:=P7 _
 unfold ly
 walk_at "v"
 refine bD (dE (xs:=ks.map V.int) 0) (fun j=>[some ((ks.map V.int).getD j .non),some (.ref a)]) (by rintro j σ' (rfl|⟨k,rfl⟩)<;>rfl) (fun H' s=>s.seq hB) (by rw[hlm];exact P6 (show ks.length<=1000 by omega) bo) (fun j=>.bl (decide (ks.getD j 0∈ws))) ?_ ?_
 ·intro j hj H' G s k
  rw[hlm]at hj
  have e:(ks.map V.int).getD j .non=.int (ks.getD j 0):=by simp[Qm,hj]
  rw[e]
  walk_at "v"
  exact k H' (av.refl _)
 ·intro l H' f s h
  have e:(P4 (ks.map V.int).length).map (fun j=>V.bl (decide (ks.getD j 0∈ws)))=(ks.map fun k=>decide (k∈ws)).map V.bl:=by
   rw[hlm,range_getD (fun k=>V.bl (decide (k∈ws))) 0 ks,Qn]
   rfl
  rw[e]at h
  walk_at "v"
  have e2:(ks.map fun k=>decide (k∈ws)).all id=ks.all fun k=>decide (k∈ws):=by
   rw[TX]
   rfl
  rw[e2]
  exact q H' s
theorem Ab:∀vs H Q E,kL K vs H Q E->kI K {nx:=fun _ H'=>Q .non H',rt:=Q} (start ["wishes","works"] vs) H:=by
 rintro vs H Q E ⟨_,a,b,rows,ks,rfl,⟨bs,hA,hP⟩,hB,hl1,hl2,q⟩
 have hbl:bs.length=rows.length:=(Qv hP).symm
 have hlm:(bs.map V.ref).length=bs.length:=P7 _
 unfold kI
 walk_at "v"
 refine kQ (rK (xs:=bs.map V.ref) 0 1) (fun i=>[some (.int i),some ((bs.map V.ref).getD i .non),some (.ref b)]) (by rintro i σ' (rfl|⟨k,rfl⟩)<;>rfl) (fun H' s=>s.seq hA) (by rw[hlm];exact P6 (show bs.length<=1000 by omega) bo) (fun i=>ks.all fun k=>decide (k∈rows.getD i [])) (fun i=>.int i) ?_ ?_ ?_
 ·intro i hi H' G s k
  rw[hlm]at hi
  obtain⟨row,hr,hq⟩:=km hP (show bs[i]?=some bs[i] by simp[hi])
  have e:(bs.map V.ref).getD i .non=.ref bs[i]:=by simp[Qm,hi]
  have e2:rows.getD i []=row:=by simp[Qm,hr]
  rw[e2]at k
  rw[e]
  walk_at "v"
  refine⟨rfl,bs[i],b,row,ks,rfl,s.seq hq,s.seq hB,hl2,fun H'' s'=>?_⟩
  walk_at "v"
  exact k H'' s'
 ·intro i hi _ H' G s k
  walk_at "v"
  exact k H' (av.refl _)
 ·intro l H' f s h
  rw[hlm,hbl]at h
  refine q l H' f s ?_
  rw[h]
  unfold kd
  rw[Qn]
  rfl
theorem yp:∀vs H Q E,gq K vs H Q E->jN K {nx:=fun _ H'=>Q .non H',rt:=Q} (start ["wishes","work"] vs) H:=by
 rintro vs H Q E ⟨_,a,rows,k,rfl,hR,hl,q⟩
 unfold jN
 walk_at "v"
 rename_i l1 H1 f1 s1 h1
 refine⟨rfl,a,l1,rows,[k],rfl,by walk_at "rows",aY.of h1,hl,WS rfl,fun l H' f s h=>?_⟩
 exact q l H' (s1.free f) (s1.trans s) h
theorem Df:∀vs H Q E,mD K vs H Q E->mx K {nx:=fun _ H'=>Q .non H',rt:=Q} (start ["purses","wishes","work","price"] vs) H:=by
 rintro vs H Q E ⟨_,a,b,ps,rows,k,price,rfl,hA,hB,hv,hl,hp,hpr,qn,qs⟩
 unfold mx
 walk_at "v"
 refine⟨rfl,b,rows,(k:Int),rfl,hB,by omega,fun lw H1 f1 s1 h1=>?_⟩
 rw[xn]at h1
 have hwl:=G7 rows k
 have hA1:=s1.seq hA
 have q1:aY K H1 lw (((dA rows k).map fun i:Nat=>(i:Int)).map V.int):=aY.of h1
 have hlw:(((dA rows k).map fun i:Nat=>(i:Int)).map V.int).length=(dA rows k).length:=by simp
 walk_at "v"
 refine bD (dE (xs:=((dA rows k).map fun i:Nat=>(i:Int)).map V.int) 0) (fun j=>[some ((((dA rows k).map fun i:Nat=>(i:Int)).map V.int).getD j .non),some (.ref a)]) (by rintro j σ' (rfl|⟨k,rfl⟩)<;>rfl) (fun H' s=>s.seq q1) (by rw[hlw];exact P6 (show _<=1000 by omega) bo) (fun j=>.int (PF ps ((dA rows k).getD j 0))) ?_ ?_
 ·intro j hj H' G s kk
  rw[hlw]at hj
  have e:(((dA rows k).map fun i:Nat=>(i:Int)).map V.int).getD j .non=.int (((dA rows k).getD j 0:Nat):Int):=by simp[Qm,hj]
  have hm:(dA rows k).getD j 0∈dA rows k:=by simp[Qm,hj]
  have hi:=JN hm
  rw[e]
  generalize (dA rows k).getD j 0=i at *
  walk_at "v"
  refine cA (s.seq hA1) (bM (Eg (by omega))) ?_
  exact kk H' (av.refl _)
 intro l H2 f2 s2 h2
 have e2:(P4 (((dA rows k).map fun i:Nat=>(i:Int)).map V.int).length).map (fun j=>V.int (PF ps ((dA rows k).getD j 0)))=((dA rows k).map (PF ps)).map V.int:=by
  rw[hlw,bw (fun i=>V.int (PF ps i)) 0 (dA rows k),Qn]
  rfl
 rw[e2]at h2
 walk_at "v"
 refine⟨rfl,l,(dA rows k).map (PF ps),price,rfl,aY.of h2,by rw[P7];omega,fun p h=>?_,hpr,fun h H3 s3=>?_,fun h L H3 hL s3=>?_⟩
 ·obtain⟨i,_,e⟩:=P9.mp h
  rw[<-e]
  exact Jc hp i
 ·rw[Ci]at h
  exact qn h H3 (s1.trans (s2.trans s3))
 ·rw[Ci]at h
  obtain⟨z1,z2,z3⟩:=hL
  rw[HF]at z2 z3
  exact qs h L H3 z1 z2 z3 (s1.trans (s2.trans s3))
theorem AQ:∀vs H Q E,kj K vs H Q E->k9 K {nx:=fun _ H'=>Q .non H',rt:=Q} (start ["purses","costs","wishes","done","offers","work","price"] vs) H:=by
 rintro vs H Q E ⟨_,a,b,c,d,ps,cs,rows,done,rfl,hA,hB,hC,hD,hl,hb,hv1,hv,hpl,hp,hdl,q⟩
 unfold k9
 walk_at "q"
 walk_at "z"
 rename_i lo H1 f1 s1 h1
 walk_at "q"
 walk_at "z"
 refine⟨rfl,b,c,cs,rows,rfl,s1.seq hB,s1.rows hC,hl,hb,hv1,hv,fun lp H2 f2 s2 h2=>?_⟩
 have hpr:∀j,j<cs.length->(((cs.map (· * ((mZ rows.length ^ (cs.length+1):Nat):Int))).map V.int)).getD j .non=.int ((bO cs rows).c j):=fun j hj=>by
  simp[Qm,hj,bO]
 have hlx:((cs.map (· * ((mZ rows.length ^ (cs.length+1):Nat):Int))).map V.int).length=cs.length:=by simp
 generalize (cs.map (· * ((mZ rows.length ^ (cs.length+1):Nat):Int))).map V.int=xs at *
 have q2:aY K H2 lp xs:=aY.of h2
 have hne:lp≠lo:=fun z=>by
  rw[z,h1]at f2
  cases f2
 have h1':=s2 _ _ h1
 have s12:=s1.trans s2
 walk_at "z"
 refine rT (rK (xs:=xs) 5 6) (fun i σ H'=>av H H'/\H' lp=some (.lst xs)/\∃(os:List (Option Int))(v5 v6:Option V),H' lo=some (.lst (os.map oV))/\os.length=i/\i<=cs.length/\(∀j o,os[j]?=some o->Cn (bO cs rows) (PF ps) done j o)/\σ=[some (.ref a),some (.ref b),some (.ref c),some (.ref d),some (.ref lo),v5,v6]) ⟨s12,h2,[],_,_,h1',rfl,Q3 _,(fun j o h=>by simp at h),rfl⟩ (fun i σ H' h=>aY.of h.2.1) ?_ ?_
 ·rintro i σ Ha Hb hi ⟨sa,hpa,os,v5,v6,ho,hol,hil,hok,rfl⟩ sb
  rw[hlx]at hi
  rw[hpr i hi]
  have sab:=sa.trans sb
  have fit:(os.map oV).length<PZ:=by rw[P7,hol];exact QD (show i<1000 by omega) bo
  have add:∀(o:Option Int)(Hc:Hp),av Hb Hc->Cn (bO cs rows) (PF ps) done i o->av H (upd Hc lo (.lst (os.map oV++[oV o])))/\(upd Hc lo (.lst (os.map oV++[oV o]))) lp=some (.lst xs)/\∃(os':List (Option Int))(v5 v6:Option V),(upd Hc lo (.lst (os.map oV++[oV o]))) lo=some (.lst (os'.map oV))/\os'.length=i+1/\i+1<=cs.length/\(∀j o,os'[j]?=some o->Cn (bO cs rows) (PF ps) done j o)/\[some (V.ref a),some (.ref b),some (.ref c),some (.ref d),some (.ref lo),some (.int (i:Int)),some (.int ((bO cs rows).c i))]=[some (.ref a),some (.ref b),some (.ref c),some (.ref d),some (.ref lo),v5,v6]:=by
   intro o Hc sc hoff
   refine⟨(sab.trans sc).upd f1,by rw[ak hne];exact sc _ _ (sb _ _ hpa),os++[o],_,_,by rw[ax];simp,by simp[hol],hi,fun j o' hj=>?_,rfl⟩
   by_cases hjl:j<os.length
   ·rw[Sj hjl]at hj
    exact hok j o' hj
   ·rw[Tn (by omega)]at hj
    cases e:j-os.length with
    |zero=>
     rw[e]at hj
     have e1:o=o':=by simpa using hj
     have e2:j=i:=by omega
     rw[<-e1,e2]
     exact hoff
    |succ n=>rw[e]at hj;simp at hj
  have hD':=sab.seq hD
  have hA':=sab.seq hA
  have hC':=sab.rows hC
  have ho':=sb _ _ ho
  show cS _ _ _ _
  walk_at "z"
  exists NK ho'
  walk_at "z"
  refine dJ (fun h=>?_) (fun h=>?_)
  ·walk_at "z"
   refine gf ho' fit ?_
   exact add none Hb (av.refl _) (.inl (mQ.mp h))
  ·have hn:i∉done:=fun z=>h (mQ.mpr z)
   walk_at "z"
   refine⟨rfl,a,c,ps,rows,i,_,rfl,hA',hC',hv,hpl,hp,LL hb i hi,fun hlt Hc sc=>?_,fun hle L Hc z1 z2 z3 sc=>?_⟩
   ·walk_at "z"
    refine gf (sc _ _ ho') fit ?_
    exact add none Hc sc (.inr hlt)
   ·walk_at "z"
    refine gf (sc _ _ ho') fit ?_
    exact add (some L) Hc sc ⟨hn,z1,z2,z3⟩
 rintro σ Ha ⟨sa,_,os,v5,v6,ho,hol,_,hok,rfl⟩
 rw[hlx]at hol
 walk_at "z"
 exact q lo Ha os f1 sa ho hol hok
theorem ES:∀vs H Q E,pL K vs H Q E->pD K {nx:=fun _ H'=>Q .non H',rt:=Q} (start ["offers","best","work","offer"] vs) H:=by
 rintro vs H Q E ⟨_,a,os,rfl,hA,hl,q⟩
 have hlo:(os.map oV).length=os.length:=P7 _
 unfold pD
 walk_at "q"
 walk_at "z"
 walk_at "q"
 walk_at "z"
 try refine⟨a,rfl,⟨_,hA⟩,?_⟩
 refine rT (rK (xs:=os.map oV) 2 3) (fun i σ H'=>av H H'/\∃(k:Option Nat)(v2 v3:Option V),gK (os.take i) k/\σ=[some (.ref a),some (oV (k.map fun j:Nat=>(j:Int))),v2,v3]) ⟨av.refl _,none,_,_,IG,rfl⟩ (fun i σ H' h=>h.1.seq hA) ?_ ?_
 ·rintro i σ Ha Hb hi ⟨sa,k,v2,v3,hk,rfl⟩ sb
  rw[hlo]at hi
  have hi':os[i]?=some os[i]:=by simp[hi]
  have e:(os.map oV).getD i .non=oV os[i]:=by simp[Qm,hi]
  have htk:=take_snoc hi'
  have htl:(os.take i).length=i:=by rw[QY];omega
  rw[e]
  have sab:=sa.trans sb
  show cm _ _ _ _ _ _
  cases ho:os[i]with
  |none=>
   rw[ho]at htk
   show cm _ _ _ _ [some (V.ref a),some (oV (k.map fun j:Nat=>(j:Int))),some (.int (i:Int)),some .non] _
   walk_at "z"
   refine Je rfl ?_
   walk_at "z"
   exact⟨sab,k,_,_,by rw[htk];exact FZ hk,rfl⟩
  |some M=>
   rw[ho]at htk
   cases k with
   |none=>
    show cm _ _ _ _ [some (V.ref a),some .non,some (.int (i:Int)),some (.int M)] _
    walk_at "z"
    refine Fq (by simp) ?_
    walk_at "z"
    refine IU rfl ?_
    walk_at "z"
    refine⟨sab,some i,_,_,?_,rfl⟩
    have:=Eu (M:=M) hk
    rw[htl]at this
    rw[htk]
    exact this
   |some j=>
    show cm _ _ _ _ [some (V.ref a),some (.int (j:Int)),some (.int (i:Int)),some (.int M)] _
    have hk':=hk
    obtain⟨L,hL,_⟩:=hk'
    have hLo:os[j]?=some (some L):=by
     have h:=hL
     rw[List.getElem?_take]at h
     split at h
     ·exact h
     ·cases h
    have hix:(os.map oV)[j]?=some (.int L):=by
     rw[Sg,hLo]
     rfl
    walk_at "z"
    refine Fq (by simp) ?_
    walk_at "z"
    refine FV (by simp) ?_
    walk_at "z"
    refine cA (sab.seq hA) (bM hix) ?_
    walk_at "z"
    refine dJ (fun h=>?_) (fun h=>?_)
    ·walk_at "z"
     refine⟨sab,some i,_,_,?_,rfl⟩
     have:=F5 hk hL h
     rw[htl]at this
     rw[htk]
     exact this
    ·walk_at "z"
     refine⟨sab,some j,_,_,?_,rfl⟩
     rw[htk]
     exact F6 hk hL h
 rintro σ Ha ⟨sa,k,v2,v3,hk,rfl⟩
 rw[hlo,UM]at hk
 walk_at "z"
 exact q k Ha hk sa
theorem Hk{ms:List Int}{ks:List Nat}(h:ms.Perm (ks.map fun k:Nat=>(k:Int))):∃ws:List Nat,ms=ws.map fun k:Nat=>(k:Int):=by
 exists ms.map Int.toNat
 rw[Qn]
 conv=>lhs;rw[<-List.map_id ms]
 refine Ss fun x hx=>?_
 obtain⟨k,_,e⟩:=P9.mp (h.mem_iff.mp hx)
 rw[<-e]
 rfl
theorem Bx:∀vs H Q E,mE K vs H Q E->nB K {nx:=fun _ H'=>Q .non H',rt:=Q} (start ["steps"] vs) H:=by
 rintro vs H Q E ⟨_,a,sts,rfl,hA,hl,hw,hn,q⟩
 obtain⟨ts,bs,B⟩:=hA.b
 have qA:aY K H a (ts.map V.ref):=(B.ys (av.refl _)).1
 unfold nB
 walk_at "z"
 refine bD (j4 (ts:=ts) (u:=fun i=>.int ((sts.getD i stN).1:Nat)) (v:=fun i=>.int (sts.getD i stN).2.1) (w:=fun i=>.ref (bs.getD i 0)) 0 1 2) (fun j=>[some (.int ((sts.getD j stN).1:Nat)),some (.int (sts.getD j stN).2.1),some (.ref (bs.getD j 0))]) (by rintro j σ' (rfl|⟨k,rfl⟩)<;>rfl) (fun H' s=>B.ys s) (by rw[B.tl];exact P6 (show sts.length<=1000 by omega) bo) (fun j=>.int ((sts.getD j stN).1:Nat)) ?_ ?_
 ·intro j hj H' G s kk
  walk_at "z"
  exact kk H' (av.refl _)
 intro l H1 f1 s1 h1
 have e1:(P4 ts.length).map (fun j=>V.int ((sts.getD j stN).1:Nat))=((sts.map (·.1)).map fun k:Nat=>(k:Int)).map V.int:=by
  rw[B.tl,bw (fun x:Nat×Int×List Int=>V.int ((x.1:Nat):Int)) stN sts,Qn,Qn]
  rfl
 rw[e1]at h1
 walk_at "z"
 refine⟨l,(sts.map (·.1)).map fun k:Nat=>(k:Int),rfl,aY.of h1,by simp;omega,fun p ms hp perm pw=>?_⟩
 have s2:=av.updN (o:=.lst (ms.map V.int)) hp
 have h2:(upd H1 p (.lst (ms.map V.int))) p=some (.lst (ms.map V.int)):=ax
 generalize upd H1 p (.lst (ms.map V.int))=H2 at *
 obtain⟨ws,rfl⟩:=Hk perm
 have hmem:∀k,k∈ws↔k∈sts.map (·.1):=fun k=>by
  rw[<-mQ,perm.mem_iff,mQ]
 have hnd:ws.Nodup:=by
  have h3:((sts.map (·.1)).map fun k:Nat=>(k:Int)).Nodup:=V4 _ (fun x y hxy z=>hxy (by omega)) hn
  have h4:=(perm.nodup_iff).mpr h3
  exact YI _ (fun x y hxy z=>hxy (by rw[z])) h4
 have hpw:ws.Pairwise (· < ·):=by
  have h5:ws.Pairwise (·<=·):=YI _ (fun x y h=>by omega) pw
  exact YS (fun x y h6 h7=>Nat.lt_of_le_of_ne h6 h7) h5 hnd
 exact q p H2 ws (s1.free hp) (s1.trans s2) h2 hpw hmem
theorem Ez:∀vs H Q E,pY K vs H Q E->pZ K {nx:=fun _ H'=>Q .non H',rt:=Q} (start ["purses","level"] vs) H:=by
 rintro vs H Q E ⟨_,a,ps,lev,rfl,hS,hl,q⟩
 unfold pZ
 walk_at "w"
 refine Hl (K:=K) (xs:=ps.map V.int) (fun x v=>∃p,x=.int p/\v=.int (min p lev)) [some (.int lev)] rfl hS (by rw[P7];exact P6 hl (by decide)) ?_ ?_
 ·intro x hx H' G s k
  obtain⟨p,_,rfl⟩:=JB hx
  walk_at "w"
  exact k _ _ ⟨p,rfl,rfl⟩ (av.refl _)
 ·intro l ys H' h0 s h1 pr
  have e:=xk pr LJ
  subst e
  refine q l H' h0 s ?_
  rw[h1,Qn]
  rfl
theorem vd:∀vs H Q E,iG K vs H Q E->iZ K {nx:=fun _ H'=>Q .non H',rt:=Q} (start ["purses","wishes","work","level","wanters"] vs) H:=by
 rintro vs H Q E ⟨_,a,b,ps,rows,k,L,rfl,hA,hB,hl,hl64,q⟩
 have hlp:((ps.map (min · L)).map V.int).length=ps.length:=by simp
 unfold iZ
 walk_at "q"
 walk_at "z"
 refine⟨rfl,b,rows,(k:Int),rfl,hB,by omega,fun lw H1 f1 s1 h1=>?_⟩
 have hA1:=s1.seq hA
 walk_at "z"
 refine⟨rfl,a,ps,L,rfl,hA1,hl64,fun lq H2 f2 s2 h2=>?_⟩
 have q1:aY K H2 lw ((kd rows [(k:Int)]).map V.int):=aY.of (s2 _ _ h1)
 have q2:aY K H2 lq ((ps.map (min · L)).map V.int):=aY.of h2
 walk_at "z"
 try refine⟨lq,rfl,⟨_,q2⟩,?_⟩
 refine bD (rK (xs:=(ps.map (min · L)).map V.int) 0 1) (fun j=>[some (.int j),some (((ps.map (min · L)).map V.int).getD j .non),some (.ref lw)]) (by rintro j σ' (rfl|⟨k,rfl⟩)<;>rfl) (fun H' s=>s.seq q2) (by rw[hlp];exact P6 (show _<=1000 by omega) bo) (fun j=>.int (Bs (WR rows) (PF ps) k L j)) ?_ ?_
 ·intro j hj H' G s kk
  rw[hlp]at hj
  have e:((ps.map (min · L)).map V.int).getD j .non=.int (min (PF ps j) L):=by unfold PF;simp[Qm,hj]
  have q1':=s.seq q1
  rw[e]
  walk_at "z"
  unfold Bs at kk
  refine dJ (fun h=>?_) (fun h=>?_)
  ·rw[if_pos (wc.mp h)]at kk
   walk_at "z"
   exact kk H' (av.refl _)
  ·rw[if_neg fun z=>h (wc.mpr z)]at kk
   walk_at "z"
   exact kk H' (av.refl _)
 ·intro l H' f s h
  rw[hlp]at h
  refine q l H' (s1.free (s2.free f)) (s1.trans (s2.trans s)) ?_
  rw[h]
  unfold my
  rw[Qn]
  rfl
theorem wH:∀vs H Q E,d0 K vs H Q E->i5 K {nx:=fun _ H'=>Q .non H',rt:=Q} (start ["purses","costs","wishes","steps","left","offers","work","level"] vs) H:=by
 rintro vs H Q E ⟨_,a,b,c,d,ps,cs,rows,sts,rfl,hA,hB,hC,hD,hl,hb,hv1,hv,hpl,hsl,hsw,hsn,hsp,hnn,qn,qs⟩
 have hll:(bL ps sts).length=ps.length:=by unfold bL;rw[P7,S1]
 unfold i5
 walk_at "q"
 walk_at "z"
 refine⟨rfl,a,d,ps,sts,rfl,hA,hD,by omega,hsl,hsp,fun l1 H1 f1 s1 h1=>?_⟩
 walk_at "z"
 walk_at "q"
 walk_at "z"
 refine⟨rfl,d,sts,rfl,kW s1 hD,hsl,hsw,hsn,fun l2 H2 ws f2 s2 h2 hpw hmem=>?_⟩
 walk_at "z"
 have s02:=s1.trans s2
 have hwl:ws.length<=12:=by
  have:=yX (l:=ws) (m:=sts.map (·.1)) (XG (fun h=>Qt h) hpw) fun x hx=>(hmem x).mp hx
  rw[P7]at this
  omega
 refine⟨rfl,l1,b,c,l2,bL ps sts,cs,rows,ws,rfl,aY.of (s2 _ _ h1),s02.seq hB,s02.rows hC,aY.of h2,hl,hb,hv1,hv,by rw[hll];exact hpl,hnn,hwl,fun l3 H3 os f3 s3 h3 hol hok=>?_⟩
 have s03:=s02.trans s3
 have h13:H3 l1=some (.lst ((bL ps sts).map V.int)):=s3 _ _ (s2 _ _ h1)
 walk_at "z"
 walk_at "q"
 walk_at "z"
 refine⟨rfl,l3,os,rfl,aY.of h3,by omega,fun k H4 hnx s4=>?_⟩
 have s04:=s03.trans s4
 walk_at "z"
 walk_at "q"
 cases k with
 |none=>
  show cm _ _ _ _ [some (V.ref a),some (.ref b),some (.ref c),some (.ref d),some (.ref l1),some (.ref l3),some .non,none] _
  walk_at "z"
  refine IU rfl ?_
  walk_at "z"
  refine qn (fun k hk hkn=>?_) H4 s04
  have hko:os[k]?=some os[k]:=by simp[hol,hk]
  have h5:=hok k os[k] hko
  rw[hnx os[k] (Tg hko)]at h5
  rcases h5 with z|z
  ·exact absurd ((hmem k).mp z) hkn
  ·exact z
 |some k=>
  have hnx':=hnx
  obtain⟨L,hkL,_⟩:=hnx'
  show cm _ _ _ _ [some (V.ref a),some (.ref b),some (.ref c),some (.ref d),some (.ref l1),some (.ref l3),some (.int (k:Int)),none] _
  walk_at "z"
  refine FV (by simp) ?_
  walk_at "z"
  walk_at "q"
  walk_at "z"
  have hix:(os.map oV)[k]?=some (.int L):=by
   rw[Sg,hkL]
   rfl
  refine cA (aY.of (s4 _ _ h3)) (bM hix) ?_
  walk_at "z"
  refine⟨rfl,l1,c,bL ps sts,rows,k,L,rfl,aY.of (s4 _ _ h13),s04.rows hC,by omega,by omega,fun lp H5 f5 s5 h5=>?_⟩
  walk_at "z"
  rename_i t H6 f6 s6 h6
  have N:=Ar (T:=bO cs rows) hol hok (fun i _=>Jc hnn i) (LL hb) hkL hnx
  exact qs k L (BM (fun j=>(hmem j).symm) N) t lp H6 (s04.free (s5.free f6)) (s04.free f5) (s04.trans (s5.trans s6)) h6 (s6 _ _ h5)
theorem F8:∀vs H Q E,sr K vs H Q E->sG K {nx:=fun _ H'=>Q .non H',rt:=Q} (start ["purses","costs","wishes","steps","step"] vs) H:=by
 rintro vs H Q E ⟨_,a,b,c,ps,cs,rows,rfl,hA,hB,hC,G,q⟩
 have h12:=G.c12
 unfold sG
 walk_at "q"
 walk_at "z"
 rename_i ls H1 f1 s1 h1
 have ask:∀(r:List (Nat×Int))(Ha:Hp)(R:VK),Pre cs rows ps r->av H Ha->iX H Ha ls (aT rows ps r)->
   (∀(Hb:Hp)(v:V),av Ha Hb->((v=.non/\∀k,k<cs.length->k∉r.map (·.1)->Hx rows.length (WR rows) (PF (cG rows ps r)) k<(bO cs rows).c k)\/∃(k:Nat)(L:Int)(t:PK),v=.ref t/\Nx (bO cs rows) (PF (cG rows ps r)) (r.map (·.1)) k L/\t≠ls/\qH H Hb ls (k,L,my rows (cG rows ps r) k L) t)->R v Hb)->
   d0 K [.ref a,.ref b,.ref c,.ref ls] Ha R E0:=by
  intro r Ha R hr sa hst hR
  have hrl:=hr.len
  have hls:∃o,Ha ls=some o:=by
   obtain⟨ts,z,_⟩:=hst
   exact⟨_,z⟩
  obtain⟨o,ho⟩:=hls
  have e1:=gU rows ps r
  have e2:=wJ rows ps r
  refine⟨rfl,a,b,c,ls,ps,cs,rows,aT rows ps r,rfl,sa.seq hA,sa.seq hB,sa.rows hC,hst.at,h12,G.cb,G.v1,G.v20,G.pl,by rw[iI];omega,fun x hx=>?_,by rw[e2];exact hr.nd,jr rows ps r,by rw[e1];exact B1 G.p0,fun h H' s'=>?_,fun k L n t b' H' ft fb s' ht hb'=>?_⟩
  ·have:x.1∈r.map (·.1):=by rw[<-e2];exact P9.mpr ⟨x,hx,rfl⟩
   obtain⟨y,hy,e⟩:=P9.mp this
   have:=hr.lt y hy
   omega
  ·rw[e1,e2]at h
   exact hR H' .non s' (.inl ⟨rfl,h⟩)
  ·rw[e1,e2]at n
   rw[e1]at hb'
   refine hR H' (.ref t) s' (.inr ⟨k,L,t,rfl,n,fun z=>?_,b',sa.free ft,sa.free fb,fun z=>?_,ht,hb'⟩)
   ·rw[z,ho]at ft
    cases ft
   ·rw[z,ho]at fb
    cases fb
 let St:List (Nat×Int)->V->Hp->Prop:=fun r v Hb=>(v=.non/\∀k,k<cs.length->k∉r.map (·.1)->Hx rows.length (WR rows) (PF (cG rows ps r)) k<(bO cs rows).c k)\/∃(k:Nat)(L:Int)(t:PK),v=.ref t/\Nx (bO cs rows) (PF (cG rows ps r)) (r.map (·.1)) k L/\t≠ls/\qH H Hb ls (k,L,my rows (cG rows ps r) k L) t
 walk_at "q"
 walk_at "z"
 refine ask [] H1 _ (FQ cs rows ps) s1 ⟨[],h1,.nil⟩ fun H2 v s2 hv=>?_
 walk_at "z"
 walk_at "q"
 exists fun μ σ H'=>∃(r:List (Nat×Int))(v:V),σ=[some (.ref a),some (.ref b),some (.ref c),some (.ref ls),some v]/\Pre cs rows ps r/\av H H'/\iX H H' ls (aT rows ps r)/\St r v H'/\μ=cs.length-r.length,⟨_,[],v,rfl,FQ cs rows ps,s1.trans s2,⟨[],s2 _ _ h1,.nil⟩,hv,rfl⟩
 rintro μ σ Ha ⟨r,v,rfl,hr,sa,hst,hv,rfl⟩
 rcases hv with⟨rfl,hstop⟩|⟨k,L,t,rfl,n,htl,b',z1,z2,z3,z4,z5⟩
 ·walk_at "z"
  refine Je rfl ?_
  walk_at "z"
  exact q ls Ha r f1 sa hst (He G (hr.stop hstop))
 ·walk_at "z"
  refine Fq (by simp) ?_
  have hr':=hr.snoc G.pl n
  have hlen:=hr'.len
  rw[QV]at hlen
  have hlen:r.length+1<=cs.length:=hlen
  exists fun σ' H'=>∃(v:V),σ'=[some (.ref a),some (.ref b),some (.ref c),some (.ref ls),some v]/\av H H'/\iX H H' ls (aT rows ps (r++[(k,L)]))/\St (r++[(k,L)]) v H',?_
  ·rintro σ' H' ⟨v,rfl,s',hst',hv'⟩
   exact⟨_,(by rw[QV];show cs.length-(r.length+1)<cs.length-r.length;omega),r++[(k,L)],v,rfl,hr',s',hst',hv',rfl⟩
  obtain⟨ts,ht,hpt⟩:=hst
  have hpl:=Qv hpt
  rw[iI]at hpl
  walk_at "q"
  walk_at "z"
  exists NK ht
  walk_at "z"
  refine gf ht (by rw[P7];exact QD (show ts.length<1000 by omega) bo) ?_
  have sb:av H (upd Ha ls (.lst (ts.map V.ref++[.ref t]))):=sa.upd f1
  have hst2:iX H (upd Ha ls (.lst (ts.map V.ref++[.ref t]))) ls (aT rows ps (r++[(k,L)])):=by
   exists ts++[t],by rw[ax,Rj];rfl
   rw[wU]
   refine vM (Ba hpt ht) (.cons ⟨b',z1,z2,z3,by rw[ak htl];exact z4,by rw[ak z3];exact z5⟩ .nil)
  generalize upd Ha ls (.lst (ts.map V.ref++[.ref t]))=Hb at *
  walk_at "z"
  refine ask (r++[(k,L)]) Hb _ hr' sb hst2 fun H3 v s3 hv3=>?_
  walk_at "z"
  obtain⟨ts3,y1,y2⟩:=hst2
  exact⟨v,rfl,sb.trans s3,⟨ts3,s3 _ _ y1,Paired.mapP y2 fun _ _ ⟨b3,w1,w2,w3,w4,w5⟩=>⟨b3,w1,w2,w3,s3 _ _ w4,s3 _ _ w5⟩⟩,hv3⟩
theorem oq(C:gT K):∀vs H Q E,eA K vs H Q E->eu K {nx:=fun _ H'=>Q .non H',rt:=Q} (start ["self","left","grains"] vs) H:=by
 rintro vs H Q E ⟨_,c,b,g,left,fp,s,rfl,⟨dx,d1,d2,w,wt,X,rfl⟩,hb,hg,hH,hll,hv,q⟩
 have hlm:(left.map V.int).length=left.length:=P7 _
 unfold eu
 walk_at "q"
 walk_at "z"
 refine zA X.at_ C.aI C.cB eX ?_
 walk_at "z"
 try refine fN (aY.of hb) ?_
 refine bD (dE (K:=K) (xs:=left.map V.int) 0) (fun j=>[some ((left.map V.int).getD j .non),some (.int g)]) (by rintro j σ' (rfl|⟨k,rfl⟩)<;>rfl) (fun H' s=>s.seq (aY.of hb)) (by rw[hlm];exact P6 (show _<=1000 by omega) bo) (fun j=>.int (left.getD j 0%g)) ?_ ?_
 ·intro j hj H' G s' kk
  rw[hlm]at hj
  have e:(left.map V.int).getD j .non=.int (left.getD j 0):=by simp[Qm,hj]
  rw[e]
  walk_at "z"
  exact kk H' (av.refl _)
 intro l1 H1 f1 s1 h1
 rw[hlm]at h1
 have e1:(P4 left.length).map (fun j=>V.int (left.getD j 0%g))=(left.map (· % g)).map V.int:=by
  rw[Qn];exact bw (fun x:Int=>V.int (x%g)) 0 left
 rw[e1]at h1
 have X1:=X.same s1
 have q1:aY K H1 l1 ((left.map (· % g)).map V.int):=aY.of h1
 walk_at "z"
 refine Kb hg hH ?_
 exists _,_,rfl,rfl,dx,_,X1.at_,(show 6<1000 by decide)
 rw[jy]
 have X2:=X1.setF (a:=s.pot+(left.map (· % g)).sum/g) (b:=s.giv) (e:=s.spt)
 have b2:bZ [c,d1,d2,w] H1 (upd H1 c (.ins (ao K "Chest") dx (gE d1 d2 w (s.pot+(left.map (· % g)).sum/g) s.giv s.spt))):=bZ.upd X1.at_ (by intro xs z;cases z) (by simp)
 have hb1:=s1 _ _ hb
 have hb2:upd H1 c (.ins (ao K "Chest") dx (gE d1 d2 w (s.pot+(left.map (· % g)).sum/g) s.giv s.spt)) b=some (.lst (left.map V.int)):=by rw[ak (aK hb1 X1.at_ (by simp))];exact hb1
 generalize upd H1 c (.ins (ao K "Chest") dx (gE d1 d2 w (s.pot+(left.map (· % g)).sum/g) s.giv s.spt))=H2 at *
 walk_at "z"
 unfold Ed
 walk_at "z"
 refine bW X2.at_ C.aI C.aS b9 ?_
 walk_at "z"
 try refine fN (aY.of hb2) ?_
 refine bD (dE (K:=K) (xs:=left.map V.int) 0) (fun j=>[some ((left.map V.int).getD j .non),some (.int g)]) (by rintro j σ' (rfl|⟨k,rfl⟩)<;>rfl) (fun H' s=>s.seq (aY.of hb2)) (by rw[hlm];exact P6 (show _<=1000 by omega) bo) (fun j=>.int (left.getD j 0/g)) ?_ ?_
 ·intro j hj H' G s' kk
  rw[hlm]at hj
  have e:(left.map V.int).getD j .non=.int (left.getD j 0):=by simp[Qm,hj]
  rw[e]
  walk_at "z"
  refine Kb hg hH ?_
  exact kk H' (av.refl _)
 intro l3 H3 f3 s3 h3
 rw[hlm]at h3
 have e3:(P4 left.length).map (fun j=>V.int (left.getD j 0/g))=(left.map (· / g)).map V.int:=by
  rw[Qn];exact bw (fun x:Int=>V.int (x/g)) 0 left
 rw[e3]at h3
 have X3:=X2.same s3
 walk_at "z"
 have eK:(eD s.ps).map (·.1)=(s.ps.map (·.1)).map RJ:=by unfold eD;rw[Qn,Qn];rfl
 refine⟨d1,l3,_,_,rfl,X3.p1,aY.of h3,by rw[cW];simp;exact Th hll.symm,by rw[cW];show s.ps.length<=1000;omega,?_,fun e f4=>?_⟩
 ·show((eD s.ps).map (·.1)).Nodup
  rw[eK]
  exact List.pairwise_map.mpr (XG (fun h e=>h (by injection e)) X.nd)
 have eZ:BF (eD s.ps) ((left.map (· / g)).map V.int)=eD ((s.ps.map (·.1)).zip (left.map (· / g))):=by
  unfold BF eD
  apply S2 (by simp)
  intro i g1 g2
  simp
 rw[show BF (eD (aG.mk s.ps s.cs s.ws (s.pot+(left.map (· % g)).sum/g) s.giv s.spt).ps) ((left.map (· / g)).map V.int)=_ from eZ]
 have s4:av H3 (upd H3 e (.dK (eD ((s.ps.map (·.1)).zip (left.map (· / g)))))):=av.updN f4
 have h4:upd H3 e (.dK (eD ((s.ps.map (·.1)).zip (left.map (· / g))))) e=some (.dK (eD ((s.ps.map (·.1)).zip (left.map (· / g))))):=ax
 generalize upd H3 e (.dK (eD ((s.ps.map (·.1)).zip (left.map (· / g)))))=H4 at *
 have X4:=X3.same s4
 walk_at "z"
 refine ma X4.at_ C.aI C.aS (show 6<1000 by decide) ?_
 rw[y6]
 have nd:(((s.ps.map (·.1)).zip (left.map (· / g))).map (·.1)).Nodup:=by
  rw[Xd (by simp[hll])]
  exact X.nd
 have X5:=X4.setD h4 (gj X3.p2 f4).symm nd
 refine q _ [c,e,d2,w] ⟨dx,e,d2,w,wt,X5,rfl⟩ (((((bZ.of s1).trans b2).trans (bZ.of s3)).trans (bZ.of s4)).trans (bZ.upd X4.at_ (by intro xs z;cases z) (by simp))) ?_
 intro a ha
 simp only[Qb,Rb,or_false]at ha
 rcases ha with rfl|rfl|rfl|rfl
 ·exact .inl (by simp)
 ·exact .inr (s1.free (b2.2.2 _ (s3.free f4)))
 ·exact .inl (by simp)
 ·exact .inl (by simp)
theorem lu(C:gT K):∀vs H Q E,dF K vs H Q E->dB K {nx:=fun _ H'=>Q .non H',rt:=Q} (start ["self","voter"] vs) H:=by
 rintro vs H Q E ⟨_,c,dx,d1,d2,w,n,wt,s,rfl,hc,hd,hw,hp,an,ac,aw,hl,q⟩
 have n1:c≠d2:=aK hc hd (by simp)
 have n2:w≠d2:=aK hw hd (by simp)
 have hk:=cW s.cs
 unfold dB
 with_reducible refine E8 ?_
 refine DF (d:=d2) (kvs:=eD s.cs) (fun k hk=>⟨_,rfl,bW hc C.aI C.bJ dM hk⟩) hd fun o Hf F=>?_
 refine zf F hd (Jn 0 1 (fun i=>.str (s.cs.getD i ("",0)).1) ?_) (fun i=>[some (.int i),some (.str (s.cs.getD i ("",0)).1),some (.str n),some (.ref c)]) (by rintro j σ' (rfl|⟨k,rfl⟩)<;>rfl) (fun H' h _=>h) (by rw[hk];exact P6 (show _<=1000 by omega) bo)
  (fun i=>decide ((n,(s.cs.getD i ("",0)).1)∈s.ws)) (fun i=>.int i) ?_ ?_ ?_
 ·intro i p hp'
  have hi:i<s.cs.length:=by rw[<-hk];exact(QN.mp hp').1
  rw[jA (Qj hi)]at hp'
  cases hp'
  rw[QG,Qj hi]
  rfl
 ·intro i hi H' G sx kk
  rw[hk]at hi
  have ai:aV (s.cs.getD i ("",0)).1:=ac _ (getD_mem _ hi)
  walk_at "z"
  rename_i t H2 f2 s2 h2
  refine bW (s2 _ _ (sx c _ n1 hc)) C.aI C.bQ fU ?_
  refine ED (p:=(n,(s.cs.getD i ("",0)).1)) h2 (s2 _ _ (sx w _ n2 hw)) (Paired.mapP hp fun _ a z=>s2 _ _ (sx a _ (aK z hd (by simp)) z)) an ai aw ?_
  rw[T7]
  walk_at "z"
  exact kk H2 s2
 ·intro i hi hb H' G sx kk
  walk_at "z"
  exact kk H' (av.refl _)
 intro l H2 f2 s2 h2
 rw[hk]at h2
 refine q l H2 f2 s2 ?_
 rw[h2]
 unfold intsOf BD
 rw[Qn]
 rfl
theorem pE(C:gT K):∀vs H Q E,eU K vs H Q E->eO K {nx:=fun _ H'=>Q .non H',rt:=Q} (start ["self","place","paid","name","rows"] vs) H:=by
 rintro vs H Q E ⟨_,c,b,k,L,paid,fp,s,rfl,⟨dx,d1,d2,w,wt,X,rfl⟩,hk,hb,hpl,hv,hn,q⟩
 have hkp:=cW s.ps
 have hgd:s.cs.getD k ("",0)=s.cs[k]:=by rw[QG,Qj hk];rfl
 unfold eO
 walk_at "q"
 walk_at "z"
 refine bW X.at_ C.aI C.bJ dM ?_
 walk_at "z"
 refine⟨d2,_,rfl,X.p2,fun l0 f0=>?_⟩
 have s1:av H (upd H l0 (.lst ((eD s.cs).map fun p=>kV p.1))):=av.updN f0
 have h1:upd H l0 (.lst ((eD s.cs).map fun p=>kV p.1)) l0=some (.lst ((eD s.cs).map fun p=>kV p.1)):=ax
 generalize upd H l0 (.lst ((eD s.cs).map fun p=>kV p.1))=H1 at *
 walk_at "z"
 refine cA (aY.of h1) (v:=.str (s.cs.getD k ("",0)).1) (bM (by rw[Sg,jA (Qj hk),hgd];rfl)) ?_
 walk_at "z"
 have X1:=X.same s1
 have hb1:=s1 _ _ hb
 walk_at "q"
 with_reducible refine FO ?_
 refine Hi (K:=K) (d:=d1) (l:=b) (kvs:=eD s.ps) (ys:=paid.map V.int) ?_ X1.p1 (aY.of hb1) (aK X1.p1 hb1 (by simp)) fun o Hf F=>?_
 ·intro kk hkk
  walk_at "z"
  refine bW X1.at_ C.aI C.aS b9 ?_
  walk_at "z"
  exact hkk
 refine yS F X1.p1 (KU (K:=K) (ys:=paid.map V.int) 0 1 (fun i=>.str (s.ps.getD i ("",0)).1) ?_ (by rw[hkp,P7,hpl];exact Qe _)) (fun i=>[some (.str (s.ps.getD i ("",0)).1),some ((paid.map V.int).getD i .non)]) (by rintro j σ' (rfl|⟨k,rfl⟩)<;>rfl)
  (fun H' h sx=>⟨h,aY.of (sx b _ (aK X1.p1 hb1 (by simp)).symm hb1)⟩) (by rw[hkp];exact P6 (show _<=1000 by omega) bo) (fun i=>decide (0<paid.getD i 0)) (fun i=>.tup [.str (s.ps.getD i ("",0)).1,.int (paid.getD i 0)]) ?_ ?_ ?_
 ·intro i p hp'
  have hi:i<s.ps.length:=by rw[<-hkp];exact(QN.mp hp').1
  rw[jA (Qj hi)]at hp'
  cases hp'
  rw[QG,Qj hi]
  rfl
 ·intro i hi H' G sx kk
  rw[hkp]at hi
  have e:(paid.map V.int).getD i .non=.int (paid.getD i 0):=by simp[Qm,show i<paid.length by omega]
  rw[e]
  walk_at "z"
  exact kk H' (av.refl _)
 ·intro i hi hb' H' G sx kk
  rw[hkp]at hi
  have e:(paid.map V.int).getD i .non=.int (paid.getD i 0):=by simp[Qm,show i<paid.length by omega]
  rw[e]
  walk_at "z"
  rename_i a H'' f s'' h
  exact kk a H'' f s'' h
 intro r bs H2 f2 s2 h2 pr
 rw[hkp]at pr
 have X2:=X1.same s2
 walk_at "z"
 refine bW X2.at_ C.aI C.bJ dM ?_
 walk_at "z"
 refine JL X2.p2 (v:=.int (s.cs.getD k ("",0)).2) (nD X.nd2 (getD_mem _ hk)) ?_
 walk_at "z"
 rename_i t H3 f3 s3 h3
 refine q t r H3 (s1.free (s2.free f3)) (s1.free f2) (fun e=>by rw[e,h2]at f3;cases f3) ((s1.trans s2).trans s3) h3 ⟨bs,s3 _ _ h2,?_⟩
 have e:(bK s (k,L,paid)).2.2=((P4 s.ps.length).filter fun i=>decide (0<paid.getD i 0)).map fun i=>((s.ps.getD i ("",0)).1,paid.getD i 0):=by
  show((s.ps.map (·.1)).zip paid).filter (fun p=>decide (0<p.2))=_
  have hz:((s.ps.map (·.1)).zip paid)=(P4 s.ps.length).map fun i=>((s.ps.getD i ("",0)).1,paid.getD i 0):=by
   apply S2 (by simp;omega)
   intro i g1 g2
   have gi:i<s.ps.length:=by simpa using g2
   simp[QG,gi,show i<paid.length by omega]
  rw[hz,Ve]
  rfl
 rw[e]
 exact eV (Paired.mapP pr fun i a z=>⟨s1.free z.1,s3 _ _ z.2.2⟩)
theorem oo(C:gT K):∀vs H Q E,cM K vs H Q E->eB K E {nx:=fun _ H'=>Q .non H',rt:=Q} (start ["self","work"] vs) H:=by
 rintro vs H Q E ⟨_,c,n,fp,s,rfl,⟨dx,d1,d2,w,wt,x,rfl⟩,h⟩
 unfold eB
 walk_at "z"
 refine bW x.at_ C.aI C.bJ dM ?_
 refine FD x.p2 ?_
 rcases h with⟨hn,q⟩|⟨hn,hz,q⟩
 ·obtain⟨p,hp,rfl⟩:=P9.mp hn
  rw[nD x.nd2 (show(p.1,p.2)∈s.cs from hp)]
  walk_at "z"
  exact q
 ·rw[oa hn]
  walk_at "z"
  obtain⟨n1,n2,n3⟩:=wI hz (show(Qp++("no work: ":PH)).length=9 by decide +kernel) (by decide)
  exact⟨_,rfl,n1,_,rfl,n,rfl,n2,_,rfl,n3,n3,(by decide:1<=PZ),q _ (av.refl _)⟩
theorem qF(C:gT K):∀vs H Q E,dP K vs H Q E->fk K E {nx:=fun _ H'=>Q .non H',rt:=Q} (start ["self","work"] vs) H:=by
 rintro vs H Q E ⟨_,c,n,fp,s,rfl,⟨dx,d1,d2,w,wt,X,rfl⟩,hw,qn,qe⟩
 unfold fk
 walk_at "q"
 walk_at "z"
 refine cC X.at_ (dy (by decide +kernel)) ?_
 walk_at "z"
 by_cases hin:n∈s.cs.map (·.1)
 rotate_left
 ·exact⟨rfl,c,n,_,s,rfl,⟨dx,d1,d2,w,wt,X,rfl⟩,.inr ⟨hin,qe _ (by rw[cq.due,if_neg hin])⟩⟩
 have q:=qn (by rw[cq.due,if_pos hin])
 have hm:=pT hin
 generalize vP s.cs n=x at *
 refine⟨rfl,c,n,_,s,rfl,⟨dx,d1,d2,w,wt,X,rfl⟩,.inl ⟨hin,?_⟩⟩
 walk_at "z"
 walk_at "q"
 walk_at "z"
 refine bW X.at_ C.aI C.bJ dM ?_
 exists d2,rfl,.inl ⟨_,.inl X.p2⟩
 walk_at "z"
 exists _,.inr n,.int x,X.p2,rfl,nD X.nd2 hm
 rw[Bz]
 have X2:=X.setC (cs:=s.cs.filter fun p=>decide (p.1≠n)) (rP X.nd2)
 have b1:bZ [c,d1,d2,w] H (upd H d2 (.dK (eD (s.cs.filter fun p=>decide (p.1≠n))))):=bZ.upd X.p2 (by intro xs z;cases z) (by simp)
 generalize upd H d2 (.dK (eD (s.cs.filter fun p=>decide (p.1≠n))))=H2 at *
 walk_at "z"
 refine bW X2.at_ C.aI C.bQ fU ?_
 exists w,rfl,⟨_,aY.of X2.w_⟩
 have hwl:s.ws.length=wt.length:=Qv X.wt
 refine nP (u5 (K:=K) (a:=w) (ts:=wt) (u:=fun i=>.str (s.ws.getD i ("","")).1) (v:=fun i=>.str (s.ws.getD i ("","")).2) 0 1) (fun i=>[some (.str (s.ws.getD i ("","")).1),some (.str (s.ws.getD i ("","")).2),some (.str n)]) (by rintro j σ' (rfl|⟨k,rfl⟩)<;>rfl) ?_ (P6 (show _<=1000 by omega) bo)
  (fun i=>!decide ((s.ws.getD i ("","")).2=n)) (fun i=>[.str (s.ws.getD i ("","")).1,.str (s.ws.getD i ("","")).2]) ?_ ?_ ?_
 ·intro H' s'
  refine⟨s'.seq (aY.of X2.w_),fun i b hb=>?_⟩
  have hi:i<s.ws.length:=by rw[hwl];exact(QN.mp hb).1
  obtain⟨b',z1,z2⟩:=gx X2.wt (Qj hi)
  rw[hb]at z1
  cases z1
  rw[QG,Qj hi]
  exact s'.seqT (kZ.of z2)
 ·intro i hi H' G s' kk
  walk_at "z"
  exact kk H' (av.refl _)
 ·intro i hi hb H' G s' kk
  walk_at "z"
  rename_i a H'' f s'' h
  exact kk a H'' f s'' h
 intro l bs H3 f3 s3 h3 pr
 have X3:=X2.same s3
 rw[<-hwl]at pr
 have hp:Qd (Br H3) (s.ws.filter fun p=>!decide (p.2=n)) bs:=by
  rw[<-iD (fun p:PH×PH=>!decide (p.2=n)) ("","") s.ws]
  exact eV pr
 walk_at "z"
 refine ma X3.at_ C.aI C.bQ (show 6<1000 by decide) ?_
 rw[sh]
 have X4:=X3.setW h3 hp
 refine q _ [c,d1,d2,l] ⟨dx,d1,d2,l,bs,X4,rfl⟩ ((b1.trans (bZ.of s3)).trans (bZ.upd X3.at_ (by intro xs z;cases z) (by simp))) ?_
 intro a ha
 simp only[Qb,Rb,or_false]at ha
 rcases ha with rfl|rfl|rfl|rfl
 ·exact .inl (by simp)
 ·exact .inl (by simp)
 ·exact .inl (by simp)
 ·exact .inr (b1.2.2 _ f3)
theorem xA(C:gT K):∀vs H Q E,iO K vs H Q E->je K {nx:=fun _ H'=>Q .non H',rt:=Q} (start ["self","grains","purses","wishes","steps","told","name","cost","rows"] vs) H:=by
 rintro vs H Q E ⟨_,c,fp,s,rfl,CH,G,qa,qb⟩
 obtain⟨dx,d1,d2,w,wt,X,rfl⟩:=id CH
 have hkp:=cW s.ps
 have hkc:=cW s.cs
 have hv:=G.v20
 have hn:=G.n12
 obtain⟨g0,gH⟩:=La ⟨hv,hn⟩
 unfold je
 walk_at "q"
 walk_at "z"
 refine bW X.at_ C.aI C.aS b9 ?_
 exists d1,_,rfl,X.p1
 by_cases hp:s.ps=[]
 ·rw[show(!(eD s.ps).isEmpty)=false by rw[hp];rfl]
  walk_at "z"
  rename_i l H1 f1 s1 h1 t H2 f2 s2 h2
  exact qa (.inl hp) t l H2 (s1.free f2) f1 (fun e=>by rw[e,h1]at f2;cases f2) (s1.trans s2) h2 (s2 _ _ h1)
 have hpos:0<s.ps.length:=Uj.mpr hp
 have e:(!(eD s.ps).isEmpty)=true:=by
  cases hh:s.ps with
  |nil=>exact absurd hh hp
  |cons=>rfl
 rw[e]
 walk_at "z"
 refine bW X.at_ C.aI C.bJ dM ?_
 exists d2,_,rfl,X.p2
 by_cases hc:s.cs=[]
 ·rw[show(!(eD s.cs).isEmpty)=false by rw[hc];rfl]
  walk_at "z"
  rename_i l H1 f1 s1 h1 t H2 f2 s2 h2
  exact qa (.inr hc) t l H2 (s1.free f2) f1 (fun e=>by rw[e,h1]at f2;cases f2) (s1.trans s2) h2 (s2 _ _ h1)
 have e:(!(eD s.cs).isEmpty)=true:=by
  cases hh:s.cs with
  |nil=>exact absurd hh hc
  |cons=>rfl
 rw[e]
 have qb:=qb hp hc
 have GT:=G.town hp
 walk_at "z"
 walk_at "q"
 walk_at "z"
 refine bW X.at_ C.aI C.aS b9 ?_
 walk_at "z"
 refine vi X.p1 ?_
 rw[hkp]
 walk_at "z"
 refine bW X.at_ C.aI C.bJ dM ?_
 walk_at "z"
 refine vi X.p2 ?_
 rw[hkc]
 walk_at "z"
 exists rfl,s.ps.length,s.cs.length,rfl,hpos,hv,hn
 rw[show((mZ s.ps.length ^ (s.cs.length+1):Nat):Int)=(fc s:Int)from rfl]
 walk_at "z"
 walk_at "q"
 with_reducible refine FO ?_
 refine GD (d:=d1) (kvs:=eD s.ps) (fun k hk=>⟨_,rfl,bW X.at_ C.aI C.aS b9 hk⟩) X.p1 fun o Hf F=>?_
 refine zf F X.p1 (KC 0 (fun i=>.int (s.ps.getD i ("",0)).2) ?_) (fun i=>[some (.int (s.ps.getD i ("",0)).2),some (.int (fc s:Int))]) (by rintro j σ' (rfl|⟨k,rfl⟩)<;>rfl) (fun H' h _=>h) (by rw[hkp];exact P6 (show _<=1000 by omega) bo)
  (fun _=>true) (fun i=>.int ((s.ps.getD i ("",0)).2*(fc s:Int))) (fun i hi H' G s k=>k H' (av.refl _)) ?_ ?_
 ·intro i p hp'
  have hi:i<s.ps.length:=by rw[<-hkp];exact(QN.mp hp').1
  rw[jA (Qj hi)]at hp'
  cases hp'
  rw[QG,Qj hi]
  rfl
 ·intro i hi hb H' F' sx kk
  rw[hkp]at hi
  have hpi:=G.p0 _ (getD_mem (xs:=s.ps) ("",0) hi)
  walk_at "z"
  try refine IK (by omega) (by omega) ?_
  exact kk H' (av.refl _)
 intro la H1 f1 s1 h1
 rw[R7.mpr (fun _ _=>rfl),hkp]at h1
 have e1:(P4 s.ps.length).map (fun i=>V.int ((s.ps.getD i ("",0)).2*(fc s:Int)))=(aH s).map V.int:=by
  unfold aH
  rw[Qn]
  exact bw (fun p:PH×Int=>V.int (p.2*(fc s:Int))) ("",0) s.ps
 rw[e1]at h1
 have X1:=X.same s1
 walk_at "q"
 with_reducible refine FO ?_
 refine Hn (d:=d1) (kvs:=eD s.ps) (fun k hk=>⟨_,rfl,bW X1.at_ C.aI C.aS b9 hk⟩) X1.p1 fun o Hf F=>?_
 refine yS F X1.p1 (Fl 0 (fun i=>.str (s.ps.getD i ("",0)).1) ?_) (fun i=>[some (.str (s.ps.getD i ("",0)).1),some (.ref c)]) (by rintro j σ' (rfl|⟨k,rfl⟩)<;>rfl) (fun H' h _=>h) (by rw[hkp];exact P6 (show _<=1000 by omega) bo)
  (fun _=>true) (fun i=>.lst ((intsOf (BD s (s.ps.getD i ("",0)).1)).map V.int)) (fun i hi H' G s k=>k H' (av.refl _)) ?_ ?_
 ·intro i p hp'
  have hi:i<s.ps.length:=by rw[<-hkp];exact(QN.mp hp').1
  rw[jA (Qj hi)]at hp'
  cases hp'
  rw[QG,Qj hi]
  rfl
 ·intro i hi hb H' F' sx kk
  rw[hkp]at hi
  have hpi:=G.ap _ (getD_mem (xs:=s.ps) ("",0) hi)
  have n1:c≠d1:=aK X1.at_ X1.p1 (by simp)
  have n2:w≠d1:=aK X1.w_ X1.p1 (by simp)
  walk_at "z"
  refine cC (sx c _ n1 X1.at_) (dy (by decide +kernel)) ?_
  walk_at "z"
  refine⟨rfl,c,dx,d1,d2,w,_,wt,s,rfl,sx c _ n1 X1.at_,sx d2 _ (Qy X.ne) X1.p2,sx w _ n2 X1.w_,Paired.mapP X1.wt fun _ a z=>sx a _ (aK z X1.p1 (by simp)) z,hpi,G.ac,G.aw,by omega,fun l' H2 f2 s2 h2=>?_⟩
  exact kk l' H2 f2 s2 h2
 intro lb bs H2 f2 s2 h2 pr
 rw[R7.mpr (fun _ _=>rfl),hkp]at pr
 have X2:=X1.same s2
 have hR:gF K H2 lb (aZ s):=by
  exists bs,aY.of h2
  unfold aZ
  rw[<-bw (fun p:PH×Int=>intsOf (BD s p.1)) ("",0) s.ps]
  exact eV (Paired.mapP pr fun i a z=>aY.of z.2.2)
 walk_at "q"
 walk_at "z"
 refine bW X2.at_ C.aI C.bJ dM ?_
 refine Nl X2.p2 fun v H3 f3 s3 h3=>?_
 walk_at "z"
 refine⟨v,d2,_,rfl,h3,s3 _ _ X2.p2,fun lc f4=>?_⟩
 have e4:(eD s.cs).map (·.2)=(cc s).map V.int:=by unfold eD cc;rw[Qn,Qn];rfl
 rw[e4]
 have s4:av H3 (upd H3 lc (.lst ((cc s).map V.int))):=av.updN f4
 have h4:upd H3 lc (.lst ((cc s).map V.int)) lc=some (.lst ((cc s).map V.int)):=ax
 generalize upd H3 lc (.lst ((cc s).map V.int))=H4 at *
 have s24:=s3.trans s4
 walk_at "z"
 refine⟨rfl,la,lc,lb,aH s,cc s,aZ s,rfl,aY.of ((s2.trans s24) _ _ h1),aY.of h4,s24.rows hR,GT,fun ls H5 run f5 s5 n5 rx=>?_⟩
 have qb:=qb run
 have hst:=n5.at
 have hrw:=zI rx.run
 have hsl:(aT (aZ s) (aH s) run).length=run.length:=iI _ _ _
 have hs1:(aT (aZ s) (aH s) run).map (·.1)=run.map (·.1):=wJ _ _ _
 have hcl:(cc s).length=s.cs.length:=by simp[cc]
 have hpl:(aH s).length=s.ps.length:=by simp[aH]
 have hrn:run.length<=s.cs.length:=by
  have:=ij s.cs.length (run.map (·.1)) hrw.2 (fun x hx=>by
   obtain⟨y,hy,rfl⟩:=P9.mp hx
   have:=(hrw.1 y hy).1
   rw[<-hcl];exact this)
  simpa using this
 have hst1:∀x∈aT (aZ s) (aH s) run,x.1<s.cs.length/\x.2.2.length=s.ps.length:=fun x hx=>by
  refine⟨?_,by rw[jr _ _ _ x hx,hpl]⟩
  have hm:x.1∈run.map (·.1):=by rw[<-hs1];exact P9.mpr ⟨x,hx,rfl⟩
  obtain⟨y,hy,e⟩:=P9.mp hm
  have:=(hrw.1 y hy).1
  rw[<-e,<-hcl];exact this
 have hnd:((aT (aZ s) (aH s) run).map (·.1)).Nodup:=by rw[hs1];exact hrw.2
 generalize aT (aZ s) (aH s) run=sts at *
 have s25:=s24.trans s5
 have s15:=s2.trans s25
 have s05:=s1.trans s15
 have X5:=X2.same s25
 obtain⟨ts,bs',B⟩:=hst.b
 walk_at "z"
 walk_at "q"
 walk_at "z"
 try refine fN (B.ys (av.refl _)).1 ?_
 refine gh (j4 (K:=K) (a:=ls) (ts:=ts) (u:=fun i=>.int ((sts.getD i stN).1:Nat)) (v:=fun i=>.int (sts.getD i stN).2.1) (w:=fun i=>.ref (bs'.getD i 0)) 0 1 2) (fun j=>[some (.int ((sts.getD j stN).1:Nat)),some (.int (sts.getD j stN).2.1),some (.ref (bs'.getD j 0)),some (.ref c)]) (by rintro j σ' (rfl|⟨k,rfl⟩)<;>rfl) (fun H' s=>B.ys s) (by rw[B.tl];exact P6 (show sts.length<=1000 by omega) bo)
  (fun _=>true) (fun l i v H'=>∃t r us,v=V.ref t/\(t≠l/\r≠l/\H5 r=none)/\H' t=some (.tup [.str (bK s (sts.getD i stN)).1,.int (bK s (sts.getD i stN)).2.1,.ref r])/\H' r=some (.lst (RE V.ref us))/\Qd (fun p b=>b≠l/\O4 H' p b) (bK s (sts.getD i stN)).2.2 us)
  (fun l i v Ha Hb sx ⟨t,r,us,e,n,h1,h2,h3⟩=>⟨t,r,us,e,n,sx _ _ n.1 h1,sx _ _ n.2.1 h2,Paired.mapP h3 fun _ b z=>⟨z.1,sx _ _ z.1 z.2⟩⟩) (fun i hi H' G s k=>k H' (av.refl _)) ?_ ?_
 ·intro l i hi _ H' F' h0 ⟨o,ho⟩ sx kk
  rw[B.tl]at hi
  have X6:=X5.same sx
  have hm:=hst1 _ (getD_mem stN hi)
  obtain⟨t',b',a1,a2,_,a4⟩:=B.ats i sts[i] (by simp[hi])
  have g1:sts.getD i stN=sts[i]:=by simp[Qm,hi]
  have g2:bs'.getD i 0=b':=by rw[Qm,a2];rfl
  simp only[g1]at hm kk ⊢
  rw[g2]
  walk_at "z"
  refine cC X6.at_ (dy (by decide +kernel)) ?_
  walk_at "z"
  refine⟨rfl,c,b',_,(sts[i]).2.1,(sts[i]).2.2,_,s,rfl,⟨dx,d1,d2,w,wt,X6,rfl⟩,hm.1,sx _ _ a4,hm.2,hv,hn,fun t r H7 ft fr ntr s7 h7 hr=>?_⟩
  obtain⟨us,hr1,hr2⟩:=hr
  have nl:∀{a:PK},H' a=none->a≠l:=fun {a} ha e=>by rw[e,ho]at ha;cases ha
  exact kk _ H7 ⟨t,r,us,rfl,⟨nl ft,nl fr,sx.free fr⟩,h7,hr1,Paired.mapP hr2 fun _ b z=>⟨nl z.1,z.2⟩⟩ s7
 intro l ys H6 f6 s6 h6 pr6
 rw[R7.mpr (fun _ _=>rfl),B.tl]at pr6
 obtain⟨tt,e6,p6,q6⟩:=qm (P:=fun r=>r≠l/\H5 r=none) (f:=fun i=>bK s (sts.getD i stN)) (Paired.mapP pr6 fun i v ⟨t,r,us,e,n,h1,h2,h3⟩=>⟨t,r,e,n.2,h1,us,h2,Paired.mapP h3 fun _ _ z=>z.2⟩)
 rw[bw (bK s) stN sts]at p6
 subst e6
 have T6:oW H6 l tt (sts.map (bK s)):=⟨h6,p6⟩
 have s06:=s05.trans s6
 have X6:=X5.same s6
 have hl0:H l=none:=s05.free f6
 have hlfp:l∉[c,d1,d2,w]:=fun m=>(aO.there ⟨dx,d1,d2,w,wt,X,rfl⟩:∀a∈[c,d1,d2,w],H a≠none) l m hl0
 have hrfp:∀t∈tt,∀y z r,H6 t=some (.tup [y,z,.ref r])->r∉[c,d1,d2,w]:=fun t ht y z r e m=>(aO.there ⟨dx,d1,d2,w,wt,X,rfl⟩:∀a∈[c,d1,d2,w],H a≠none) r m (s05.free (q6 t ht y z r e).2)
 walk_at "z"
 walk_at "q"
 walk_at "z"
 refine cC X6.at_ (dy (by decide +kernel)) ?_
 walk_at "z"
 refine⟨rfl,la,ls,aH s,sts,rfl,aY.of ((s15.trans s6) _ _ h1),kW s6 hst,by omega,by omega,fun x hx=>by rw[(hst1 x hx).2,hpl],fun ll H7 f7 s7 h7=>?_⟩
 have X7:=X6.same s7
 have s67:=s7
 walk_at "z"
 have hlo:(bL (aH s) sts).length=s.ps.length:=by simp[bL,hpl]
 refine⟨rfl,c,ll,(fc s:Int),bL (aH s) sts,_,s,rfl,⟨dx,d1,d2,w,wt,X7,rfl⟩,h7,g0,gH,hlo,hv,fun H8 fp8 x8 b8 n8=>?_⟩
 rw[<-DT]at x8
 walk_at "z"
 have b68:bZ [c,d1,d2,w] H6 H8:=(bZ.of s7).trans b8
 have n68:ji [c,d1,d2,w] fp8 H6:=fun a ha=>by
  rcases n8 a ha with z|z
  ·exact .inl z
  ·exact .inr (s7.free z)
 obtain⟨rs,hys⟩:=T6.ys (K:=K)
 generalize hLf:bL (aH s) sts=left at *
 have htl:tt.length=sts.length:=by rw[<-Qv p6,P7]
 walk_at "q"
 walk_at "z"
 try refine fN (hys _ _ b68 hlfp).1 ?_
 refine rT (j4 (K:=K) (a:=l) (ts:=tt) (u:=fun i=>.str ((sts.map (bK s)).getD i M9).1) (v:=fun i=>.int ((sts.map (bK s)).getD i M9).2.1) (w:=fun i=>.ref (rs.getD i 0)) 6 7 8)
  (fun i σ H'=>(∃fpi,aO K H' c fpi (cQ s left (fc s) ((sts.map (bK s)).take i))/\ji [c,d1,d2,w] fpi H6)/\bZ [c,d1,d2,w] H6 H'/\∃v6 v7 v8,σ=[some (.ref c),some (.int (fc s:Int)),some (.ref la),some (.ref lb),some (.ref ls),some (.ref l),v6,v7,v8])
  ⟨⟨fp8,x8,n68⟩,b68,_,_,_,rfl⟩ (fun i σ H' p=>hys _ _ p.2.1 hlfp) ?_ ?_
 ·rintro i σ Ha Hb hi ⟨⟨fpi,xa,na⟩,ba,v6,v7,v8,rfl⟩ sb
  rw[htl]at hi
  have bb:bZ [c,d1,d2,w] H6 Hb:=ba.trans (bZ.of sb)
  have xb:=xa.same sb
  have hil:i<(sts.map (bK s)).length:=by rw[P7];exact hi
  have gi:(sts.map (bK s)).getD i M9=bK s (sts.getD i stN):=by simp[Qm,hi]
  rw[gi]
  obtain⟨dx',a1,a2,a3,at',XX,efp⟩:=id xb
  show aE _ _ _ _ _
  walk_at "q"
  walk_at "z"
  refine zA XX.at_ C.aI C.iJ zr ?_
  walk_at "z"
  exists _,_,rfl,rfl,dx',_,XX.at_,(show 6<1000 by decide)
  rw[GP]
  have XY:=XX.setF (a:=(cQ s left (fc s) ((sts.map (bK s)).take i)).pot) (b:=(cQ s left (fc s) ((sts.map (bK s)).take i)).giv) (e:=(cQ s left (fc s) ((sts.map (bK s)).take i)).spt+(bK s (sts.getD i stN)).2.1)
  have by':bZ fpi Hb (upd Hb c (.ins (ao K "Chest") dx' (gE a1 a2 a3 (cQ s left (fc s) ((sts.map (bK s)).take i)).pot (cQ s left (fc s) ((sts.map (bK s)).take i)).giv ((cQ s left (fc s) ((sts.map (bK s)).take i)).spt+(bK s (sts.getD i stN)).2.1)))):=bZ.upd XX.at_ (by intro xs z;cases z) (by rw[efp];simp)
  generalize upd Hb c (.ins (ao K "Chest") dx' (gE a1 a2 a3 (cQ s left (fc s) ((sts.map (bK s)).take i)).pot (cQ s left (fc s) ((sts.map (bK s)).take i)).giv ((cQ s left (fc s) ((sts.map (bK s)).take i)).spt+(bK s (sts.getD i stN)).2.1)))=Hc at *
  have hm:=hst1 _ (getD_mem stN hi)
  have hgd:s.cs.getD (sts.getD i stN).1 ("",0)∈s.cs:=getD_mem _ hm.1
  walk_at "z"
  refine cC XY.at_ (dy (by decide +kernel)) ?_
  walk_at "z"
  have hmemw:((bK s (sts.getD i stN)).1,(bK s (sts.getD i stN)).2.1)∈(cQ s left (fc s) ((sts.map (bK s)).take i)).cs:=by
   show _∈s.cs.filter _
   refine QL.mpr ⟨hgd,?_⟩
   rw[decide_eq_true_eq]
   intro m
   rw[<-UX,Qn]at m
   obtain⟨x,hx,ex⟩:=P9.mp m
   obtain⟨j,hj,ej⟩:=Tw hx
   have hj':j<i/\j<sts.length:=by rw[QY]at hj;omega
   rw[V9]at ej
   have hmj:=hst1 x (SD hx)
   have ex:(s.cs.getD x.1 ("",0)).1=(s.cs.getD (sts.getD i stN).1 ("",0)).1:=ex
   have e1:=Jj X.nd2 hmj.1 hm.1 ex
   have g1:sts.getD i stN=sts[i]:=by simp[Qm,hi]
   have:=Uo.mp hnd j i (by simp;omega) (by simp;omega) hj'.1
   simp only[Wh]at this
   rw[ej,<-g1]at this
   exact this e1
  have hdw:(cq.withdraw (bK s (sts.getD i stN)).1).due {cQ s left (fc s) ((sts.map (bK s)).take i)with spt:=(cQ s left (fc s) ((sts.map (bK s)).take i)).spt+(bK s (sts.getD i stN)).2.1}=none:=by
   rw[cq.due,if_pos]
   exact P9.mpr ⟨_,hmemw,rfl⟩
  refine⟨rfl,c,(bK s (sts.getD i stN)).1,fpi,_,rfl,⟨dx',a1,a2,a3,at',XY,efp⟩,P6 (Rz _ _) (by have:=G.wl;omega),fun _ Hd fpd xd bd nd'=>?_,fun cl e=>by rw[hdw]at e;cases e⟩
  have et:(sts.map (bK s)).take (i+1)=(sts.map (bK s)).take i++[bK s (sts.getD i stN)]:=by
   rw[Us,<-gi,QG,Qj hil]
   rfl
  walk_at "z"
  have bad:bZ [c,d1,d2,w] H6 Hd:=by
   refine⟨fun a o n h=>?_,fun a xs h=>bd.2.1 _ _ (by'.2.1 _ _ (bb.2.1 _ _ h)),fun a h=>bb.2.2 _ (by'.2.2 _ (bd.2.2 _ h))⟩
   have n2:a∉fpi:=fun m=>by
    rcases na a m with z|z
    ·exact n z
    ·rw[h]at z;cases z
   exact bd.1 _ _ n2 (by'.1 _ _ n2 (bb.1 _ _ n h))
  refine⟨⟨fpd,?_,fun a ha=>?_⟩,bad,_,_,_,rfl⟩
  ·rw[et,BZ]
   exact xd
  ·rcases nd' a ha with z|z
   ·exact na a z
   ·exact .inr (bb.2.2 _ (by'.2.2 _ z))
 ·rintro σ Ha ⟨⟨fpi,xa,na⟩,ba,v6,v7,v8,rfl⟩
  rw[htl,RI (by simp)]at xa
  have tot:∀a∈fpi,a∈[c,d1,d2,w]\/H6 a=none:=na
  have n1:∀{a:PK}{o:HO},H a=none->H6 a=some o->a∉fpi:=fun {a o} h0 h1 m=>by
   rcases na a m with z|z
   ·exact(aO.there ⟨dx,d1,d2,w,wt,X,rfl⟩:∀a∈[c,d1,d2,w],H a≠none) a z h0
   ·rw[h1]at z;cases z
  walk_at "z"
  rename_i t H9 f9 s9 h9
  have T9:=T6.but (ba.trans (bZ.of s9)) hlfp hrfp
  refine qb t l tt H9 fpi rx (((bZ.of s06).trans ba).trans (bZ.of s9)) (fun a ha=>?_) (xa.same s9) (s06.free (ba.2.2 _ f9)) hl0 (n1 hl0 h6) h9 T9 fun t' ht y z r e=>?_
  ·rcases na a ha with z|z
   ·exact .inl z
   ·exact .inr (s06.free z)
  ·have e6:=T6.tup (ba.trans (bZ.of s9)) t' ht y z r e
   obtain⟨q1,q2⟩:=q6 t' ht y z r e6
   exists q1,s05.free q2
   obtain⟨o,ho⟩:∃o,H6 r=some o:=by
    have:∀{rows:List jj}{ts:List PK},Qd (MD H6) rows ts->t'∈ts->∃o,H6 r=some o:=by
     intro rows ts hh hm
     induction hh with
     |nil=>cases hm
     |cons q _ ih=>
      rcases Qb.mp hm with rfl|hm
      ·obtain⟨r',g1,us,g2,_⟩:=q
       rw[g1]at e6
       injection e6 with e6
       injection e6 with e6
       simp at e6
       rw[<-e6.2.2]
       exact⟨_,g2⟩
      ·exact ih hm
    exact this p6 ht
   exact n1 (s05.free q2) ho
theorem Ak:∀vs H Q E,lz K vs H Q E->kP K {nx:=fun _ H'=>Q .non H',rt:=Q} (start ["rows"] vs) H:=by
 rintro vs H Q E ⟨_,l,rs,rfl,⟨ts,v1,v2⟩,hr,hs,q⟩
 have hsz:=size_eq
 obtain⟨ec,es,e1,e2,eo,ep,em,e0⟩:=dU
 have hvl:rs.length=ts.length:=Qv v2
 unfold kP
 walk_at "z"
 try refine fN (aY.of v1) ?_
 refine bD (u5 (K:=K) (a:=l) (ts:=ts) (u:=fun i=>.str (rs.getD i ("",0)).1) (v:=fun i=>.int (rs.getD i ("",0)).2) 0 1) (fun i=>[some (.str (rs.getD i ("",0)).1),some (.int (rs.getD i ("",0)).2)]) (by rintro j σ' (rfl|⟨k,rfl⟩)<;>rfl) ?_ (P6 (show _<=1000 by omega) bo)
   (fun i=>.str (vn (rs.getD i ("",0)))) ?_ ?_
 ·intro H' s'
  refine⟨s'.seq (aY.of v1),fun i b hb=>?_⟩
  have hi:i<rs.length:=by rw[hvl];exact(QN.mp hb).1
  obtain⟨b',z1,z2⟩:=gx v2 (Qj hi)
  rw[hb]at z1
  cases z1
  rw[QG,Qj hi]
  exact s'.seqT (kZ.of z2)
 ·intro i hi H' G s' kk
  have hm:=getD_mem (xs:=rs) ("",0) (show i<rs.length by omega)
  have hb:=hs _ hm
  have hln:=hb.2.len
  have hlx:(rs.getD i ("",0)).1.length<=8:=hb.1
  have hrow:=xf hb.1 hb.2
  walk_at "z"
  refine⟨_,rfl,_,rfl,by omega,_,rfl,?_,_,rfl,?_,_,rfl,_,rfl,hb.2.log,_,rfl,?_,?_,kk H' (av.refl _)⟩
  ·rw[Qx];omega
  ·rw[Qx,Qx];omega
  ·show(vn _).length<=_;omega
  ·show(vn _).length<=_;omega
 intro l7 H7 f7 s7 h7
 rw[<-hvl,bw (fun p:PH×Int=>V.str (vn p)) ("",0) rs,show rs.map (fun p=>V.str (vn p))=(rs.map vn).map V.str by rw[Qn];rfl]at h7
 walk_at "z"
 refine pU 609 (aY.of h7) (fun x hx=>?_) ?_ ?_
 ·obtain⟨p,hp,rfl⟩:=P9.mp hx
  exact xf (hs p hp).1 (hs p hp).2
 ·rw[P7,ec]
  have:rs.length*(609+2)<=20*611:=SG _ hr
  omega
 ·exact q H7 s7
theorem Ah:∀vs H Q E,kK K vs H Q E->kJ K {nx:=fun _ H'=>Q .non H',rt:=Q} (start ["work","cost","rows","payers"] vs) H:=by
 rintro vs H Q E ⟨_,l,r,rfl,h1,hx,hc,hr,hs,q⟩
 have hsz:=size_eq
 obtain⟨ec,es,e1,e2,eo,ep,em,e0⟩:=dU
 unfold kJ
 walk_at "q"
 walk_at "z"
 refine⟨rfl,l,r.2.2,rfl,h1,hr,hs,fun H1 s1=>?_⟩
 have hln:=hc.len
 have hlx:r.1.length<=8:=hx
 have hpl:=zg hr hs
 have hd:=zk hx hc hr hs
 walk_at "z"
 refine⟨_,rfl,_,rfl,by omega,_,rfl,?_,_,rfl,?_,_,rfl,_,rfl,hc.log,_,rfl,?_,_,rfl,?_,_,rfl,_,rfl,by omega,_,rfl,?_,?_,q H1 s1⟩
 ·rw[Qx];omega
 ·rw[Qx,Qx];omega
 ·show(Qp++r.1++(" ":PH)++iT r.2.1).length<=_
  simp only[Qx];omega
 ·show(Qp++r.1++(" ":PH)++iT r.2.1++(": ":PH)).length<=_
  simp only[Qx];omega
 ·show(j6 r).length<=_;omega
 ·show(j6 r).length<=_;omega
theorem um:∀vs H Q E,gO K vs H Q E->gN K {nx:=fun _ H'=>Q .non H',rt:=Q} (start ["done","grains","told"] vs) H:=by
 rintro vs H Q E ⟨_,l,ts,rs,g,rfl,⟨v1,v2⟩,hr,hg,hs,q⟩
 have hsz:=size_eq
 obtain⟨ec,es,e1,e2,eo,ep,em,e0⟩:=dU
 have hvl:rs.length=ts.length:=Qv v2
 unfold gN
 walk_at "q"
 walk_at "z"
 exists _,rfl,l,_,rfl,aY.of v1
 by_cases hn:rs=[]
 ·have hz:ts=[]:=Ub.mp (by rw[<-hvl,hn];rfl)
  rw[hz,show(!(RE V.ref ([]:List PK)).isEmpty)=false from rfl]
  walk_at "z"
  have e:qi rs g="none":=if_pos hn
  rw[<-e]
  exact q _ (av.refl _)
 have hz:(!(RE V.ref ts).isEmpty)=true:=by
  cases ts with
  |nil=>exact absurd (Ub.mp hvl) hn
  |cons=>rfl
 rw[hz]
 walk_at "z"
 walk_at "q"
 walk_at "z"
 try refine fN (aY.of v1) ?_
 have pick:∀i:Nat,∃a:PK,∀t,ts[i]?=some t->H t=some (.tup [.str (rs.getD i ("",0,[])).1,.int (rs.getD i ("",0,[])).2.1,.ref a])/\nQ H a (rs.getD i ("",0,[])).2.2:=fun i=>by
  by_cases hi:i<rs.length
  ·obtain⟨b',z1,a,z2,z3⟩:=gx v2 (Qj hi)
   refine⟨a,fun t ht=>?_⟩
   rw[z1]at ht
   cases ht
   rw[QG,Qj hi]
   exact⟨z2,z3⟩
  ·refine⟨0,fun t ht=>?_⟩
   have:=(QN.mp ht).1
   omega
 obtain⟨la,hla⟩:=WC pick
 refine bD (j4 (K:=K) (a:=l) (ts:=ts) (u:=fun i=>.str (rs.getD i ("",0,[])).1) (v:=fun i=>.int (rs.getD i ("",0,[])).2.1) (w:=fun i=>.ref (la i)) 0 1 2) (fun i=>[some (.str (rs.getD i ("",0,[])).1),some (.int (rs.getD i ("",0,[])).2.1),some (.ref (la i))]) (by rintro j σ' (rfl|⟨k,rfl⟩)<;>rfl) ?_ (P6 (show _<=1000 by omega) bo)
   (fun i=>.str (j6 (rs.getD i ("",0,[])))) ?_ ?_
 ·intro H' s'
  exact⟨s'.seq (aY.of v1),fun i b hb=>s'.seqT (kZ.of (hla i b hb).1)⟩
 ·intro i hi H' G s' kk
  have hm:=getD_mem (xs:=rs) ("",0,[]) (show i<rs.length by omega)
  obtain⟨b1,b2,b3,b4⟩:=hs _ hm
  walk_at "z"
  exact⟨rfl,la i,rs.getD i ("",0,[]),rfl,(hla i ts[i] (Qj hi)).2.same s',b1,b2,b3,b4,fun H'' s''=>kk H'' s''⟩
 intro l7 H7 f7 s7 h7
 rw[<-hvl,bw (fun p:jj=>V.str (j6 p)) ("",0,[]) rs,show rs.map (fun p=>V.str (j6 p))=(rs.map j6).map V.str by rw[Qn];rfl]at h7
 have hmx:∀x∈rs.map j6,x.length<=12840:=fun x hx=>by
  obtain⟨p,hp,rfl⟩:=P9.mp hx
  obtain⟨b1,b2,b3,b4⟩:=hs p hp
  exact zk b1 b2 b3 b4
 have hml:(rs.map j6).length*(12840+("; ":PH).length)<=154104:=by
  rw[P7,es]
  have:rs.length*(12840+2)<=12*12842:=SG _ hr
  omega
 have hjl:=P6 (j2 (sep:="; ") hmx) hml
 walk_at "z"
 refine pU 12840 (aY.of h7) hmx (by omega) ?_
 walk_at "z"
 have e:qi rs g=Qp++QP "; " (rs.map j6)++" of "++iT g:=if_neg hn
 have hgl:=hg.len
 have hcl:(qi rs g).length<=16777216:=by rw[e];simp only[Qx];omega
 rw[e]at hcl q
 refine⟨_,rfl,_,rfl,by omega,_,rfl,?_,_,rfl,?_,_,rfl,_,rfl,hg.log,_,rfl,?_,?_,q H7 s7⟩
 ·rw[Qx];omega
 ·rw[Qx,Qx];omega
 ·rw[hsz];exact hcl
 ·rw[hsz];exact hcl
theorem vS:∀vs H Q E,iS K vs H Q E->iH K {nx:=fun _ H'=>Q .non H',rt:=Q} (start ["chest","closing"] vs) H:=by
 rintro vs H Q E ⟨_,c,fp,s,rfl,CH,G,q⟩
 obtain⟨dx,d1,d2,w,wt,X,efp⟩:=id CH
 unfold iH
 walk_at "q"
 walk_at "z"
 refine cC X.at_ (dy (by decide +kernel)) ?_
 walk_at "z"
 refine⟨rfl,c,fp,s,rfl,CH,G.g,fun hno t l H1 ft fl tl s1 ht hl=>?_,fun hp hc run t l ts H1 fp1 rx b1 n1 c1 ft fl lf ht hl nr=>?_⟩
 ·have e1:lH s=s:=if_pos hno
  have e2:sg s="none":=if_pos hno
  rw[e1,e2]at q
  walk_at "z"
  refine EY (kZ.of ht) (bM (j:=0) rfl) ?_
  walk_at "z"
  refine EY (kZ.of ht) (bM (j:=1) rfl) ?_
  walk_at "z"
  refine⟨rfl,l,[],[],1,rfl,⟨hl,.nil⟩,Q3 _,mT (by decide) (by decide),(fun r hr=>by cases hr),fun H2 s2=>?_⟩
  rw[show qi [] 1="none" from if_pos rfl]
  exact q H2 fp (CH.same (s1.trans s2)) (bZ.of (s1.trans s2)) ji.refl
 ·have hno:¬(s.ps=[]\/s.cs=[]):=fun z=>by rcases z with z|z;exact hp z;exact hc z
  have er:=vh rx
  have e1:lH s=dQ s run:=by rw[<-er];exact if_neg hno
  have e2:sg s=qi ((aT (aZ s) (aH s) run).map (bK s)) (fc s):=by
   rw[<-er];exact if_neg hno
  rw[e1,e2]at q
  walk_at "z"
  refine EY (kZ.of ht) (bM (j:=0) rfl) ?_
  walk_at "z"
  refine EY (kZ.of ht) (bM (j:=1) rfl) ?_
  walk_at "z"
  have hrb:=iM rx
  refine⟨rfl,l,ts,_,_,rfl,hl,by rw[P7];exact P6 hrb.1 G.g.n12,NT G.g,Ff G rx,fun H2 s2=>?_⟩
  exact q H2 fp1 (c1.same s2) (b1.trans (bZ.of s2)) n1
theorem Bl:∀vs H Q E,kB K vs H Q E->kq K {nx:=fun _ H'=>Q .non H',rt:=Q} (start ["work","cost","wanters","names"] vs) H:=by
 rintro vs H Q E ⟨_,l,r,rfl,h1,hx,hc,hr,hs,q⟩
 have hsz:=size_eq
 obtain⟨ec,es,e1,e2,eo,ep,em,e0⟩:=dU
 have hln:=hc.len
 have hlx:r.1.length<=8:=hx
 have hpl:=wu hr hs
 have hd:=zw hx hc hr hs
 unfold kq
 with_reducible refine Od (fun σ H'=>av H H'/\σ=[some (.str r.1),some (.int r.2.1),some (.ref l),some (.str (xh r.2.2))]) (fun F hF=>?_) ?_
 ·walk_at "z"
  cases hn:r.2.2 with
  |nil=>
   exists _,rfl,l,_,rfl,h1
   rw[hn]
   walk_at "z"
   refine hF _ _ ⟨av.refl _,?_⟩
   rw[hn]
   rfl
  |cons a t=>
   exists _,rfl,l,_,rfl,h1
   rw[hn,show(!(RE V.str (a::t)).isEmpty)=true from rfl]
   walk_at "z"
   rw[hn]at h1 hs hr
   refine pU 8 h1 hs ?_ ?_
   ·rw[ep]
    have:(a::t).length*(8+1)<=20*9:=SG _ hr
    omega
   ·walk_at "z"
    refine hF _ _ ⟨av.refl _,?_⟩
    rw[hn]
    rfl
 rintro σ H1 ⟨s1,rfl⟩
 walk_at "z"
 refine⟨_,rfl,_,rfl,by omega,_,rfl,?_,_,rfl,?_,_,rfl,_,rfl,hc.log,_,rfl,?_,_,rfl,?_,_,rfl,_,rfl,by omega,_,rfl,?_,?_,q H1 s1⟩
 ·rw[Qx];omega
 ·rw[Qx,Qx];omega
 ·show(Qp++r.1++(" ":PH)++iT r.2.1).length<=_
  simp only[Qx];omega
 ·show(Qp++r.1++(" ":PH)++iT r.2.1++(" ":PH)).length<=_
  simp only[Qx];omega
 ·show(nj r).length<=_;omega
 ·show(nj r).length<=_;omega
theorem yN:∀vs H Q E,jD K vs H Q E->jK K {nx:=fun _ H'=>Q .non H',rt:=Q} (start ["works"] vs) H:=by
 rintro vs H Q E ⟨_,l,ts,rs,rfl,⟨v1,v2⟩,hr,hs,q⟩
 have hsz:=size_eq
 obtain⟨ec,es,e1,e2,eo,ep,em,e0⟩:=dU
 have hvl:rs.length=ts.length:=Qv v2
 unfold jK
 walk_at "q"
 walk_at "z"
 exists _,rfl,l,_,rfl,aY.of v1
 by_cases hn:rs=[]
 ·have hz:ts=[]:=Ub.mp (by rw[<-hvl,hn];rfl)
  rw[hz,show(!(RE V.ref ([]:List PK)).isEmpty)=false from rfl]
  walk_at "z"
  have e:sT rs="none":=if_pos hn
  rw[<-e]
  exact q _ (av.refl _)
 have hz:(!(RE V.ref ts).isEmpty)=true:=by
  cases ts with
  |nil=>exact absurd (Ub.mp hvl) hn
  |cons=>rfl
 rw[hz]
 walk_at "z"
 try refine fN (aY.of v1) ?_
 have pick:∀i:Nat,∃a:PK,∀t,ts[i]?=some t->H t=some (.tup [.str (rs.getD i ("",0,[])).1,.int (rs.getD i ("",0,[])).2.1,.ref a])/\H a=some (.lst ((rs.getD i ("",0,[])).2.2.map V.str)):=fun i=>by
  by_cases hi:i<rs.length
  ·obtain⟨b',z1,a,z2,z3⟩:=gx v2 (Qj hi)
   refine⟨a,fun t ht=>?_⟩
   rw[z1]at ht
   cases ht
   rw[QG,Qj hi]
   exact⟨z2,z3⟩
  ·refine⟨0,fun t ht=>?_⟩
   have:=(QN.mp ht).1
   omega
 obtain⟨la,hla⟩:=WC pick
 refine bD (j4 (K:=K) (a:=l) (ts:=ts) (u:=fun i=>.str (rs.getD i ("",0,[])).1) (v:=fun i=>.int (rs.getD i ("",0,[])).2.1) (w:=fun i=>.ref (la i)) 0 1 2) (fun i=>[some (.str (rs.getD i ("",0,[])).1),some (.int (rs.getD i ("",0,[])).2.1),some (.ref (la i))]) (by rintro j σ' (rfl|⟨k,rfl⟩)<;>rfl) ?_ (P6 (show _<=1000 by omega) bo)
   (fun i=>.str (nj (rs.getD i ("",0,[])))) ?_ ?_
 ·intro H' s'
  exact⟨s'.seq (aY.of v1),fun i b hb=>s'.seqT (kZ.of (hla i b hb).1)⟩
 ·intro i hi H' G s' kk
  have hm:=getD_mem (xs:=rs) ("",0,[]) (show i<rs.length by omega)
  obtain⟨b1,b2,b3,b4⟩:=hs _ hm
  walk_at "z"
  exact⟨rfl,la i,rs.getD i ("",0,[]),rfl,s'.seq (aY.of (hla i ts[i] (Qj hi)).2),b1,b2,b3,b4,fun H'' s''=>kk H'' s''⟩
 intro l7 H7 f7 s7 h7
 rw[<-hvl,bw (fun p:PH×Int×List PH=>V.str (nj p)) ("",0,[]) rs,show rs.map (fun p=>V.str (nj p))=(rs.map nj).map V.str by rw[Qn];rfl]at h7
 walk_at "z"
 refine pU 800 (aY.of h7) (fun x hx=>?_) ?_ ?_
 ·obtain⟨p,hp,rfl⟩:=P9.mp hx
  obtain⟨b1,b2,b3,b4⟩:=hs p hp
  exact zw b1 b2 b3 b4
 ·rw[P7,ec]
  have:rs.length*(800+2)<=12*802:=SG _ hr
  omega
 ·have e:sT rs=QP ", " (rs.map nj):=if_neg hn
  rw[<-e]
  exact q H7 s7
theorem rY(C:gT K):∀vs H Q E,gb K vs H Q E->fW K {nx:=fun _ H'=>Q .non H',rt:=Q} (start ["self","work"] vs) H:=by
 rintro vs H Q E ⟨_,c,dx,d1,d2,w,n,wt,s,rfl,hc,hd,hw,hp,an,ap,aw,hl,q⟩
 have n1:c≠d1:=aK hc hd (by simp)
 have n2:w≠d1:=aK hw hd (by simp)
 have hk:=cW s.ps
 unfold fW
 with_reducible refine E8 ?_
 refine F2 (d:=d1) (kvs:=eD s.ps) (fun k hk=>⟨_,rfl,bW hc C.aI C.aS b9 hk⟩) hd (by rw[hk];exact P6 (show _<=1000 by omega) bo) (fun i=>.str (s.ps.getD i ("",0)).1) ?_
  (fun i=>[some (.str (s.ps.getD i ("",0)).1),some (.str n),some (.ref c)]) (by rintro j σ' (rfl|⟨k,rfl⟩)<;>rfl) (fun i=>decide (((s.ps.getD i ("",0)).1,n)∈s.ws)) (fun i=>.str (s.ps.getD i ("",0)).1) ?_ ?_ ?_
 ·intro i p hp'
  have hi:i<s.ps.length:=by rw[<-hk];exact(QN.mp hp').1
  rw[jA (Qj hi)]at hp'
  cases hp'
  rw[QG,Qj hi]
  rfl
 ·intro i hi H' G sx kk
  rw[hk]at hi
  have ai:aV (s.ps.getD i ("",0)).1:=by
   rw[QG,Qj hi]
   exact ap _ (RA hi)
  walk_at "z"
  rename_i t H2 f2 s2 h2
  refine bW (s2 _ _ (sx c _ n1 hc)) C.aI C.bQ fU ?_
  refine ED (p:=((s.ps.getD i ("",0)).1,n)) h2 (s2 _ _ (sx w _ n2 hw)) (Paired.mapP hp fun _ a z=>s2 _ _ (sx a _ (aK z hd (by simp)) z)) ai an aw ?_
  rw[T7]
  walk_at "z"
  exact kk H2 s2
 ·intro i hi hb H' G sx kk
  walk_at "z"
  exact kk H' (av.refl _)
 intro l H2 f2 s2 h2
 rw[hk,Ea s.ps (fun v=>decide ((v,n)∈s.ws))]at h2
 exact q l H2 f2 s2 h2
theorem wj(C:gT K):∀vs H Q E,iq K vs H Q E->iP K {nx:=fun _ H'=>Q .non H',rt:=Q} (start ["self"] vs) H:=by
 rintro vs H Q E ⟨_,c,fp,s,rfl,⟨dx,d1,d2,w,wt,X,rfl⟩,ap,ac,aw,hl,hlc,q⟩
 have n1:c≠d2:=aK X.at_ X.p2 (by simp)
 have n2:w≠d2:=aK X.w_ X.p2 (by simp)
 have hk:=cW s.cs
 unfold iP
 with_reducible refine E8 ?_
 refine BW (d:=d2) (kvs:=eD s.cs) (fun k hk=>⟨_,rfl,bW X.at_ C.aI C.bJ dM hk⟩) X.p2 (by rw[hk];exact P6 (show _<=1000 by omega) bo) (fun i=>.str (s.cs.getD i ("",0)).1) (fun i=>.int (s.cs.getD i ("",0)).2) ?_
  (fun i=>[some (.str (s.cs.getD i ("",0)).1),some (.int (s.cs.getD i ("",0)).2),some (.ref c)]) (by rintro j σ' (rfl|⟨k,rfl⟩)<;>rfl)
  (fun l i v H'=>∃t w',v=V.ref t/\((w'≠l/\H w'=none)/\t≠l)/\H' t=some (.tup [.str (xi s (s.cs.getD i ("",0))).1,.int (xi s (s.cs.getD i ("",0))).2.1,.ref w'])/\H' w'=some (.lst ((xi s (s.cs.getD i ("",0))).2.2.map V.str)))
  (fun l i v H1 H2 sx ⟨t,w',e,⟨hw,ht⟩,h1,h2⟩=>⟨t,w',e,⟨hw,ht⟩,sx t _ ht h1,sx w' _ hw.1 h2⟩)
  (fun l i v H1 o hd ⟨t,w',e,hw,h1,h2⟩=>⟨t,w',e,hw,by rw[ak (aK h1 hd (by simp))];exact h1,by rw[ak (aK h2 hd (by simp))];exact h2⟩) ?_ ?_
 ·intro i p hp'
  have hi:i<s.cs.length:=by rw[<-hk];exact(QN.mp hp').1
  rw[jA (Qj hi)]at hp'
  cases hp'
  rw[QG,Qj hi]
  exact⟨rfl,rfl⟩
 ·intro l i hi H' G h0 ⟨o,ho⟩ ⟨od,hod⟩ sx kk
  rw[hk]at hi
  have ai:aV (s.cs.getD i ("",0)).1:=by
   rw[QG,Qj hi]
   exact ac _ (RA hi)
  walk_at "z"
  refine cC (sx c _ n1 X.at_) (dy (by decide +kernel)) ?_
  walk_at "z"
  refine⟨rfl,c,dx,d1,d2,w,_,wt,s,rfl,sx c _ n1 X.at_,sx d1 _ X.ne X.p1,sx w _ n2 X.w_,Paired.mapP X.wt fun _ a z=>sx a _ (aK z X.p2 (by simp)) z,ai,ap,aw,hl,fun l' H1 f1 s1 h1=>?_⟩
  walk_at "z"
  rename_i t H2 f2 s2 h2
  refine kk _ H2 ⟨t,l',rfl,⟨⟨fun e=>?_,?_⟩,fun e=>?_⟩,h2,s2 _ _ h1⟩ (s1.trans s2)
  ·rw[e,ho]at f1;cases f1
  ·cases z:H l' with
   |none=>rfl
   |some x=>
    by_cases e:l'=d2
    ·rw[e,hod]at f1;cases f1
    ·rw[sx l' _ e z]at f1;cases f1
  ·rw[e,s1 _ _ ho]at f2;cases f2
 intro l ys H2 f2 s2 h2 pr
 rw[hk]at pr
 obtain⟨ts,e,p2,q2⟩:=tG (P:=fun w'=>w'≠l/\H w'=none) (f:=fun i=>xi s (s.cs.getD i ("",0))) (Paired.mapP pr fun i v ⟨t,w',e,hw,h1,h2⟩=>⟨t,w',e,hw.1,h1,h2⟩)
 rw[bw (xi s) ("",0) s.cs]at p2
 exact q l ts H2 f2 s2 ⟨by rw[h2,e],p2⟩ q2
theorem AW(C:gT K):∀vs H Q E,lI K vs H Q E->kr K {nx:=fun _ H'=>Q .non H',rt:=Q} (start ["self"] vs) H:=by
 rintro vs H Q E ⟨_,c,fp,s,rfl,⟨dx,d1,d2,w,wt,x,rfl⟩,q⟩
 unfold kr
 walk_at "z"
 exact bW x.at_ C.aI C.cB eX q
theorem vt(C:gT K):∀vs H Q E,jc K vs H Q E->i7 K {nx:=fun _ H'=>Q .non H',rt:=Q} (start ["self"] vs) H:=by
 rintro vs H Q E ⟨_,c,fp,s,rfl,⟨dx,d1,d2,w,wt,x,rfl⟩,q⟩
 unfold i7
 walk_at "z"
 exact bW x.at_ C.aI C.jS BS q
theorem vb(C:gT K):∀vs H Q E,ja K vs H Q E->jg K {nx:=fun _ H'=>Q .non H',rt:=Q} (start ["self"] vs) H:=by
 rintro vs H Q E ⟨_,c,fp,s,rfl,⟨dx,d1,d2,w,wt,x,rfl⟩,q⟩
 unfold jg
 walk_at "z"
 exact bW x.at_ C.aI C.iJ zr q
theorem En:∀vs H Q E,pA K vs H Q E->pQ K E {nx:=fun _ H'=>Q .non H',rt:=Q} (start ["chest","deed"] vs) H:=by
 rintro vs H Q E ⟨_,c,w,fp,s,rfl,CH,G,tw,q⟩
 obtain⟨dx,d1,d2,wl,wt,X,efp⟩:=id CH
 unfold pQ
 unfold Bt at q
 walk_at "q"
 walk_at "z"
 refine dJ (fun h=>?_) (fun h=>?_)
 ·rw[if_pos h]at q
  walk_at "z"
  exact⟨rfl,c,fp,s,rfl,CH,G,q⟩
 rw[if_neg h]at q
 walk_at "z"
 walk_at "q"
 walk_at "z"
 refine dJ (fun h=>?_) (fun h=>?_)
 ·rw[if_pos h]at q
  walk_at "z"
  refine cC X.at_ (dy (by decide +kernel)) ?_
  walk_at "z"
  have hp1:=G.g.v20
  have hc1:=G.g.n12
  refine⟨rfl,c,fp,s,rfl,CH,G.g.ap,G.g.ac,G.g.aw,by omega,by omega,fun l ts H1 fl s1 w1 _=>?_⟩
  walk_at "z"
  refine⟨rfl,l,ts,_,rfl,w1,by rw[P7];exact hc1,fun r hr=>?_,fun H2 s2=>q H2 (s1.trans s2)⟩
  obtain⟨p,hp,rfl⟩:=P9.mp hr
  have hb:=G.g.cb p hp
  refine⟨(fq (G.nc p hp)).2,mT (by show(0:Int)<=p.2;omega) hb.2,?_,fun x hx=>?_⟩
  ·refine P6 (Rz _ _) ?_
   rw[P7]
   exact hp1
  ·obtain⟨v,hv,rfl⟩:=P9.mp (QL.mp hx).1
   exact(fq (G.nv v hv)).2
 rw[if_neg h]at q
 walk_at "z"
 walk_at "q"
 walk_at "z"
 refine dJ (fun h=>?_) (fun h=>?_)
 ·rw[if_pos h]at q
  walk_at "z"
  refine cC X.at_ (dy (by decide +kernel)) ?_
  walk_at "z"
  exists rfl,c,fp,s,rfl,CH
  walk_at "z"
  exact vk G.pot.log (q H (av.refl _))
 rw[if_neg h]at q
 walk_at "z"
 walk_at "q"
 walk_at "z"
 refine dJ (fun h=>?_) (fun h=>?_)
 ·rw[if_pos h]at q
  walk_at "z"
  refine cC X.at_ (dy (by decide +kernel)) ?_
  walk_at "z"
  exists rfl,c,fp,s,rfl,CH
  walk_at "z"
  exact vk G.giv.log (q H (av.refl _))
 rw[if_neg h]at q
 walk_at "z"
 walk_at "q"
 walk_at "z"
 refine dJ (fun h=>?_) (fun h=>?_)
 ·rw[if_pos h]at q
  walk_at "z"
  refine cC X.at_ (dy (by decide +kernel)) ?_
  walk_at "z"
  exists rfl,c,fp,s,rfl,CH
  walk_at "z"
  exact vk G.spt.log (q H (av.refl _))
 rw[if_neg h]at q
 walk_at "z"
 obtain⟨f1,f2,f3⟩:=wI tw (a:="no row of one word: ") (n:=20) (by decide +kernel) (by decide)
 exact⟨_,rfl,f1,_,rfl,w,rfl,f2,_,rfl,f3,f3,(by decide:1<=PZ),q _ (av.refl _)⟩
theorem Ep:∀vs H Q E,pJ K vs H Q E->pI K {nx:=fun _ H'=>Q .non H',rt:=Q} (start ["name"] vs) H:=by
 rintro vs H Q E ⟨_,z,rfl,ha,hz,q⟩
 have hl:=aP z
 have hsz:z.cps.size=z.length:=rfl
 have e:dw z=((decide (1<=z.length)&&decide (z.length<=8))&&z.cps.toList.all isLet):=rfl
 unfold pI
 walk_at "v"
 refine dJ (fun h1=>?_) (fun h1=>?_)
 ·walk_at "z"
  refine dJ (fun h2=>?_) (fun h2=>?_)
  ·walk_at "z"
   exists z,rfl,ha
   refine bD (FA (x:=z) 0) (fun j=>[some (.str ⟨#[z.cps.getD j 0]⟩)]) (by rintro j σ' (rfl|⟨k,rfl⟩)<;>rfl) (fun _ _=>trivial) (P6 (show _<=1000 by omega) bo) (fun j=>.bl (isLet (z.cps.getD j 0))) ?_ ?_
   ·intro j hj H' F s kk
    walk_at "z"
    rw[KY]
    exact kk H' (av.refl _)
   intro l1 H1 f1 s1 h1
   have e1:(P4 z.cps.size).map (fun j=>V.bl (isLet (z.cps.getD j 0)))=(z.cps.toList.map isLet).map V.bl:=by
    rw[Qn]
    have:=bw (fun c=>V.bl (isLet c)) 0 z.cps.toList
    rw[hl]at this
    rw[hsz]
    refine T4 ?_ this
    refine Ss fun j hj=>?_
    simp[Wm,QG]
   rw[e1]at h1
   have q1:aY K H1 l1 ((z.cps.toList.map isLet).map V.bl):=aY.of h1
   walk_at "z"
   have e2:(z.cps.toList.map isLet).all id=dw z:=by
    rw[e,TX,decide_eq_true (by omega),decide_eq_true (by omega)]
    rfl
   rw[e2]
   exact q H1 s1
  ·walk_at "z"
   rw[decide_eq_false (show ¬z.length<=8 by omega),Vo,SR]at e
   rw[<-e]
   exact q H (av.refl _)
 ·walk_at "z"
  rw[decide_eq_false (show ¬1<=z.length by omega),SR,SR]at e
  rw[<-e]
  exact q H (av.refl _)
theorem qJ:∀vs H Q E,dR K vs H Q E->fF K E {nx:=fun _ H'=>Q .non H',rt:=Q} (start ["name","names"] vs) H:=by
 rintro vs H Q E ⟨_,z,d,kvs,rfl,hd,hz,h⟩
 have hsz:=size_eq
 have hz2:=hz.2
 unfold fF
 walk_at "q"
 walk_at "z"
 refine⟨rfl,z,rfl,hz.1,by omega,fun H1 s1=>?_⟩
 rcases h with⟨hn,hv,q⟩|⟨hn,q⟩|⟨hn,hv,q⟩
 ·rw[hn]
  walk_at "z"
  refine FD (s1 _ _ hd) ?_
  rw[hv]
  walk_at "z"
  exact q H1 s1
 ·rw[hn]
  walk_at "z"
  obtain⟨n1,n2,n3⟩:=wI hz (show(Qp++("no name: ":PH)).length=9 by decide +kernel) (by decide)
  exact⟨_,rfl,n1,_,rfl,z,rfl,n2,_,rfl,n3,n3,(by decide:1<=PZ),q _ s1⟩
 ·rw[hn]
  walk_at "z"
  refine FD (s1 _ _ hd) ?_
  rw[hv]
  walk_at "z"
  have n1:(Qp++("there already: ":PH)).length=15:=by decide +kernel
  have n2:(Qp++("there already: ":PH)++z).length<=PZ:=by
   rw[Qx]
   omega
  exact⟨_,rfl,by omega,_,rfl,z,rfl,by omega,_,rfl,n2,n2,(by decide:1<=PZ),q _ s1⟩
theorem Gg:∀y:Int,y=12\/y=20->(Qp++("there are ":PH)).length<=PZ/\y.natAbs.log2<1920/\(Qp++("there are ":PH)++((toString y:String):PH)).length<=PZ/\(Qp++("there are ":PH)++((toString y:String):PH)++(" already":PH)).length<=PZ:=by
 rintro y (rfl|rfl)<;>decide +kernel
theorem xc:∀vs H Q E,fH K vs H Q E->ir K E {nx:=fun _ H'=>Q .non H',rt:=Q} (start ["names","most"] vs) H:=by
 rintro vs H Q E ⟨_,d,kvs,n,rfl,hd,hn,h⟩
 obtain⟨n1,n2,n3,n4⟩:=Gg n hn
 unfold ir
 walk_at "z"
 refine vi hd ?_
 walk_at "z"
 rcases h with⟨h1,q⟩|⟨h1,q⟩
 ·refine FV (by omega) ?_
  walk_at "z"
  exact q
 ·refine IU (by omega) ?_
  exact⟨_,rfl,n1,_,rfl,n,rfl,n2,_,rfl,n3,_,rfl,n4,n4,(by decide:1<=PZ),q _ (av.refl _)⟩
theorem vK(C:gT K):∀vs H Q E,i9 K vs H Q E->iR K E {nx:=fun _ H'=>Q .non H',rt:=Q} (start ["self","name"] vs) H:=by
 rintro vs H Q E ⟨_,c,n,fp,s,rfl,⟨dx,d1,d2,w,wt,x,rfl⟩,hz,qn,qe⟩
 unfold iR
 walk_at "q"
 walk_at "z"
 refine bW x.at_ C.aI C.aS b9 ?_
 walk_at "z"
 by_cases hn:dw n=true
 ·by_cases hm:n∈s.ps.map (·.1)
  ·exact⟨rfl,n,d1,_,rfl,x.p1,hz,.inr (.inr ⟨hn,Cf x.nd hm,qe _ (by rw[cq.due,if_neg (by rw[hn];simp),if_pos hm])⟩)⟩
  refine⟨rfl,n,d1,_,rfl,x.p1,hz,.inl ⟨hn,oa hm,fun H1 s1=>?_⟩⟩
  have x1:=x.same s1
  walk_at "z"
  walk_at "q"
  walk_at "z"
  refine bW x1.at_ C.aI C.aS b9 ?_
  walk_at "z"
  by_cases hl:20<=s.ps.length
  ·exact⟨rfl,d1,_,20,rfl,x1.p1,.inr rfl,.inr ⟨by rw[cW];omega,fun H' s'=>qe _ (by rw[cq.due,if_neg (by rw[hn];simp),if_neg hm,if_pos hl]) H' (s1.trans s')⟩⟩
  refine⟨rfl,d1,_,20,rfl,x1.p1,.inr rfl,.inl ⟨by rw[cW];omega,?_⟩⟩
  walk_at "z"
  refine bW x1.at_ C.aI C.aS b9 ?_
  walk_at "z"
  refine Ij x1.p1 (by rw[cW];exact QD (show _<1000 by omega) bo) ?_
  rw[FP hm]
  refine qn (by rw[cq.due,if_neg (by rw[hn];simp),if_neg hm,if_neg hl]) _ [c,d1,d2,w] ⟨dx,d1,d2,w,wt,x1.setP (ps:=s.ps++[(n,0)]) ?_,rfl⟩ ((bZ.of s1).trans (bZ.upd x1.p1 (by intro xs z;cases z) (by simp))) ji.refl
  rw[Rj]
  exact uT x.nd hm
 ·have hn:dw n=false:=by simpa using hn
  exact⟨rfl,n,d1,_,rfl,x.p1,hz,.inr (.inl ⟨hn,qe _ (by rw[cq.due,if_pos hn])⟩)⟩
theorem mI(C:gT K):∀vs H Q E,cg K vs H Q E->d5 K E {nx:=fun _ H'=>Q .non H',rt:=Q} (start ["self","voter"] vs) H:=by
 rintro vs H Q E ⟨_,c,n,fp,s,rfl,⟨dx,d1,d2,w,wt,x,rfl⟩,h⟩
 unfold d5
 walk_at "z"
 refine bW x.at_ C.aI C.aS b9 ?_
 refine FD x.p1 ?_
 rcases h with⟨hn,q⟩|⟨hn,hz,q⟩
 ·obtain⟨p,hp,rfl⟩:=P9.mp hn
  rw[nD x.nd (show(p.1,p.2)∈s.ps from hp)]
  walk_at "z"
  exact q
 ·rw[oa hn]
  walk_at "z"
  obtain⟨n1,n2,n3⟩:=wI hz (show(Qp++("no voter: ":PH)).length=10 by decide +kernel) (by decide)
  exact⟨_,rfl,n1,_,rfl,n,rfl,n2,_,rfl,n3,n3,(by decide:1<=PZ),q _ (av.refl _)⟩
theorem qk(C:gT K):∀vs H Q E,fK K vs H Q E->fG K E {nx:=fun _ H'=>Q .non H',rt:=Q} (start ["self","voter"] vs) H:=by
 rintro vs H Q E ⟨_,c,n,fp,s,rfl,⟨dx,d1,d2,w,wt,X,rfl⟩,tx,qn,qe⟩
 unfold fG
 walk_at "q"
 walk_at "z"
 refine cC X.at_ (dy (by decide +kernel)) ?_
 walk_at "z"
 by_cases hin:n∈s.ps.map (·.1)
 rotate_left
 ·exact⟨rfl,c,n,_,s,rfl,⟨dx,d1,d2,w,wt,X,rfl⟩,.inr ⟨hin,tx,qe hin⟩⟩
 refine⟨rfl,c,n,_,s,rfl,⟨dx,d1,d2,w,wt,X,rfl⟩,.inl ⟨hin,?_⟩⟩
 walk_at "z"
 refine bW X.at_ C.aI C.aS b9 ?_
 walk_at "z"
 exact JL X.p1 (nD X.nd (pT hin)) (qn hin)
theorem wQ(C:gT K):∀vs H Q E,iu K vs H Q E->i0 K E {nx:=fun _ H'=>Q .non H',rt:=Q} (start ["self","name"] vs) H:=by
 rintro vs H Q E ⟨_,c,n,fp,s,rfl,⟨dx,d1,d2,w,wt,X,rfl⟩,hz,hw,qn,qe⟩
 unfold i0
 walk_at "q"
 walk_at "z"
 refine cC X.at_ (dy (by decide +kernel)) ?_
 walk_at "z"
 by_cases hin:n∈s.ps.map (·.1)
 rotate_left
 ·exact⟨rfl,c,n,_,s,rfl,⟨dx,d1,d2,w,wt,X,rfl⟩,.inr ⟨hin,hz,qe _ (by rw[cq.due,if_neg hin])⟩⟩
 have q:=qn (by rw[cq.due,if_pos hin])
 have hm:=pT hin
 generalize vP s.ps n=x at *
 refine⟨rfl,c,n,_,s,rfl,⟨dx,d1,d2,w,wt,X,rfl⟩,.inl ⟨hin,?_⟩⟩
 walk_at "z"
 walk_at "q"
 walk_at "z"
 refine zA X.at_ C.aI C.cB eX ?_
 walk_at "z"
 refine bW X.at_ C.aI C.aS b9 ?_
 exists d1,rfl,.inl ⟨_,.inl X.p1⟩
 walk_at "z"
 exists _,.inr n,.int x,X.p1,rfl,nD X.nd hm
 rw[Bz]
 have X1:=X.setP (ps:=s.ps.filter fun p=>decide (p.1≠n)) (rP X.nd)
 have b1:bZ [c,d1,d2,w] H (upd H d1 (.dK (eD (s.ps.filter fun p=>decide (p.1≠n))))):=bZ.upd X.p1 (by intro xs z;cases z) (by simp)
 generalize upd H d1 (.dK (eD (s.ps.filter fun p=>decide (p.1≠n))))=H1 at *
 exists _,_,rfl,rfl,dx,_,X1.at_,(show 6<1000 by decide)
 rw[jy]
 have X2:=X1.setF (a:=s.pot+x) (b:=s.giv) (e:=s.spt)
 have b2:bZ [c,d1,d2,w] H1 (upd H1 c (.ins (ao K "Chest") dx (gE d1 d2 w (s.pot+x) s.giv s.spt))):=bZ.upd X1.at_ (by intro xs z;cases z) (by simp)
 generalize upd H1 c (.ins (ao K "Chest") dx (gE d1 d2 w (s.pot+x) s.giv s.spt))=H2 at *
 walk_at "z"
 refine bW X2.at_ C.aI C.bQ fU ?_
 exists w,rfl,⟨_,aY.of X2.w_⟩
 have hwl:s.ws.length=wt.length:=Qv X.wt
 refine nP (u5 (K:=K) (a:=w) (ts:=wt) (u:=fun i=>.str (s.ws.getD i ("","")).1) (v:=fun i=>.str (s.ws.getD i ("","")).2) 0 1) (fun i=>[some (.str (s.ws.getD i ("","")).1),some (.str (s.ws.getD i ("","")).2),some (.str n)]) (by rintro j σ' (rfl|⟨k,rfl⟩)<;>rfl) ?_ (P6 (show _<=1000 by omega) bo)
  (fun i=>!decide ((s.ws.getD i ("","")).1=n)) (fun i=>[.str (s.ws.getD i ("","")).1,.str (s.ws.getD i ("","")).2]) ?_ ?_ ?_
 ·intro H' s'
  refine⟨s'.seq (aY.of X2.w_),fun i b hb=>?_⟩
  have hi:i<s.ws.length:=by rw[hwl];exact(QN.mp hb).1
  obtain⟨b',z1,z2⟩:=gx X2.wt (Qj hi)
  rw[hb]at z1
  cases z1
  rw[QG,Qj hi]
  exact s'.seqT (kZ.of z2)
 ·intro i hi H' G s' kk
  walk_at "z"
  exact kk H' (av.refl _)
 ·intro i hi hb H' G s' kk
  walk_at "z"
  rename_i a H'' f s'' h
  exact kk a H'' f s'' h
 intro l bs H3 f3 s3 h3 pr
 have X3:=X2.same s3
 rw[<-hwl]at pr
 have hp:Qd (Br H3) (s.ws.filter fun p=>!decide (p.1=n)) bs:=by
  rw[<-iD (fun p:PH×PH=>!decide (p.1=n)) ("","") s.ws]
  exact eV pr
 walk_at "z"
 refine ma X3.at_ C.aI C.bQ (show 6<1000 by decide) ?_
 rw[sh]
 have X4:=X3.setW h3 hp
 refine q _ [c,d1,d2,l] ⟨dx,d1,d2,l,bs,X4,rfl⟩ (((b1.trans b2).trans (bZ.of s3)).trans (bZ.upd X3.at_ (by intro xs z;cases z) (by simp))) ?_
 intro a ha
 simp only[Qb,Rb,or_false]at ha
 rcases ha with rfl|rfl|rfl|rfl
 ·exact .inl (by simp)
 ·exact .inl (by simp)
 ·exact .inl (by simp)
 ·exact .inr ((b1.trans b2).2.2 _ f3)
theorem Ge:∀y:Int,y=0\/y=1->(Qp++("not from ":PH)).length<=PZ/\y.natAbs.log2<1920/\(Qp++("not from ":PH)++((toString y:String):PH)).length<=PZ/\(Qp++("not from ":PH)++((toString y:String):PH)++(" to ":PH)).length<=PZ/\
  (1000000000:Int).natAbs.log2<1920/\(Qp++("not from ":PH)++((toString y:String):PH)++(" to ":PH)++((toString (1000000000:Int):String):PH)).length<=PZ/\(Qp++("not from ":PH)++((toString y:String):PH)++(" to ":PH)++((toString (1000000000:Int):String):PH)++(" coins":PH)).length<=PZ:=by
 rintro y (rfl|rfl)<;>decide +kernel
theorem vX:∀vs H Q E,fv K vs H Q E->jf K E {nx:=fun _ H'=>Q .non H',rt:=Q} (start ["coins","least"] vs) H:=by
 rintro vs H Q E ⟨_,x,y,rfl,hy,h⟩
 obtain⟨n1,n2,n3,n4,n5,n6,n7⟩:=Ge y hy
 unfold jf
 walk_at "z"
 rcases h with⟨h1,h2,q⟩|⟨h1,q⟩
 ·refine FV (by omega) ?_
  walk_at "z"
  refine FV (by omega) ?_
  walk_at "z"
  exact q
 ·have fin:eJ (ao K "TooMuch") E (ae (zH [(tC (.str "not from ")),(xS (af 1)),(tC (.str " to ")),(xS (tC (.int 1000000000))),(tC (.str " coins"))] Qp) az) {nx:=fun _ H'=>Q .non H',rt:=Q} (start ["coins","least"] [.int x,.int y]) H:=
   ⟨_,rfl,n1,_,rfl,y,rfl,n2,_,rfl,n3,_,rfl,n4,_,rfl,n5,_,rfl,n6,_,rfl,n7,n7,(by decide:1<=PZ),q _ (av.refl _)⟩
  refine dJ (fun _=>?_) (fun h3=>?_)
  ·walk_at "z"
   exact fin
  ·walk_at "z"
   refine IU (by omega) ?_
   exact fin
theorem vI(C:gT K):∀vs H Q E,iF K vs H Q E->jb K {nx:=fun _ H'=>Q .non H',rt:=Q} (start ["self","part"] vs) H:=by
 rintro vs H Q E ⟨_,c,x,fp,s,rfl,⟨dx,d1,d2,w,wt,X,rfl⟩,hl,q⟩
 unfold jb
 walk_at "q"
 walk_at "z"
 refine zA X.at_ C.aI C.cB eX ?_
 walk_at "z"
 refine bW X.at_ C.aI C.aS b9 ?_
 walk_at "z"
 refine vi X.p1 ?_
 rw[cW]
 walk_at "z"
 exists _,_,rfl,rfl,dx,_,X.at_,(show 6<1000 by decide)
 rw[jy]
 have X1:=X.setF (a:=s.pot-x*s.ps.length) (b:=s.giv) (e:=s.spt)
 have b1:bZ [c,d1,d2,w] H (upd H c (.ins (ao K "Chest") dx (gE d1 d2 w (s.pot-x*s.ps.length) s.giv s.spt))):=bZ.upd X.at_ (by intro xs z;cases z) (by simp)
 generalize upd H c (.ins (ao K "Chest") dx (gE d1 d2 w (s.pot-x*s.ps.length) s.giv s.spt))=H1 at *
 walk_at "z"
 have hk:=cW s.ps
 refine Dp (d:=d1) (kvs:=eD s.ps) (fun k hk=>⟨_,rfl,bW X1.at_ C.aI C.aS b9 hk⟩) X1.p1 (by rw[hk];exact P6 (show _<=1000 by omega) bo) (fun i=>.str (s.ps.getD i ("",0)).1) (fun i=>.int (s.ps.getD i ("",0)).2) ?_
  (fun i=>[some (.str (s.ps.getD i ("",0)).1),some (.int (s.ps.getD i ("",0)).2),some (.int x)]) (by rintro j σ' (rfl|⟨k,rfl⟩)<;>rfl) (fun i=>[.str (s.ps.getD i ("",0)).1,.int ((s.ps.getD i ("",0)).2+x)]) ?_ ?_
 ·intro i p hp
  have hi:i<s.ps.length:=by rw[<-hk];exact(QN.mp hp).1
  rw[jA (Qj hi)]at hp
  cases hp
  rw[QG,Qj hi]
  exact⟨rfl,rfl⟩
 ·intro i hi H' G kk
  walk_at "z"
  rename_i a H'' f s' h
  exact kk a H'' f s' h
 intro l bs H2 f2 s2 h2 pr
 rw[hk]at pr
 have X2:=X1.same s2
 walk_at "z"
 have nd':((s.ps.map fun p=>(p.1,p.2+x)).map (·.1)).Nodup:=by rw[map_fst];exact X.nd
 refine⟨l,bs,eD (s.ps.map fun p=>(p.1,p.2+x)),rfl,h2,?_,?_,?_,fun d f3=>?_⟩
 ·have e:eD (s.ps.map fun p=>(p.1,p.2+x))=(P4 s.ps.length).map fun i=>((.inr (s.ps.getD i ("",0)).1:Key),V.int ((s.ps.getD i ("",0)).2+x)):=by
   rw[bw (fun p:PH×Int=>((.inr p.1:Key),V.int (p.2+x))) ("",0) s.ps]
   unfold eD
   rw[Qn]
   rfl
  rw[e]
  exact eV (Paired.mapP pr fun i a z=>kZ.of z)
 ·unfold eD
  rw[Qn]
  have:((fun p:PH×Int=>((.inr p.1:Key),V.int p.2)))=fun p:PH×Int=>((.inr p.1:Key),V.int p.2):=rfl
  show Qk (RE (fun p:PH×Int=>(RJ p.1:Key)) _)
  have e2:RE (fun p:PH×Int=>(RJ p.1:Key)) (s.ps.map fun p=>(p.1,p.2+x))=((s.ps.map fun p=>(p.1,p.2+x)).map (·.1)).map RJ:=by rw[Qn,Qn,Qn];rfl
  rw[e2]
  exact V4 _ (fun a b h z=>h (Wu z)) nd'
 ·rw[cW,P7];omega
 have s3:av H2 (upd H2 d (.dK (eD (s.ps.map fun p=>(p.1,p.2+x))))):=av.updN f3
 have X3:=X2.same s3
 have h3:upd H2 d (.dK (eD (s.ps.map fun p=>(p.1,p.2+x)))) d=some (.dK (eD (s.ps.map fun p=>(p.1,p.2+x)))):=ax
 generalize upd H2 d (.dK (eD (s.ps.map fun p=>(p.1,p.2+x))))=H3 at *
 walk_at "z"
 refine ma X3.at_ C.aI C.aS (show 6<1000 by decide) ?_
 rw[y6]
 have X4:=X3.setD h3 (Qy (gj X2.p2 f3)) nd'
 refine q _ [c,d,d2,w] ⟨dx,d,d2,w,wt,X4,rfl⟩ (((b1.trans (bZ.of s2)).trans (bZ.of s3)).trans (bZ.upd X3.at_ (by intro xs z;cases z) (by simp))) ?_
 intro a ha
 simp only[Qb,Rb,or_false]at ha
 rcases ha with rfl|rfl|rfl|rfl
 ·exact .inl (by simp)
 ·exact .inr (b1.2.2 _ (s2.free f3))
 ·exact .inl (by simp)
 ·exact .inl (by simp)
theorem yf(C:gT K):∀vs H Q E,jG K vs H Q E->jJ K E {nx:=fun _ H'=>Q .non H',rt:=Q} (start ["self","coins"] vs) H:=by
 rintro vs H Q E ⟨_,c,x,fp,s,rfl,⟨dx,d1,d2,w,wt,X,rfl⟩,hl,qn,qe⟩
 unfold jJ
 walk_at "q"
 walk_at "z"
 by_cases hx:x<0\/1000000000<x
 ·exact⟨rfl,x,0,rfl,.inl rfl,.inr ⟨hx,qe _ (by rw[cq.due,if_pos hx])⟩⟩
 have h0:0<=x:=by omega
 have h1:x<=1000000000:=by omega
 have q:=qn (by rw[cq.due,if_neg hx])
 refine⟨rfl,x,0,rfl,.inl rfl,.inl ⟨h0,h1,?_⟩⟩
 walk_at "z"
 walk_at "q"
 walk_at "z"
 refine zA X.at_ C.aI C.jS BS ?_
 walk_at "z"
 exists _,_,rfl,rfl,dx,_,X.at_,(show 6<1000 by decide)
 rw[HP]
 have X1:=X.setF (a:=s.pot) (b:=s.giv+x) (e:=s.spt)
 have b1:bZ [c,d1,d2,w] H (upd H c (.ins (ao K "Chest") dx (gE d1 d2 w s.pot (s.giv+x) s.spt))):=bZ.upd X.at_ (by intro xs z;cases z) (by simp)
 generalize upd H c (.ins (ao K "Chest") dx (gE d1 d2 w s.pot (s.giv+x) s.spt))=H1 at *
 walk_at "q"
 walk_at "z"
 refine zA X1.at_ C.aI C.cB eX ?_
 walk_at "z"
 exists _,_,rfl,rfl,dx,_,X1.at_,(show 6<1000 by decide)
 rw[jy]
 have X2:=X1.setF (a:=s.pot+x) (b:=s.giv+x) (e:=s.spt)
 have b2:bZ [c,d1,d2,w] H1 (upd H1 c (.ins (ao K "Chest") dx (gE d1 d2 w (s.pot+x) (s.giv+x) s.spt))):=bZ.upd X1.at_ (by intro xs z;cases z) (by simp)
 generalize upd H1 c (.ins (ao K "Chest") dx (gE d1 d2 w (s.pot+x) (s.giv+x) s.spt))=H2 at *
 walk_at "z"
 refine bW X2.at_ C.aI C.aS b9 ?_
 exists d1,_,rfl,X2.p1
 by_cases hp:s.ps=[]
 ·have e:(!(eD s.ps).isEmpty)=false:=by rw[hp];rfl
  rw[show(!List.isEmpty (eD (aG.mk s.ps s.cs s.ws (s.pot+x) (s.giv+x) s.spt).ps))=false from e]
  walk_at "z"
  have hS:qU s x=⟨s.ps,s.cs,s.ws,s.pot+x,s.giv+x,s.spt⟩:=by unfold qU;rw[if_pos hp]
  exact q H2 _ (by rw[hS];exact⟨dx,d1,d2,w,wt,X2,rfl⟩) (b1.trans b2) ji.refl
 ·have hpos:0<s.ps.length:=Uj.mpr hp
  have e:(!(eD s.ps).isEmpty)=true:=by
   cases hh:s.ps with
   |nil=>exact absurd hh hp
   |cons=>rfl
  rw[show(!List.isEmpty (eD (aG.mk s.ps s.cs s.ws (s.pot+x) (s.giv+x) s.spt).ps))=true from e]
  walk_at "z"
  refine cC X2.at_ (dy (by decide +kernel)) ?_
  walk_at "z"
  refine bW X2.at_ C.aI C.cB eX ?_
  walk_at "z"
  refine bW X2.at_ C.aI C.aS b9 ?_
  walk_at "z"
  refine vi X2.p1 ?_
  rw[cW]
  have e3:(aG.mk s.ps s.cs s.ws (s.pot+x) (s.giv+x) s.spt).ps.length=s.ps.length:=rfl
  refine LV (by rw[e3];omega) (by rw[e3];omega) ?_
  walk_at "z"
  have hS:qU s x=wY ⟨s.ps,s.cs,s.ws,s.pot+x,s.giv+x,s.spt⟩ ((s.pot+x)/(s.ps.length:Int)):=by unfold qU;rw[if_neg hp]
  refine⟨rfl,c,_,[c,d1,d2,w],⟨s.ps,s.cs,s.ws,s.pot+x,s.giv+x,s.spt⟩,rfl,⟨dx,d1,d2,w,wt,X2,rfl⟩,hl,fun H3 fp3 x3 b3 n3=>?_⟩
  walk_at "z"
  exact q H3 fp3 (by rw[hS];exact x3) ((b1.trans b2).trans b3) (ji.refl.trans n3 (b1.trans b2))
theorem Aw:∀vs H Q E,kC K vs H Q E->kU K {nx:=fun _ H'=>Q .non H',rt:=Q} (start ["word"] vs) H:=by
 rintro vs H Q E ⟨_,z,rfl,ha,hz,q⟩
 have hl:=aP z
 have hsz:z.cps.size=z.length:=rfl
 unfold kU
 walk_at "q"
 walk_at "z"
 refine dJ (fun h0=>?_) (fun h0=>?_)
 ·walk_at "z"
  have e:i6 z=decide (z=("0":PH)):=by
   unfold i6 Iz
   rw[if_pos h0,yV,Rh,decide_eq_true_eq,decide_eq_true_eq,jd]
  rw[<-e]
  exact q H (av.refl _)
 have e:i6 z=((decide (1<=z.length)&&decide (z.length<=13))&&z.cps.toList.all nG):=by
  unfold i6 Iz
  rw[if_neg h0,hl]
 walk_at "v"
 refine dJ (fun h1=>?_) (fun h1=>?_)
 ·walk_at "z"
  refine dJ (fun h2=>?_) (fun h2=>?_)
  ·walk_at "z"
   exists z,rfl,ha
   refine bD (FA (x:=z) 0) (fun j=>[some (.str ⟨#[z.cps.getD j 0]⟩)]) (by rintro j σ' (rfl|⟨k,rfl⟩)<;>rfl) (fun _ _=>trivial) (P6 (show _<=1000 by omega) bo) (fun j=>.bl (nG (z.cps.getD j 0))) ?_ ?_
   ·intro j hj H' F s kk
    walk_at "z"
    rw[Le]
    exact kk H' (av.refl _)
   intro l1 H1 f1 s1 h1
   have e1:(P4 z.cps.size).map (fun j=>V.bl (nG (z.cps.getD j 0)))=(z.cps.toList.map nG).map V.bl:=by
    rw[Qn]
    have:=bw (fun c=>V.bl (nG c)) 0 z.cps.toList
    rw[hl]at this
    rw[hsz]
    refine T4 ?_ this
    refine Ss fun j hj=>?_
    simp[Wm,QG]
   rw[e1]at h1
   have q1:aY K H1 l1 ((z.cps.toList.map nG).map V.bl):=aY.of h1
   walk_at "z"
   have e2:(z.cps.toList.map nG).all id=i6 z:=by
    rw[e,TX,decide_eq_true (by omega),decide_eq_true (by omega)]
    rfl
   rw[e2]
   exact q H1 s1
  ·walk_at "z"
   rw[decide_eq_false (show ¬z.length<=13 by omega),Vo,SR]at e
   rw[<-e]
   exact q H (av.refl _)
 ·walk_at "z"
  rw[decide_eq_false (show ¬1<=z.length by omega),SR,SR]at e
  rw[<-e]
  exact q H (av.refl _)
theorem vD:∀vs H Q E,fJ K vs H Q E->iY K E {nx:=fun _ H'=>Q .non H',rt:=Q} (start ["word"] vs) H:=by
 rintro vs H Q E ⟨_,z,rfl,ha,hz,qn,qe⟩
 have hsz:=size_eq
 have hrp:=repr_fits ha hz
 unfold iY
 walk_at "q"
 walk_at "z"
 refine⟨rfl,z,rfl,ha,hz,fun H1 s1=>?_⟩
 walk_at "z"
 cases hn:i6 z
 ·walk_at "z"
  have n1:(Qp++("no number: ":PH)).length=11:=by decide +kernel
  have n2:(Qp++("no number: ":PH)++TZ z).length<=PZ:=by
   rw[Qx]
   omega
  exact⟨_,rfl,by omega,_,rfl,z,rfl,by omega,_,rfl,n2,n2,(by decide:1<=PZ),qe hn _ s1⟩
 ·obtain⟨n,h0,h1,h2,h3,h4⟩:=vg hn
  walk_at "z"
  exact⟨z,n,rfl,h2,by omega,qn hn n H1 h0 h1 h3 s1⟩
theorem EH:∀vs H Q E,pN K vs H Q E->pS K E {nx:=fun _ H'=>Q .non H',rt:=Q} (start ["chest","deed","word"] vs) H:=by
 rintro vs H Q E ⟨_,c,w,a,fp,s,rfl,CH,G,tw,ta,q⟩
 obtain⟨dx,d1,d2,wl,wt,X,efp⟩:=id CH
 have hwl:=G.g.wl
 unfold pS
 unfold act2 at q
 walk_at "q"
 walk_at "z"
 refine dJ (fun h=>?_) (fun h=>?_)
 ·rw[if_pos h]at q
  walk_at "z"
  refine cC X.at_ (dy (by decide +kernel)) ?_
  walk_at "z"
  refine⟨rfl,c,a,fp,s,rfl,CH,ta,fun hin=>?_,fun hin=>?_⟩
  ·rw[if_pos hin]at q
   walk_at "z"
   have hb:=G.g.p0 _ (pT hin)
   exact vk (mT hb.1 hb.2).log (q H (av.refl _))
  ·rw[if_neg hin]at q
   exact q
 rw[if_neg h]at q
 walk_at "z"
 walk_at "q"
 walk_at "z"
 refine dJ (fun h=>?_) (fun h=>?_)
 ·rw[if_pos h]at q
  walk_at "z"
  refine cC X.at_ (dy (by decide +kernel)) ?_
  walk_at "z"
  refine⟨rfl,c,a,fp,s,rfl,CH,ta,fun hd H2 fp2 x2 b2 n2=>?_,q.2⟩
  walk_at "z"
  exact q.1 hd H2 fp2 x2 b2 n2
 rw[if_neg h]at q
 walk_at "z"
 refine dJ (fun h=>?_) (fun h=>?_)
 ·rw[if_pos h]at q
  walk_at "z"
  refine cC X.at_ (dy (by decide +kernel)) ?_
  walk_at "z"
  refine⟨rfl,c,a,fp,s,rfl,CH,ta,by omega,fun hd H2 fp2 x2 b2 n2=>?_,q.2⟩
  walk_at "z"
  exact q.1 hd H2 fp2 x2 b2 n2
 rw[if_neg h]at q
 walk_at "z"
 refine dJ (fun h=>?_) (fun h=>?_)
 ·rw[if_pos h]at q
  walk_at "z"
  refine cC X.at_ (dy (by decide +kernel)) ?_
  walk_at "z"
  refine⟨rfl,a,rfl,ta.1,P6 ta.2 (by decide),fun hn n H1 n0 nl hz s1=>?_,fun hn H1 s1=>?_⟩
  ·rw[if_pos hn]at q
   have en:C7 a=n:=by
    obtain⟨m,m0,_,m1,m2,_⟩:=vg hn
    have:C7 a=m:=by unfold C7;rw[m1];rfl
    rw[this]
    exact JZ m0 n0 (m2.trans hz.symm)
   rw[en]at q
   walk_at "z"
   refine⟨rfl,c,n,fp,s,rfl,CH.same s1,G.g.v20,fun hd H2 fp2 x2 b2 n2=>?_,fun cl hd H2 s2=>q.2 cl hd H2 (s1.trans s2)⟩
   walk_at "z"
   exact q.1 hd H2 fp2 x2 ((bZ.of s1).trans b2) (fun y hy=>by
    rcases n2 y hy with z|z
    ·exact .inl z
    ·exact .inr (s1.free z))
  ·rw[if_neg (by rw[hn];simp)]at q
   exact q H1 s1
 rw[if_neg h]at q
 walk_at "z"
 refine dJ (fun h=>?_) (fun h=>?_)
 ·rw[if_pos h]at q
  walk_at "z"
  refine cC X.at_ (dy (by decide +kernel)) ?_
  walk_at "z"
  refine⟨rfl,c,a,fp,s,rfl,CH,by omega,fun hd H2 fp2 x2 b2 n2=>?_,fun cl hd=>⟨ta,q.2 cl hd⟩⟩
  walk_at "z"
  exact q.1 hd H2 fp2 x2 b2 n2
 rw[if_neg h]at q
 walk_at "z"
 obtain⟨f1,f2,f3⟩:=wI tw (a:="no row of two words: ") (n:=21) (by decide +kernel) (by decide)
 exact⟨_,rfl,f1,_,rfl,w,rfl,f2,_,rfl,f3,f3,(by decide:1<=PZ),q _ (av.refl _)⟩
theorem sM(C:gT K):∀vs H Q E,gm K vs H Q E->gg K E {nx:=fun _ H'=>Q .non H',rt:=Q} (start ["self","work","cost"] vs) H:=by
 rintro vs H Q E ⟨_,c,n,x,fp,s,rfl,⟨dx,d1,d2,w,wt,X,rfl⟩,hz,qn,qe⟩
 unfold gg
 walk_at "q"
 walk_at "z"
 refine bW X.at_ C.aI C.bJ dM ?_
 walk_at "z"
 by_cases hn:dw n=true
 ·by_cases hm:n∈s.cs.map (·.1)
  ·exact⟨rfl,n,d2,_,rfl,X.p2,hz,.inr (.inr ⟨hn,Cf X.nd2 hm,qe _ (by rw[cq.due,if_neg (by rw[hn];simp),if_pos hm])⟩)⟩
  refine⟨rfl,n,d2,_,rfl,X.p2,hz,.inl ⟨hn,oa hm,fun H1 s1=>?_⟩⟩
  have x1:=X.same s1
  walk_at "z"
  walk_at "q"
  walk_at "z"
  by_cases hx:x<1\/1000000000<x
  ·exact⟨rfl,x,1,rfl,.inr rfl,.inr ⟨hx,fun H' s'=>qe _ (by rw[cq.due,if_neg (by rw[hn];simp),if_neg hm,if_pos hx]) H' (s1.trans s')⟩⟩
  refine⟨rfl,x,1,rfl,.inr rfl,.inl ⟨by omega,by omega,?_⟩⟩
  walk_at "z"
  walk_at "q"
  walk_at "z"
  refine bW x1.at_ C.aI C.bJ dM ?_
  walk_at "z"
  by_cases hl:12<=s.cs.length
  ·exact⟨rfl,d2,_,12,rfl,x1.p2,.inl rfl,.inr ⟨by rw[cW];omega,fun H' s'=>qe _ (by rw[cq.due,if_neg (by rw[hn];simp),if_neg hm,if_neg hx,if_pos hl]) H' (s1.trans s')⟩⟩
  refine⟨rfl,d2,_,12,rfl,x1.p2,.inl rfl,.inl ⟨by rw[cW];omega,?_⟩⟩
  walk_at "z"
  refine bW x1.at_ C.aI C.bJ dM ?_
  walk_at "z"
  refine Ij x1.p2 (by rw[cW];exact QD (show _<1000 by omega) bo) ?_
  rw[FP hm]
  refine qn (by rw[cq.due,if_neg (by rw[hn];simp),if_neg hm,if_neg hx,if_neg hl]) _ [c,d1,d2,w] ⟨dx,d1,d2,w,wt,x1.setC (cs:=s.cs++[(n,x)]) ?_,rfl⟩ ((bZ.of s1).trans (bZ.upd x1.p2 (by intro xs z;cases z) (by simp))) ji.refl
  rw[Rj]
  exact uT X.nd2 hm
 ·have hn:dw n=false:=by simpa using hn
  exact⟨rfl,n,d2,_,rfl,X.p2,hz,.inr (.inl ⟨hn,qe _ (by rw[cq.due,if_pos hn])⟩)⟩
theorem yI(C:gT K):∀vs H Q E,jF K vs H Q E->jT K E {nx:=fun _ H'=>Q .non H',rt:=Q} (start ["self","voter","work"] vs) H:=by
 rintro vs H Q E ⟨_,c,v,n,fp,s,rfl,⟨dx,d1,d2,w,wt,X,rfl⟩,hz1,hz2,ha,hl,qn,qe⟩
 have hwl:s.ws.length=wt.length:=Qv X.wt
 unfold jT
 walk_at "q"
 walk_at "z"
 refine cC X.at_ (dy (by decide +kernel)) ?_
 walk_at "z"
 by_cases hv:v∈s.ps.map (·.1)
 rotate_left
 ·exact⟨rfl,c,v,_,s,rfl,⟨dx,d1,d2,w,wt,X,rfl⟩,.inr ⟨hv,hz1,qe _ (by rw[cq.due,if_neg hv])⟩⟩
 have a1:=hz1.1
 have a2:=hz2.1
 refine⟨rfl,c,v,_,s,rfl,⟨dx,d1,d2,w,wt,X,rfl⟩,.inl ⟨hv,?_⟩⟩
 walk_at "z"
 walk_at "q"
 walk_at "z"
 refine cC X.at_ (dy (by decide +kernel)) ?_
 walk_at "z"
 by_cases hn:n∈s.cs.map (·.1)
 rotate_left
 ·exact⟨rfl,c,n,_,s,rfl,⟨dx,d1,d2,w,wt,X,rfl⟩,.inr ⟨hn,hz2,qe _ (by rw[cq.due,if_pos hv,if_neg hn])⟩⟩
 have q:=qn (by rw[cq.due,if_pos hv,if_pos hn])
 refine⟨rfl,c,n,_,s,rfl,⟨dx,d1,d2,w,wt,X,rfl⟩,.inl ⟨hn,?_⟩⟩
 walk_at "z"
 rename_i t H1 f1 s1 h1
 have X1:=X.same s1
 refine bW X1.at_ C.aI C.bQ fU ?_
 refine ED (p:=(v,n)) h1 X1.w_ X1.wt a1 a2 ha ?_
 rw[TJ]
 by_cases hin:(v,n)∈s.ws
 ·have hS:Jk s v n=s:=if_pos hin
  rw[show decide ((v,n)∈s.ws)=true from decide_eq_true hin]
  walk_at "z"
  exact q H1 _ (by rw[hS];exact⟨dx,d1,d2,w,wt,X1,rfl⟩) (bZ.of s1) ji.refl
 ·have hS:Jk s v n={s with ws:=s.ws++[(v,n)]}:=if_neg hin
  rw[show decide ((v,n)∈s.ws)=false from decide_eq_false hin]
  walk_at "z"
  refine bW X1.at_ C.aI C.bQ fU ?_
  exists NK X1.w_
  walk_at "z"
  rename_i t2 H2 f2 s2 h2
  have X2:=X1.same s2
  refine gf X2.w_ (by rw[P7,<-hwl];exact QD (show _<1000 by omega) bo) ?_
  rw[show wt.map V.ref++[V.ref t2]=(wt++[t2]).map V.ref by simp]
  exact q _ [c,d1,d2,w] (by rw[hS];exact⟨dx,d1,d2,w,wt++[t2],X2.addW h2,rfl⟩) ((bZ.of (s1.trans s2)).trans (bZ.upd X2.w_ (by intro xs z;cases z) (by simp))) ji.refl
theorem uh(C:gT K):∀vs H Q E,gG K vs H Q E->gM K E {nx:=fun _ H'=>Q .non H',rt:=Q} (start ["self","voter","work"] vs) H:=by
 rintro vs H Q E ⟨_,c,v,n,fp,s,rfl,⟨dx,d1,d2,w,wt,X,rfl⟩,hz1,hz2,ha,hl,qn,qe⟩
 have hwl:s.ws.length=wt.length:=Qv X.wt
 unfold gM
 walk_at "q"
 walk_at "z"
 refine cC X.at_ (dy (by decide +kernel)) ?_
 walk_at "z"
 by_cases hv:v∈s.ps.map (·.1)
 rotate_left
 ·exact⟨rfl,c,v,_,s,rfl,⟨dx,d1,d2,w,wt,X,rfl⟩,.inr ⟨hv,hz1,qe _ (by rw[cq.due,if_neg hv])⟩⟩
 have a1:=hz1.1
 have a2:=hz2.1
 refine⟨rfl,c,v,_,s,rfl,⟨dx,d1,d2,w,wt,X,rfl⟩,.inl ⟨hv,?_⟩⟩
 walk_at "z"
 walk_at "q"
 walk_at "z"
 refine cC X.at_ (dy (by decide +kernel)) ?_
 walk_at "z"
 by_cases hn:n∈s.cs.map (·.1)
 rotate_left
 ·exact⟨rfl,c,n,_,s,rfl,⟨dx,d1,d2,w,wt,X,rfl⟩,.inr ⟨hn,hz2,qe _ (by rw[cq.due,if_pos hv,if_neg hn])⟩⟩
 have q:=qn (by rw[cq.due,if_pos hv,if_pos hn])
 refine⟨rfl,c,n,_,s,rfl,⟨dx,d1,d2,w,wt,X,rfl⟩,.inl ⟨hn,?_⟩⟩
 walk_at "z"
 refine bW X.at_ C.aI C.bQ fU ?_
 exists w,rfl,⟨_,aY.of X.w_⟩
 refine kQ (dE (K:=K) (a:=w) (xs:=wt.map V.ref) 0) (fun i=>[some ((wt.map V.ref).getD i .non),some (.str v),some (.str n)]) (by rintro j σ' (rfl|⟨k,rfl⟩)<;>rfl) (fun H' s'=>s'.seq (aY.of X.w_)) (by rw[P7];exact P6 (show _<=1000 by omega) bo)
  (fun i=>!decide (s.ws.getD i ("","")=(v,n))) (fun i=>(wt.map V.ref).getD i .non) ?_ ?_ ?_
 ·intro i hi H' G s' kk
  have hi:i<s.ws.length:=by rw[hwl];simpa using hi
  obtain⟨b',z1,z2⟩:=gx X.wt (Qj hi)
  have et:(wt.map V.ref).getD i .non=.ref b':=by simp[Qm,z1]
  have eg:s.ws.getD i ("","")=s.ws[i]:=by rw[QG,Qj hi];rfl
  have hai:=ha s.ws[i] (RA hi)
  rw[et]
  rw[eg]at kk
  walk_at "z"
  rename_i t H2 f2 s2 h2
  refine L2.NA (n:=4) (d:=EZ s.ws[i]) (e:=EZ (v,n)) (.tup (kZ.of (s2 _ _ (s' _ _ z2))) (.cons (.str _) (.cons (.str _) .nil))) (.tup (kZ.of h2) (.cons (.str _) (.cons (.str _) .nil))) (A7 hai.1 hai.2) (A7 a1 a2) (by decide) ?_
  rw[JS]
  walk_at "z"
  exact kk H2 s2
 ·intro i hi hb H' G s' kk
  walk_at "z"
  exact kk H' (av.refl _)
 intro l H3 f3 s3 h3
 have X3:=X.same s3
 have hp:∃bs:List PK,H3 l=some (.lst (bs.map V.ref))/\Qd (Br H3) (s.ws.filter fun p=>!decide (p=(v,n))) bs:=by
  refine⟨((P4 (wt.map V.ref).length).filter fun i=>!decide (s.ws.getD i ("","")=(v,n))).map (fun i=>wt.getD i 0),?_,?_⟩
  ·rw[h3,Qn]
   congr 2
   refine Ss fun i hi=>?_
   have hi:i<wt.length:=by simpa using Q6.mp (QL.mp hi).1
   simp[Qm,hi]
  ·rw[<-iD (fun p:PH×PH=>!decide (p=(v,n))) ("","") s.ws,hwl,P7]
   have go:∀is:List Nat,(∀i∈is,i<wt.length)->Qd (Br H3) (is.map fun i=>s.ws.getD i ("","")) (is.map fun i=>wt.getD i 0):=by
    intro is
    induction is with
    |nil=>exact fun _=>.nil
    |cons i r ih=>
     intro h
     have hi:=h i (by simp)
     refine .cons ?_ (ih fun j hj=>h j (by simp[hj]))
     obtain⟨b',z1,z2⟩:=gx X3.wt (Qj (show i<s.ws.length by omega))
     show Br H3 (s.ws.getD i ("","")) (wt.getD i 0)
     rw[QG,QG,z1,Qj (show i<s.ws.length by omega)]
     exact z2
   exact go _ fun i hi=>by simpa using Q6.mp (QL.mp hi).1
 obtain⟨bs,h3',hp⟩:=hp
 walk_at "z"
 refine ma X3.at_ C.aI C.bQ (show 6<1000 by decide) ?_
 rw[sh]
 have X4:=X3.setW h3' hp
 refine q _ [c,d1,d2,l] ⟨dx,d1,d2,l,bs,X4,rfl⟩ ((bZ.of s3).trans (bZ.upd X3.at_ (by intro xs z;cases z) (by simp))) ?_
 intro a ha
 simp only[Qb,Rb,or_false]at ha
 rcases ha with rfl|rfl|rfl|rfl
 ·exact .inl (by simp)
 ·exact .inl (by simp)
 ·exact .inl (by simp)
 ·exact .inr f3
theorem Al:∀vs H Q E,lE K vs H Q E->kS K E {nx:=fun _ H'=>Q .non H',rt:=Q} (start ["chest","deed","word","last"] vs) H:=by
 rintro vs H Q E ⟨_,c,w,a,b,fp,s,rfl,CH,G,tw,ta,tb,q⟩
 obtain⟨dx,d1,d2,wl,wt,X,efp⟩:=id CH
 unfold kS
 unfold xK at q
 walk_at "q"
 walk_at "z"
 refine dJ (fun h=>?_) (fun h=>?_)
 ·rw[if_pos h]at q
  walk_at "z"
  refine cC X.at_ (dy (by decide +kernel)) ?_
  walk_at "z"
  refine⟨rfl,b,rfl,tb.1,P6 tb.2 (by decide),fun hn n H1 n0 nl hz s1=>?_,fun hn H1 s1=>?_⟩
  ·rw[if_pos hn]at q
   have en:C7 b=n:=by
    obtain⟨m,m0,_,m1,m2,_⟩:=vg hn
    have:C7 b=m:=by unfold C7;rw[m1];rfl
    rw[this]
    exact JZ m0 n0 (m2.trans hz.symm)
   rw[en]at q
   walk_at "z"
   refine⟨rfl,c,a,n,fp,s,rfl,CH.same s1,ta,fun hd H2 fp2 x2 b2 n2=>?_,fun cl hd H2 s2=>q.2 cl hd H2 (s1.trans s2)⟩
   walk_at "z"
   exact q.1 hd H2 fp2 x2 ((bZ.of s1).trans b2) (fun y hy=>by
    rcases n2 y hy with z|z
    ·exact .inl z
    ·exact .inr (s1.free z))
  ·rw[if_neg (by rw[hn];simp)]at q
   exact q H1 s1
 rw[if_neg h]at q
 walk_at "z"
 refine dJ (fun h=>?_) (fun h=>?_)
 ·rw[if_pos h]at q
  walk_at "z"
  refine cC X.at_ (dy (by decide +kernel)) ?_
  walk_at "z"
  refine⟨rfl,c,a,b,fp,s,rfl,CH,ta,tb,G.g.aw,G.g.wl,fun hd H2 fp2 x2 b2 n2=>?_,q.2⟩
  walk_at "z"
  exact q.1 hd H2 fp2 x2 b2 n2
 rw[if_neg h]at q
 walk_at "z"
 refine dJ (fun h=>?_) (fun h=>?_)
 ·rw[if_pos h]at q
  walk_at "z"
  refine cC X.at_ (dy (by decide +kernel)) ?_
  walk_at "z"
  refine⟨rfl,c,a,b,fp,s,rfl,CH,ta,tb,G.g.aw,G.g.wl,fun hd H2 fp2 x2 b2 n2=>?_,q.2⟩
  walk_at "z"
  exact q.1 hd H2 fp2 x2 b2 n2
 rw[if_neg h]at q
 walk_at "z"
 obtain⟨f1,f2,f3⟩:=wI tw (a:="no row of three words: ") (n:=23) (by decide +kernel) (by decide)
 exact⟨_,rfl,f1,_,rfl,w,rfl,f2,_,rfl,f3,f3,(by decide:1<=PZ),q _ (av.refl _)⟩
theorem DQ{H H1:Hp}{d dx c:PK}{fpc:List PK}{s:aG}{Q:VK}{E:XK}{A:Act}(hd:H d=some (.ins (ao K "Desk") dx [("chest",.ref c)]))(dn:d∉fpc)(s1:av H H1)(cth:∀x∈fpc,H x≠none)
  (q:xu K (fun H' fp' s'=>cF K H' d fp' s') H (d::fpc) s Q E A):xu K (fun H' fp' s'=>aO K H' c fp' s') H1 fpc s Q E A:=by
 have key:∀(H':Hp)(fp':List PK)(s':aG),aO K H' c fp' s'->bZ fpc H1 H'->ji fpc fp' H1->cF K H' d (d::fp') s'/\bZ (d::fpc) H H'/\ji (d::fpc) (d::fp') H:=fun H' fp' s' x b n=>by
  have b0:=(bZ.of (l:=fpc) s1).trans b
  have n0:ji fpc fp' H:=fun y hy=>by
   rcases n y hy with z|z
   ·exact .inl z
   ·exact .inr (s1.free z)
  refine⟨⟨dx,c,fp',b0.1 _ _ dn hd,x,fun m=>?_,rfl⟩,b0.mono (fun y hy=>Qs _ hy),fun y hy=>?_⟩
  ·rcases n0 d m with z|z
   ·exact dn z
   ·rw[z]at hd;cases hd
  ·rcases Qb.mp hy with rfl|hy
   ·exact .inl (by simp)
   ·rcases n0 y hy with z|z
    ·exact .inl (Qs _ z)
    ·exact .inr z
 cases A with
 |deed D=>
  refine⟨fun hn H' fp' x b n=>?_,fun cl hc H' s'=>q.2 cl hc H' (s1.trans s')⟩
  obtain⟨k1,k2,k3⟩:=key H' fp' _ x b n
  exact q.1 hn H' _ k1 k2 k3
 |close=>
  intro H' fp' x b n
  obtain⟨k1,k2,k3⟩:=key H' fp' _ x b n
  exact q H' _ k1 k2 k3
 |tell t=>exact fun H' s'=>q H' (s1.trans s')
 |no cl=>exact fun H' s'=>q H' (s1.trans s')
theorem Cs(C:gT K):∀vs H Q E,jq K vs H Q E->nR K E {nx:=fun _ H'=>Q .non H',rt:=Q} (start ["self","row","words"] vs) H:=by
 rintro vs H Q E ⟨_,d,row,fp,s,rfl,⟨dx,c,fpc,hd,CH,dn,rfl⟩,G,tr,q⟩
 unfold nR
 have hsp:∀p∈QJ row " ",Tx p:=fun p hp=>⟨Eo tr.1 hp,P6 (HH hp) tr.2⟩
 have hlen:(QJ row " ").length<=1001:=by have h1:=split_len row;have h2:=tr.2;omega
 have hsz:=size_eq
 have lkc:([("chest",V.ref c)]:List (PH×V)).lookup ("chest":PH)=some (.ref c):=by simp[Ri]
 walk_at "q"
 walk_at "z"
 refine⟨rfl,row,rfl,tr.1,P6 tr.2 (by decide),fun hne l fl=>?_,fun hin H1 s1=>?_⟩
 rotate_left
 ·unfold dg at q
  rw[if_pos hin]at q
  exact q H1 s1
 unfold dg at q
 rw[if_neg hne]at q
 have s1:av H (upd H l (.lst ((QJ row " ").map V.str))):=av.updN fl
 have hl:(upd H l (.lst ((QJ row " ").map V.str))) l=some (.lst ((QJ row " ").map V.str)):=ax
 generalize upd H l (.lst ((QJ row " ").map V.str))=H1 at *
 generalize QJ row " "=ws at *
 have hml:(ws.map V.str).length=ws.length:=P7 _
 have go:=fun A=>DQ (A:=A) (Q:=Q) (E:=E) (s:=s) hd dn s1 (CH.there)
 have CH1:=CH.same s1
 have hd1:=s1 _ _ hd
 walk_at "z"
 walk_at "q"
 walk_at "z"
 rw[hml]
 refine dJ (fun h=>?_) (fun h=>?_)
 ·obtain⟨w,rfl⟩:∃w,ws=[w]:=List.length_eq_one_iff.mp (by exact_mod_cast h)
  walk_at "z"
  refine bW hd1 C.zO C.hJ lkc ?_
  walk_at "z"
  refine cA (aY.of hl) (bM (j:=0) rfl) ?_
  walk_at "z"
  exact⟨rfl,c,w,fpc,s,rfl,CH1,G,hsp w (by simp),go _ q⟩
 walk_at "z"
 walk_at "q"
 walk_at "z"
 rw[hml]
 refine dJ (fun h2=>?_) (fun h2=>?_)
 ·obtain⟨w,a,rfl⟩:∃w a,ws=[w,a]:=by
   have e:ws.length=2:=by exact_mod_cast h2
   match ws,e with
   |[w,a],_=>exact⟨w,a,rfl⟩
  walk_at "z"
  refine bW hd1 C.zO C.hJ lkc ?_
  walk_at "z"
  refine cA (aY.of hl) (bM (j:=0) rfl) ?_
  walk_at "z"
  refine cA (aY.of hl) (bM (j:=1) rfl) ?_
  walk_at "z"
  exact⟨rfl,c,w,a,fpc,s,rfl,CH1,G,hsp w (by simp),hsp a (by simp),go _ q⟩
 walk_at "z"
 walk_at "q"
 walk_at "z"
 rw[hml]
 refine dJ (fun h3=>?_) (fun h3=>?_)
 ·obtain⟨w,a,b,rfl⟩:∃w a b,ws=[w,a,b]:=by
   have e:ws.length=3:=by exact_mod_cast h3
   match ws,e with
   |[w,a,b],_=>exact⟨w,a,b,rfl⟩
  walk_at "z"
  refine bW hd1 C.zO C.hJ lkc ?_
  walk_at "z"
  refine cA (aY.of hl) (bM (j:=0) rfl) ?_
  walk_at "z"
  refine cA (aY.of hl) (bM (j:=1) rfl) ?_
  walk_at "z"
  refine cA (aY.of hl) (bM (j:=2) rfl) ?_
  walk_at "z"
  exact⟨rfl,c,w,a,b,fpc,s,rfl,CH1,G,hsp w (by simp),hsp a (by simp),hsp b (by simp),go _ q⟩
 walk_at "z"
 have qn:cz K H E "NoRow":=by
  match ws,q,h,h2,h3 with
  |[],q,_,_,_=>exact q
  |[_],_,h,_,_=>exact absurd rfl h
  |[_,_],_,_,h2,_=>exact absurd rfl h2
  |[_,_,_],_,_,_,h3=>exact absurd rfl h3
  |_::_::_::_::_,q,_,_,_=>exact q
 obtain⟨f1,f2,f3⟩:=wI tr (a:="too many words: ") (n:=16) (by decide +kernel) (by decide)
 exact⟨_,rfl,f1,_,rfl,row,rfl,f2,_,rfl,f3,f3,(by decide:1<=PZ),qn _ s1⟩
structure PB(K:PM)(cl:PH):Prop where
 i:(Ro K (ao K cl)).isSome=true
 ek:mO K (ao K cl)
 m:RP K (.ref (ao K cl)) (.ref (ao K "PurseError"))=some true
 t:Qa K (.ref (ao K cl)) (.type "ValueError")=some true
 q1:Qa K (.ref (ao K cl)) (.ref (ao K "NoRow"))=some (decide (cl="NoRow"))
 q2:Qa K (.ref (ao K cl)) (.ref (ao K "NoVoter"))=some (decide (cl="NoVoter"))
 q3:Qa K (.ref (ao K cl)) (.ref (ao K "NoName"))=some (decide (cl="NoName"))
 q4:Qa K (.ref (ao K cl)) (.ref (ao K "Twice"))=some (decide (cl="Twice"))
 q5:Qa K (.ref (ao K cl)) (.ref (ao K "NoWork"))=some (decide (cl="NoWork"))
 q6:Qa K (.ref (ao K cl)) (.ref (ao K "TooMuch"))=some (decide (cl="TooMuch"))
 q7:Qa K (.ref (ao K cl)) (.ref (ao K "Full"))=some (decide (cl="Full"))
 q8:Qa K (.ref (ao K cl)) (.ref (ao K "NoPaper"))=some false
theorem nq{o:Option Bool}{b c:Bool}(h:o=some b)(e:b=c:=by decide +kernel):o=some c:=e▸h
theorem gT.fact(F:gT K){cl:PH}(h:cl="NoName"\/cl="Twice"\/cl="NoVoter"\/cl="NoWork"\/cl="TooMuch"\/cl="Full"\/cl="NoRow"):PB K cl:=by
 rcases h with rfl|rfl|rfl|rfl|rfl|rfl|rfl
 ·exact⟨F.IM,F.GQ,F.oB,F.oj,nq F.xE,nq F.rR,nq F.uB,nq F.xq,nq F.uy,nq F.r8,nq F.yc,F.rZ⟩
 ·exact⟨F.KN,F.JM,F.pV,F.qf,nq F.xY,nq F.uc,nq F.xp,nq F.yk,nq F.wD,nq F.uG,nq F.Bo,F.uJ⟩
 ·exact⟨F.GA,F.Ej,F.nF,F.nk,nq F.uu,nq F.qB,nq F.sk,nq F.uH,nq F.se,nq F.qZ,nq F.xm,F.qL⟩
 ·exact⟨F.Ih,F.Gx,F.ou,F.ot,nq F.wF,nq F.sm,nq F.uv,nq F.wR,nq F.uL,nq F.sF,nq F.xV,F.sS⟩
 ·exact⟨F.Gm,F.Es,F.mX,F.nM,nq F.uD,nq F.ra,nq F.sV,nq F.ub,nq F.rQ,nq F.qN,nq F.vz,F.rn⟩
 ·exact⟨F.NB,F.Lx,F.rq,F.qt,nq F.Ag,nq F.vQ,nq F.yx,nq F.AY,nq F.xZ,nq F.vy,nq F.Cr,F.u6⟩
 ·exact⟨F.KR,F.JI,F.pW,F.pG,nq F.yo,nq F.uR,nq F.vV,nq F.yC,nq F.xr,nq F.uC,nq F.zP,F.uk⟩
theorem Bj(F:gT K):∀vs H Q E,cP K vs H Q E->kg K {nx:=fun _ H'=>Q .non H',rt:=Q} (start ["desk","row","caught","answer","e","kinds"] vs) H:=by
 rintro vs H Q E ⟨_,d,row,fp,s,rfl,DA,G,tr,q⟩
 unfold kg
 walk_at "q"
 walk_at "z"
 walk_at "q"
 walk_at "z"
 walk_at "q"
 obtain⟨dx,c,fpc,hd,ch,nd,efp⟩:=id DA
 show cD (ao K "Desk") "say" (jq K) [] _ _ _ _ _ _
 walk_at "z"
 refine cC hd (by rw[Ri,show(("say":PH)=="chest")=false by decide +kernel];rfl) ?_
 walk_at "z"
 refine⟨rfl,d,row,fp,s,rfl,DA,G,tr,HC (fun H' s'=>DA.same s') (fun H1 fp1 t a b w e=>?_) fun cl e H1 s1=>?_⟩
 ·with_reducible refine Fx ?_
  walk_at "z"
  refine IU rfl ?_
  walk_at "z"
  exact q _ H1 fp1 a b w (by rw[e];rfl) fun l e=>nomatch e
 have C:=F.fact (LG e)
 have hnx:md s (dg s row)=s:=by
  cases ea:dg s row with
  |deed D=>
   rw[ea]at e
   simp only[jH,md]at e ⊢
   cases hd:D.due s with
   |none=>rw[hd]at e;cases e
   |some _=>rfl
  |close=>rw[ea]at e;cases e
  |tell t=>rfl
  |no c=>rfl
 rw[hnx,e]at q
 refine⟨C.m,fun x oe he h1 h2 h3=>?_⟩
 have sx:av H1 (upd H1 x (.frz oe (.own x))):=av.updN he
 have hx:ExcAt (upd H1 x (.frz oe (.own x))) x (ao K cl):=⟨oe,ax,h1,h2,h3⟩
 generalize upd H1 x (.frz oe (.own x))=H2 at *
 have st:∀{H':Hp},av H2 H'->ExcAt H' x (ao K cl):=fun s'=>by
  obtain⟨o,x1,x2⟩:=hx
  exact⟨o,s' _ _ x1,x2⟩
 walk_at "z"
 walk_at "q"
 walk_at "z"
 refine FV (by intro z;cases z) ?_
 walk_at "z"
 walk_at "q"
 walk_at "z"
 exists x,_,ao K cl,_,rfl,rfl,hx,C.i,C.ek,C.q1
 walk_at "z"
 exists x,_,ao K cl,_,rfl,rfl,hx,C.i,C.ek,C.q2
 walk_at "z"
 exists x,_,ao K cl,_,rfl,rfl,hx,C.i,C.ek,C.t
 walk_at "z"
 rename_i l3 H3 f3 s3 h3'
 have hx3:=st s3
 walk_at "q"
 walk_at "z"
 exists x,_,ao K cl,_,rfl,rfl,hx3,C.i,C.ek,C.q3
 walk_at "z"
 exists x,_,ao K cl,_,rfl,rfl,hx3,C.i,C.ek,C.q4
 walk_at "z"
 exists x,_,ao K cl,_,rfl,rfl,hx3,C.i,C.ek,C.q5
 walk_at "z"
 rename_i l4 H4 f4 s4 h4
 refine cZ (s4 _ _ h3') h4 (show 3+3<=PZ by decide) fun l5 H5 f5 s5 h5=>?_
 have s35:=s4.trans s5
 have hx5:=st (s3.trans s35)
 walk_at "z"
 exists x,_,ao K cl,_,rfl,rfl,hx5,C.i,C.ek,C.q6
 walk_at "z"
 exists x,_,ao K cl,_,rfl,rfl,hx5,C.i,C.ek,C.q7
 walk_at "z"
 exists x,_,ao K cl,_,rfl,rfl,hx5,C.i,C.ek,C.q8
 walk_at "z"
 rename_i l6 H6 f6 s6 h6
 refine cZ (s6 _ _ h5) h6 (show 6+3<=PZ by decide) fun l7 H7 f7 s7 h7=>?_
 have sa:=s1.trans (sx.trans ((s3.trans (s35.trans s6)).trans s7))
 have f0:=s1.free (sx.free ((s3.trans (s35.trans s6)).free f7))
 exact q _ H7 fp (DA.same sa) (bZ.of sa) ji.refl ⟨l7,rfl,f0,by rw[h7];rfl⟩ fun l e hl=>DA.there l hl (by cases e;exact f0)
theorem LF:∀z∈J8,Tx z:=by
 unfold Tx aV
 decide +kernel
theorem Lr{ns:List PH}(h:∀z∈ns,Wd z):∀r∈o8 ns,Tx r:=fun r hr=>by
 rcases QC.mp hr with hr|hr
 ·obtain⟨z,hz,rfl⟩:=P9.mp hr
  rw[Lj (w:="purse") (by decide +kernel)]
  exact rj (by simp) (by simp[kc,h z hz])
 ·exact LF r hr
theorem Af:∀vs H Q E,gY K vs H Q E->kx K {nx:=fun _ H'=>Q .non H',rt:=Q} (start ["desk","names","rows"] vs) H:=by
 rintro vs H Q E ⟨_,d,b,fp,s,n,ns,rfl,DA,G,hn,hb,nb,hl,wn,q⟩
 unfold kx
 have qb:aY K H b (ns.map V.str):=aY.of hb
 have hlm:(ns.map V.str).length=19:=by simp[hl]
 have tx:=Lr wn
 walk_at "q"
 walk_at "z"
 refine bD (dE (K:=K) (xs:=ns.map V.str) 0) (fun j=>[some ((ns.map V.str).getD j .non)]) (by rintro j σ' (rfl|⟨k,rfl⟩)<;>rfl) (fun H' s=>s.seq qb) (by rw[hlm];exact P6 (show 19<=1000 by decide) bo) (fun j=>.str (("purse ":PH)++ns.getD j "")) ?_ ?_
 ·intro j hj H' F s kk
  have hj:j<ns.length:=by simpa using hj
  have et:(ns.map V.str).getD j .non=.str (ns.getD j ""):=by simp[Qm,hj]
  have:=(wn _ (getD_mem (xs:=ns) "" hj)).1
  have:=show("purse ":PH).length=6 by decide +kernel
  rw[et]
  walk_at "z"
  exact kk H' (av.refl _)
 intro l1 H1 f1 s1 h1
 rw[P7,show(P4 ns.length).map (fun j=>V.str (("purse ":PH)++ns.getD j ""))=(ns.map fun z=>("purse ":PH)++z).map V.str by rw[bw (fun z=>V.str (("purse ":PH)++z)) "" ns,Qn];rfl]at h1
 walk_at "z"
 rename_i l2 H2 f2 s2 h2
 refine cZ (s2 _ _ h1) h2 (by rw[P7,P7,hl];decide) fun l3 H3 f3 s3 h3=>?_
 have h3:H3 l3=some (.lst ((o8 ns).map V.str)):=by rw[h3];unfold o8;rw[Rj];rfl
 have s03:=s1.trans (s2.trans s3)
 have hrl:(o8 ns).length=27:=by unfold o8;rw[QV,P7,hl];rfl
 have D3:=DA.same s03
 have n3:l3∉fp:=fun z=>DA.there _ z (s1.free (s2.free f3))
 generalize o8 ns=R at *
 have hRm:(R.map V.str).length=27:=by simp[hrl]
 clear h1 h2
 walk_at "z"
 let J:PK->Nat->List V->Hp->Prop:=fun l i ys A=>∃fp',bZ fp H A/\ji fp fp' H/\cF K A d fp' (gA s (R.take i))/\l∉fp'/\A l3=some (.lst (R.map V.str))/\l3∉fp'/\l3≠l/\Qd (fun a v=>gy qj H A v a/\∀l',v=.ref l'->l'∉fp'/\l'≠l) (rA s (R.take i)) ys
 have Js:∀{l i ys A B},J l i ys A->av A B->J l i ys B:=fun {l i ys A B} ⟨fp',b,w,D,nl,e3,nl3,ne,P⟩ sA=>⟨fp',b.trans (bZ.of sA),w,D.same sA,nl,sA _ _ e3,nl3,ne,Paired.mapP P fun a v z=>⟨z.1.but (fp:=[]) (bZ.of sA) (fun _ _=>by simp),z.2⟩⟩
 refine Gw (dE (K:=K) (a:=l3) (xs:=R.map V.str) 0) (fun j=>[some ((R.map V.str).getD j .non),some (.ref d)]) (by rintro j σ' (rfl|⟨k,rfl⟩)<;>rfl) (by rw[hRm];exact P6 (show 27<=1000 by decide) bo) (fun l i ys H'=>J l i ys (upd H' l (.lst ys))) ?_ ?_ ?_ ?_ ?_
 ·rintro l i ys H' ⟨fp',b,w,D,nl,e3,nl3,ne,P⟩
  rw[ak ne]at e3
  exact aY.of e3
 ·intro l H' fl s'
  have sA:av H3 (upd H' l (.lst [])):=s'.upd fl
  have f0:=s03.free fl
  exact⟨fp,bZ.of (s03.trans sA),ji.refl,D3.same sA,fun z=>DA.there _ z f0,sA _ _ h3,n3,(fun e=>by rw[<-e,h3]at fl;cases fl),.nil⟩
 ·exact fun l i ys H1 H2 sx z=>Js z (Dw sx)
 ·intro l i ys hi H' F fl e0 z kk
  have hi:i<R.length:=by simpa using hi
  rw[Bv e0]at z
  obtain⟨fp',b,w,D,nl,e3,nl3,ne,P⟩:=z
  have et:(R.map V.str).getD i .non=.str (R.getD i ""):=by simp[Qm,hi]
  rw[et]
  have GL:lX (gA s (R.take i)):=(G.look (rs:=R.take i) (by rw[QY];omega)).d
  walk_at "z"
  refine⟨rfl,d,R.getD i "",fp',_,rfl,D,GL,tx _ (getD_mem (xs:=R) "" hi),fun v H'' fp'' D' b' w' an nv=>?_⟩
  have e1:H'' l=some (.lst ys):=b'.1 _ _ nl e0
  refine kk v H'' ?_ e1
  have bu:bZ [l] H'' (upd H'' l (.lst (ys++[v]))):=bZ.upd e1 (fun _=>by intro z;cases z) (by simp)
  have nl':l∉fp'':=fun z=>by
   rcases w' l z with h|h
   ·exact nl h
   ·rw[e0]at h;cases h
  have nl3':l3∉fp'':=fun z=>by
   rcases w' l3 z with h|h
   ·exact nl3 h
   ·rw[e3]at h;cases h
  obtain⟨k1,k2⟩:=zy s (R.take i) (R.getD i "")
  have w'':ji fp fp'' H:=fun a ha=>by
   rcases w' a ha with h|h
   ·exact w a h
   ·exact .inr (b.2.2 a h)
  exists fp'',?_,w'',?_,nl',?_,nl3',ne
  ·have f0:=s03.free fl
   refine⟨fun a o na ha=>?_,fun a xs ha=>?_,fun a ha=>?_⟩
   ·have e:a≠l:=fun e=>by rw[e,f0]at ha;cases ha
    have h1:=b.1 a o na ha
    rw[ak e]
    refine b'.1 a o (fun z=>?_) h1
    rcases w a z with h|h
    ·exact na h
    ·rw[ha]at h;cases h
   ·have e:a≠l:=fun e=>by rw[e,f0]at ha;cases ha
    rw[ak e]
    exact b'.2.1 a xs (b.2.1 a xs ha)
   ·by_cases e:a=l
    ·rw[e,ax]at ha;cases ha
    ·rw[ak e]at ha
     exact b.2.2 a (b'.2.2 a ha)
  ·rw[zF hi,k2]
   exact D'.but bu fun a ha=>by
    have:a≠l:=fun e=>nl' (e▸ha)
    simpa using this
  ·rw[ak ne]
   exact b'.1 _ _ nl3 e3
  ·rw[zF hi,k1]
   have hb2:gy qj H H'' v (jH (gA s (R.take i)) (dg (gA s (R.take i)) (R.getD i ""))):=by
    revert an
    cases jH (gA s (R.take i)) (dg (gA s (R.take i)) (R.getD i ""))with
    |txt t=>exact fun z=>z
    |kin cl=>rintro⟨l2,e2,f2,e3⟩;exact⟨l2,e2,b.2.2 _ f2,e3⟩
   have hq:∀l',v=.ref l'->l'≠l:=fun l' e z=>by
    subst z
    revert an
    cases jH (gA s (R.take i)) (dg (gA s (R.take i)) (R.getD i ""))with
    |txt t=>intro z1;rw[z1]at e;cases e
    |kin cl=>rintro⟨l2,e2,f2,_⟩;rw[e2]at e;cases e;rw[e0]at f2;cases f2
   refine jl (Paired.mapP P fun a u z=>⟨gy.but bu (fun l' e=>by have:=(z.2 l' e).2;simpa using this) (z.1.but b' fun l' e=>(z.2 l' e).1),fun l' e=>⟨fun m=>?_,(z.2 l' e).2⟩⟩) ⟨gy.but bu (fun l' e=>?_) ?_,fun l' e=>⟨nv l' e,?_⟩⟩
   ·rcases w' l' m with h|h
    ·exact(z.2 l' e).1 h
    ·obtain⟨z1,_⟩:=z
     revert z1
     cases a with
     |txt t=>intro z1;rw[z1]at e;cases e
     |kin cl=>rintro⟨l2,e2,_,e3⟩;rw[e2]at e;cases e;rw[e3]at h;cases h
   ·have:=hq l' e
    simpa using this
   ·exact hb2
   ·exact hq l' e
 ·intro l ys H' fl e0 z
  rw[Bv e0]at z
  obtain⟨fp',b,w,D,nl,e3,nl3,ne,P⟩:=z
  rw[hRm,<-hrl,UM]at D P
  exact q l H' fp' ys b w D (s03.free fl) nl e0 (Paired.mapP P fun a v z=>⟨z.1,fun l' e=>(z.2 l' e).1⟩)
theorem pj:∀vs H Q E,dI K vs H Q E->eS K {nx:=fun _ H'=>Q .non H',rt:=Q} (start ["xs","names","name","other","good"] vs) H:=by
 rintro vs H Q E ⟨_,a,b,xs,ns,rfl,qa,qb,hx,hn,q⟩
 unfold eS
 have hl:0<((ns.map V.str).length:Int):=by rw[P7,hn];decide
 obtain⟨x0,e0⟩:=nC (xs:=xs) (k:=0) (by omega)
 obtain⟨x1,e1⟩:=nC (xs:=xs) (k:=1) (by omega)
 obtain⟨x2,e2⟩:=nC (xs:=xs) (k:=2) (by omega)
 obtain⟨n,mn,en⟩:=vq (K:=K) hn x1
 obtain⟨o,mo,eo⟩:=vq (K:=K) hn x2
 walk_at "q"
 walk_at "z"
 refine cA qa e1 ?_
 walk_at "z"
 refine cA qb en ?_
 walk_at "z"
 walk_at "q"
 walk_at "z"
 refine cA qa e2 ?_
 walk_at "z"
 refine cA qb eo ?_
 walk_at "z"
 walk_at "q"
 walk_at "z"
 rename_i p1 K1 f1 s1 h1 p2 K2 f2 s2 h2 p3 K3 f3 s3 h3 p4 K4 f4 s4 h4 p5 K5 f5 s5 h5 p6 K6 f6 s6 h6 p7 K7 f7 s7 h7
 have P:PG H H [] []:=⟨av.refl H,.nil⟩
 have P:=((((((P.snoc f1 s1 (g:=["enrol",n]) h1).snoc f2 s2 (g:=["leave",n]) h2).snoc f3 s3 (g:=["give","5"]) h3).snoc f4 s4 (g:=["propose",n,"7"]) h4).snoc f5 s5 (g:=["withdraw",n]) h5).snoc f6 s6 (g:=["close"]) h6)
 have P:=P.same s7
 clear h1 h2 h3 h4 h5 h6
 walk_at "q"
 walk_at "z"
 rename_i p8 K8 f8 s8 h8 p9 K9 f9 s9 h9 p10 K10 f10 s10 h10 p11 K11 f11 s11 h11 p12 K12 f12 s12 h12 p13 K13 f13 s13 h13 p14 K14 f14 s14 h14
 have P:=((((((P.snoc f8 s8 (g:=["want",n,o]) h8).snoc f9 s9 (g:=["unwant",n,o]) h9).snoc f10 s10 (g:=["purse",n]) h10).snoc f11 s11 (g:=["pot"]) h11).snoc f12 s12 (g:=["works"]) h12).snoc f13 s13 (g:=["spent"]) h13)
 have P:=P.same s14
 have h7:=(s8.trans (s9.trans (s10.trans (s11.trans (s12.trans (s13.trans s14)))))) _ _ h7
 clear h8 h9 h10 h11 h12 h13
 refine cZ h7 h14 (show 6+6<=PZ by decide) fun p15 K15 f15 s15 h15=>?_
 have P:=P.same s15
 have qa':=P.1.seq qa
 walk_at "z"
 rename_i p16 K16 f16 s16 h16 p17 K17 f17 s17 h17
 have P:=(P.snoc f16 s16 (g:=["given"]) h16).same s17
 refine cZ ((s16.trans s17) _ _ h15) h17 (show 12+1<=PZ by decide) fun p18 K18 f18 s18 h18=>?_
 have P:=P.same s18
 walk_at "z"
 refine cA (P.1.seq qa) e0 ?_
 walk_at "z"
 obtain⟨l,g,mg,fl,el,ei⟩:=CO (n:=13) x0 P.2 rfl (by decide)
 refine cA (aY.of h18) ei ?_
 walk_at "z"
 exact q l g n o _ mn mo mg fl P.1 el
theorem pR:∀vs H Q E,eR K vs H Q E->eM K {nx:=fun _ H'=>Q .non H',rt:=Q} (start ["word","x","words","at","some","found"] vs) H:=by
 rintro vs H Q E ⟨_,w,x,rfl,hw,q⟩
 have wl:=Ap w hw
 unfold eM
 walk_at "q"
 walk_at "z"
 rename_i l1 H1 f1 s1 h1
 walk_at "q"
 walk_at "z"
 rename_i l2 H2 f2 s2 h2
 refine cZ (s2 _ _ h1) h2 (by decide) fun l3 H3 f3 s3 h3=>?_
 have h3:H3 l3=some (.lst (WA.map V.str)):=h3
 have s03:=s1.trans (s2.trans s3)
 clear h1 h2
 walk_at "z"
 walk_at "q"
 walk_at "z"
 obtain⟨a,ea,ha⟩:∃a:Nat,x/5%(w.length:Int)=(a:Int)/\a<w.length:=⟨(x/5%(w.length:Int)).toNat,by have:=Su (x/5) (b:=(w.length:Int)) (by omega);omega,by have:=Tu (x/5) (b:=(w.length:Int)) (by omega);have:=Su (x/5) (b:=(w.length:Int)) (by omega);omega⟩
 rw[ea]
 have hA:=rJ (z:=w) (b:=a) (by omega)
 have hB:=kA (z:=w) (a:=a+1) (by omega)
 have hC:=kA (z:=w) (a:=a) (by omega)
 rw[Uu]at hB
 have hat:xW w.cps.toList (a:Int)=some (w.cps.toList.getD a 0):=FR (by omega) (by rw[aP];omega)
 have hlet:isLet (w.cps.toList.getD a 0)=true:=Jr w hw _ (by
  rw[QG,Qj (by rw[aP];omega)]
  exact RA _)
 generalize hc:w.cps.toList.getD a 0=c at *
 obtain⟨w1,w2⟩:=LO hw ha hA hB hC (.inl rfl) hlet
 obtain⟨_,w3⟩:=LO hw ha hA hB hC (.inr rfl) hlet
 have lA:(QK w none (some (a:Int))).length<=8:=by rw[<-aP,hA,QY,aP];omega
 have lB:(QK w (some ((a:Int)+((1:Nat):Int))) none).length<=8:=by rw[<-aP,hB,Rq,aP];omega
 have lC:(QK w (some (a:Int)) none).length<=8:=by rw[<-aP,hC,Rq,aP];omega
 have h1:∀d∈(⟨#[c]⟩:PH).cps.toList,isLet d=true:=fun d hd=>by
  have:d=c:=by simpa using hd
  rw[this];exact hlet
 have lU:=Ai h1
 have l1:(⟨#[c]⟩:PH).length=1:=rfl
 have e1:(((1:Nat):Int))=1:=rfl
 rw[e1]at w1 w2 w3 lB
 walk_at "q"
 walk_at "z"
 exists w,_,c,rfl,rfl,by rw[size_eq];omega,hat
 walk_at "z"
 refine iW (by rw[Qx];omega) ?_
 walk_at "z"
 exists w,_,c,rfl,rfl,by rw[size_eq];omega,hat
 walk_at "z"
 refine E1 h1 (by omega) ?_
 walk_at "z"
 refine iW (by rw[Qx];omega) ?_
 walk_at "z"
 rename_i l4 H4 f4 s4 h4
 walk_at "q"
 walk_at "z"
 rename_i l5 H5 f5 s5 h5
 obtain⟨z6,m6,e6⟩:=mr (zs:=Pt) (x:=x/5) (n:=6) rfl (by decide)
 refine cA (aY.of h5) e6 ?_
 walk_at "z"
 refine Ji ?_
 have lT:=(nZ (x/5)).2
 walk_at "z"
 rename_i l6 H6 f6 s6 h6
 refine cZ (s6 _ _ (s5 _ _ h4)) h6 (show 3+2<=PZ by decide) fun l7 H7 f7 s7 h7=>?_
 have sA:=s03.trans (s4.trans (s5.trans (s6.trans s7)))
 have qW:aY K H7 l3 (WA.map V.str):=aY.of ((s4.trans (s5.trans (s6.trans s7))) _ _ h3)
 obtain⟨z,mz,ez⟩:=mr (zs:=[QK w none (some (a:Int))++QK w (some ((a:Int)+1)) none,QK w none (some (a:Int))++⟨#[c]⟩++QK w (some (a:Int)) none,QK w none (some (a:Int))++Fi ⟨#[c]⟩++QK w (some ((a:Int)+1)) none,z6,w++uS (x/5)]) (x:=x) (n:=5) rfl (by decide)
 have hz:Wd z:=by
  simp only[Qb,Rb,or_false]at mz
  rcases mz with rfl|rfl|rfl|rfl|rfl
  ·exact w1
  ·exact w2 _ (.inr rfl)
  ·exact w3 _ (.inl rfl)
  ·exact MK _ m6
  ·exact iE (hZ.1 w hw) (nZ _).1 (by omega)
 walk_at "z"
 walk_at "q"
 walk_at "z"
 refine cA (aY.of h7) ez ?_
 walk_at "z"
 walk_at "q"
 walk_at "z"
 refine MJ qW ?_
 walk_at "z"
 refine dJ (fun _=>?_) fun hn=>?_
 ·walk_at "z"
  exact q _ _ (by decide +kernel) hZ.2.2.2.1 sA
 ·walk_at "z"
  exact q _ _ hn hz sA
theorem wo:∀vs H Q E,fO K vs H Q E->iw K {nx:=fun _ H'=>Q .non H',rt:=Q} (start ["x","some"] vs) H:=by
 rintro vs H Q E ⟨_,x,rfl,q⟩
 unfold iw
 walk_at "q"
 walk_at "z"
 refine⟨"0",13,rfl,rfl,by decide,by decide,by decide +kernel,?_⟩
 refine iW (by decide +kernel) ?_
 walk_at "z"
 rename_i l H1 f1 s1 h1
 walk_at "z"
 obtain⟨z,hz,e⟩:=mr (zs:=L7) (x:=x) (n:=15) rfl (by decide)
 refine cA (aY.of h1) e ?_
 exact q z _ (zK z hz).1 (zK z hz).2 s1
theorem By:∀vs H Q E,nS K vs H Q E->nL K {nx:=fun _ H'=>Q .non H',rt:=Q} (start ["xs","names","name","words","way"] vs) H:=by
 rintro vs H Q E ⟨_,a,b,xs,ns,rfl,qa,qb,hx,hn,wn,q⟩
 unfold nL
 have hl:0<((ns.map V.str).length:Int):=by rw[P7,hn];decide
 obtain⟨x1,e1⟩:=nC (xs:=xs) (k:=1) (by omega)
 obtain⟨x3,e3⟩:=nC (xs:=xs) (k:=3) (by omega)
 obtain⟨x4,e4⟩:=nC (xs:=xs) (k:=4) (by omega)
 obtain⟨x5,e5⟩:=nC (xs:=xs) (k:=5) (by omega)
 obtain⟨m,mm,em⟩:=vq (K:=K) hn x1
 have wm:=wn m mm
 obtain⟨wa,w5,w7,wr,w0,_⟩:=hZ
 walk_at "q"
 walk_at "z"
 refine cA qa e1 ?_
 walk_at "z"
 refine cA qb em ?_
 walk_at "z"
 walk_at "q"
 walk_at "z"
 refine⟨rfl,a,b,xs,ns,rfl,qa,qb,hx,hn,fun l g n o H1 mn mo mg f1 s1 h1=>?_⟩
 have qa1:=s1.seq qa
 have gw:=BI (wn n mn) (wn o mo) mg
 have hsz:1<=g.length/\g.length<=3:=by obtain⟨w,r,rfl,_,_,hr⟩:=n9 mg;simp;omega
 walk_at "z"
 walk_at "q"
 walk_at "z"
 refine cA qa1 e3 ?_
 walk_at "z"
 walk_at "q"
 walk_at "z"
 refine dJ (fun _=>?_) fun _=>?_
 ·walk_at "z"
  rename_i l2 H2 f2 s2 h2
  refine cA (s2.seq qa1) e4 ?_
  walk_at "z"
  obtain⟨e,me,ee⟩:=mr (zs:=[m,"7","close"]) (x:=x4) (n:=3) rfl (by decide)
  have we:Wd e:=by
   simp only[Qb,Rb,or_false]at me
   rcases me with rfl|rfl|rfl
   ·exact wm
   ·exact w7
   ·exact wa _ (by decide +kernel)
  refine cA (aY.of h2) ee ?_
  walk_at "z"
  rename_i l3 H3 f3 s3 h3
  refine cZ ((s2.trans s3) _ _ h1) h3 (by rw[P7,size_eq];simp;omega) fun l4 H4 f4 s4 h4=>?_
  exact q l4 (g++[e]) H4 (Jf (wn n mn) (wn o mo) we mg) (by simp;omega) (fun w hw=>by
   rcases QC.mp hw with hw|hw
   ·exact gw w hw
   ·rw[QR.mp hw];exact we) (s1.free (s2.free (s3.free f4))) (s1.trans (s2.trans (s3.trans s4))) (by rw[h4];simp)
 walk_at "z"
 walk_at "q"
 walk_at "z"
 refine dJ (fun _=>?_) fun _=>?_
 ·walk_at "z"
  refine cA qa1 e4 ?_
  walk_at "z"
  obtain⟨j,ej,hj⟩:∃j:Nat,x4%((g.map V.str).length:Int)=(j:Int)/\j<g.length:=by
   rw[P7]
   have:=Su x4 (b:=(g.length:Int)) (by omega)
   have:=Tu x4 (b:=(g.length:Int)) (by omega)
   exact⟨(x4%(g.length:Int)).toNat,by omega,by omega⟩
  refine LQ (by rw[P7];omega) ?_
  rw[ej]
  walk_at "z"
  rename_i l2 H2 f2 s2 h2
  rw[Jb,<-UX]at h2
  exact q l2 (g.take j) H2 (HG (wn n mn) (wn o mo) mg hj) (by rw[QY];omega) (fun w hw=>gw w (SD hw)) (s1.free f2) (s1.trans s2) h2
 walk_at "z"
 walk_at "q"
 walk_at "z"
 refine dJ (fun _=>?_) fun _=>?_
 ·walk_at "z"
  refine cA qa1 e4 ?_
  walk_at "z"
  refine⟨rfl,x4,rfl,fun z1 H2 b1 wz1 s2=>?_⟩
  walk_at "z"
  rename_i l3 H3 f3 s3 h3
  refine cA ((s2.trans s3).seq qa1) e4 ?_
  walk_at "z"
  refine⟨rfl,x4,rfl,fun z2 H4 b2 wz2 s4=>?_⟩
  walk_at "z"
  rename_i l5 H5 f5 s5 h5 l6 H6 f6 s6 h6
  have P:PG H H2 [] []:=⟨s1.trans s2,.nil⟩
  have P:=((P.snoc f3 s3 (g:=["give",z1]) h3).same s4).snoc f5 s5 (g:=["propose",m,z2]) h5
  have P:=P.same s6
  refine cA (((s2.trans s3).trans (s4.trans (s5.trans s6))).seq qa1) e5 ?_
  walk_at "z"
  obtain⟨l7,g7,m7,fl,el,ei⟩:=CO (n:=2) x5 P.2 rfl (by decide)
  refine cA (aY.of h6) ei ?_
  have hb1:=E9 wm wz1 b1
  have hb2:=E9 wm wz2 b2
  have m7:g7=(["give",z1]:List PH)\/g7=(["propose",m,z2]:List PH):=by simpa using m7
  rcases m7 with rfl|rfl
  ·exact q l7 _ _ hb1.1 (by simp) (fun w hw=>by
    rcases Qb.mp hw with rfl|hw
    ·exact wa _ (by decide +kernel)
    ·rw[QR.mp hw];exact wz1) fl P.1 el
  ·exact q l7 _ _ hb2.2 (by simp) (fun w hw=>by
    rcases Qb.mp hw with rfl|hw
    ·exact wa _ (by decide +kernel)
    ·rcases Qb.mp hw with rfl|hw
     ·exact wm
     ·rw[QR.mp hw];exact wz2) fl P.1 el
 obtain⟨w,r,eg,hw,hr,hrl⟩:=n9 mg
 subst eg
 have wr2:∀y∈r,Wd y:=fun y hy=>gw y (Qs _ hy)
 have wl:=Ap w hw
 have ww:=wa w hw
 have q1:aY K H1 l ((w::r).map V.str):=aY.of h1
 have ew:xW ((w::r).map V.str) 0=some (.str w):=bM (j:=0) rfl
 have cf:iU ((w::r).map V.str) (some 1) none=r.map V.str:=Im ((w::r).map V.str) 1
 have ct:iU ((w::r).map V.str) none (some 1)=([w]:List PH).map V.str:=(Jb ((w::r).map V.str) 1).trans (by simp)
 have fin:∀(l':PK)(z:PH)(H':Hp),gk (z::r)->Wd z->H1 l'=none->av H1 H'->H' l'=some (.lst ((z::r).map V.str))->Q (.ref l') H':=fun l' z H' nr wz fl sl hl=>q l' _ H' nr (by simp;omega) (fun y hy=>by
  rcases Qb.mp hy with rfl|hy
  ·exact wz
  ·exact wr2 y hy) (s1.free fl) (s1.trans sl) hl
 have fin0:∀(l':PK)(ws:List PH)(H':Hp),("":PH)∈ws->(∀y∈ws,y=""\/y∈w::r)->ws.length<=5->H1 l'=none->av H1 H'->H' l'=some (.lst (ws.map V.str))->Q (.ref l') H':=fun l' ws H' m0 hy hl fl sl hl'=>by
  have f:∀y∈ws,Wd y:=fun y hm=>by
   rcases hy y hm with rfl|h
   ·exact w0
   ·exact gw y h
  exact q l' ws H' (Cp f m0) hl f (s1.free fl) (s1.trans sl) hl'
 walk_at "z"
 walk_at "q"
 walk_at "z"
 refine dJ (fun _=>?_) fun _=>?_
 ·walk_at "z"
  refine cA q1 ew ?_
  walk_at "z"
  refine cA qa1 e4 ?_
  walk_at "z"
  refine⟨rfl,w,x4,rfl,hw,fun z H2 nz wz s2=>?_⟩
  walk_at "z"
  rename_i l3 H3 f3 s3 h3 l4 H4 f4 s4 h4
  rw[cf]at h4
  refine cZ (s4 _ _ h3) h4 (by rw[P7,size_eq];simp;omega) fun l5 H5 f5 s5 h5=>?_
  obtain⟨n1,n2,n3⟩:=J5 nz
  exact fin l5 z H5 (vo (fun y hy=>by
   rcases Qb.mp hy with rfl|hy
   ·exact wz
   ·exact wr2 y hy) n1 n2 n3) wz (s2.free (s3.free (s4.free f5))) (s2.trans (s3.trans (s4.trans s5))) h5
 walk_at "z"
 walk_at "q"
 walk_at "z"
 refine dJ (fun _=>?_) fun _=>?_
 ·walk_at "z"
  rename_i l3 H3 f3 s3 h3
  refine cZ h3 (s3 _ _ h1) (by rw[P7,size_eq];simp;omega) fun l5 H5 f5 s5 h5=>?_
  exact fin0 l5 (""::w::r) H5 (by simp) (by simp) (by simp;omega) (s3.free f5) (s3.trans s5) h5
 walk_at "z"
 walk_at "q"
 walk_at "z"
 refine dJ (fun _=>?_) fun _=>?_
 ·walk_at "z"
  rename_i l3 H3 f3 s3 h3
  refine cZ (s3 _ _ h1) h3 (by rw[P7,size_eq];simp;omega) fun l5 H5 f5 s5 h5=>?_
  exact fin0 l5 ((w::r)++([""]:List PH)) H5 (by simp) (fun y hy=>by
   rcases QC.mp hy with h|h
   ·exact .inr h
   ·exact .inl (QR.mp h)) (by simp;omega) (s3.free f5) (s3.trans s5) (by rw[h5];simp)
 walk_at "z"
 walk_at "q"
 walk_at "z"
 have lT:=(nZ x4).2
 refine dJ (fun _=>?_) fun _=>?_
 ·walk_at "z"
  refine cA q1 ew ?_
  walk_at "z"
  refine cA qa1 e4 ?_
  walk_at "z"
  refine Ji ?_
  walk_at "z"
  rename_i l3 H3 f3 s3 h3 l4 H4 f4 s4 h4
  rw[cf]at h4
  refine cZ (s4 _ _ h3) h4 (by rw[P7,size_eq];simp;omega) fun l5 H5 f5 s5 h5=>?_
  exact fin l5 (w++uS x4) H5 (Cd hw wr2).1 (iE ww (nZ _).1 (by omega)) (s3.free (s4.free f5)) (s3.trans (s4.trans s5)) h5
 walk_at "z"
 walk_at "q"
 walk_at "z"
 refine dJ (fun _=>?_) fun _=>?_
 ·walk_at "z"
  refine cA qa1 e4 ?_
  walk_at "z"
  refine Ji ?_
  walk_at "z"
  refine cA q1 ew ?_
  walk_at "z"
  rename_i l3 H3 f3 s3 h3 l4 H4 f4 s4 h4
  rw[cf]at h4
  refine cZ (s4 _ _ h3) h4 (by rw[P7,size_eq];simp;omega) fun l5 H5 f5 s5 h5=>?_
  exact fin l5 (uS x4++w) H5 (Cd hw wr2).2 (iE (nZ _).1 ww (by omega)) (s3.free (s4.free f5)) (s3.trans (s4.trans s5)) h5
 walk_at "z"
 rename_i l2 H2 f2 s2 h2 l3 H3 f3 s3 h3
 rw[ct]at h2
 refine cZ (s3 _ _ h2) h3 (show 1+1<=PZ by decide) fun l4 H4 f4 s4 h4=>?_
 walk_at "z"
 rename_i l5 H5 f5 s5 h5
 rw[cf]at h5
 refine cZ (s5 _ _ h4) h5 (by rw[P7,size_eq];simp;omega) fun l6 H6 f6 s6 h6=>?_
 exact fin0 l6 ([w]++([""]:List PH)++r) H6 (by simp) (by simp;exact fun a h=>.inr (.inr h)) (by simp;omega) (s2.free (s3.free (s4.free (s5.free f6)))) (s2.trans (s3.trans (s4.trans (s5.trans s6)))) (by rw[h6];simp)
theorem Nk:∀vs H Q E,Ek K vs H Q E->ER K {nx:=fun _ H'=>Q .non H',rt:=Q} (start ["script","first","cell","xs","one","other","rows","row","names","number","spins","good","strangers","stranger"] vs) H:=by
 rintro vs H Q E ⟨_,a,ns,rfl,hS,hl63,q⟩
 have hsz:=size_eq
 unfold ER
 walk_at "q"
 walk_at "z"
 refine⟨rfl,a,ns,0,rfl,hS,fun first H1 s1=>?_⟩
 walk_at "z"
 walk_at "q"
 walk_at "z"
 refine⟨rfl,a,ns,1,rfl,s1.seq hS,fun cell H2 s2=>?_⟩
 walk_at "z"
 walk_at "q"
 walk_at "z"
 refine⟨rfl,cell,15,rfl,by decide,fun l3 H3 f3 s3 h3=>?_⟩
 have s03:=s1.trans (s2.trans s3)
 walk_at "z"
 walk_at "q"
 walk_at "z"
 refine EM fun d1 x1 f4 g4 _=>?_
 refine⟨rfl,d1,x1,rfl,ax,fun H4 fp1 D1 b4 w4=>⟨rfl,?_⟩⟩
 obtain⟨s4,e4⟩:=LN f4 g4 b4 w4
 walk_at "z"
 walk_at "q"
 walk_at "z"
 refine EM fun d2 x2 f5 g5 _=>?_
 refine⟨rfl,d2,x2,rfl,ax,fun H5 fp2 D2 b5 w5=>⟨rfl,?_⟩⟩
 obtain⟨s5,e5⟩:=LN f5 g5 b5 w5
 have T5:xC K H H5 d1 d2 ⟨[],[],[],0,0,0⟩ ⟨[],[],[],0,0,0⟩ []:=⟨fp1,fp2,D1.same s5,D2,fun x h1 h2=>D1.there x h1 (e5 x h2),fun x h1=>s03.free (e4 x h1),fun x h2=>s03.free (s4.free (e5 x h2)),s03.trans (s4.trans s5),fun _ h=>nomatch h⟩
 have G0:cE 0 ⟨[],[],[],0,0,0⟩:=cE.of (by decide) (by simp) (by simp) (fun _ h=>nomatch h) (fun _ h=>nomatch h) (fun _ h=>nomatch h) (fun _ h=>nomatch h) (fun _ h=>nomatch h) .nil .nil (by simp) (by simp) (by simp) (by simp) (by simp[fP])
 have h3':=(s4.trans s5) _ _ h3
 clear D1 D2 b4 w4 b5 w5 e4 e5 f4 g4 f5 g5
 walk_at "z"
 walk_at "q"
 walk_at "z"
 refine⟨rfl,l3,cell,d4 cell 15,rfl,aY.of h3',nY _ _,fun l6 rows H6 rl ro f6 s6 h6=>?_⟩
 walk_at "z"
 rename_i l7 H7 f7 s7 h7
 obtain⟨k,ek,hk⟩:∃k:Nat,first%2=(k:Int)/\k<=1:=⟨(first%2).toNat,by omega,by omega⟩
 rw[ek]
 refine DH h7 (by omega) fun l8 H8 f8 s8 h8=>?_
 refine cZ ((s7.trans s8) _ _ h6) h8 (by rw[P7,Xj,size_eq];omega) fun l9 H9 f9 s9 h9=>?_
 have h9:H9 l9=some (.lst ((rows++QT k ("close":PH)).map V.str)):=by rw[h9];simp
 have ok9:∀r∈rows++QT k ("close":PH),iV (yw cell) r:=fun r hr=>by
  rcases QC.mp hr with hr|hr
  ·refine(ro r hr).mono fun z hz=>?_
   obtain⟨j,hj,rfl⟩:=P9.mp hz
   exact S6 _ (S6 _ (P9.mpr ⟨j,Q6.mpr (by have:=Q6.mp hj;omega),rfl⟩))
  ·rw[(List.mem_replicate.mp hr).2];exact GH
 have hl9:(rows++QT k ("close":PH)).length<=61:=by simp;omega
 generalize rows++QT k ("close":PH)=R at *
 have T9:=(T5.same (s6.trans (s7.trans s8))).add s9 f9 h9
 clear T5 h3' h3 h6 h7 h8 s6 s7 s8 s9
 walk_at "z"
 walk_at "q"
 walk_at "z"
 have hRl:(R.map V.str).length<=61:=by rw[P7];exact hl9
 refine rT (dE (K:=K) (xs:=R.map V.str) 7) (fun i σ H'=>∃s v7,xC K H H' d1 d2 s s [(l9,R.map V.str)]/\cE i s/\(∀p∈s.ps,p.1∈yw cell)/\σ=[some (.ref a),some (.int first),some (.int cell),some (.ref l3),some (.ref d1),some (.ref d2),some (.ref l9),v7,none,none,none,none,none,none]) ⟨_,_,T9,G0,(fun _ h=>nomatch h),rfl⟩ (fun i σ H' h=>by obtain⟨s,v7,T,_⟩:=h;exact aY.of (T.at.2 (l9,_) (by simp))) ?_ ?_
 ·rintro i σ Ha Hb hi ⟨s,v7,T,G,hp,rfl⟩ sb
  have hi':i<R.length:=by simpa using hi
  have T:=T.same sb
  have et:(R.map V.str).getD i .non=.str (R.getD i ""):=by simp[Qm,hi']
  have ro:=ok9 _ (getD_mem (xs:=R) "" hi')
  rw[et]
  obtain⟨f1,A1,k1⟩:=T.said (kf:=qj) G.d (R.getD i "")
  show cm _ _ _ _ _ _
  walk_at "z"
  refine⟨rfl,d1,_,f1,s,rfl,A1,G.d,ro.1,fun v1 H1 g1 D1 b1 w1 an1 nl1=>?_⟩
  obtain⟨f2,A2,k2⟩:=k1 v1 H1 g1 D1 b1 w1 an1 nl1
  walk_at "z"
  refine⟨rfl,d2,_,f2,s,rfl,A2,G.d,ro.1,fun v2 H2 g2 D2 b2 w2 an2 _=>?_⟩
  obtain⟨T2,dd,z1,z2,z3⟩:=k2 v2 H2 g2 D2 b2 w2 an2
  refine E2 z1 z2 z3 ?_
  walk_at "z"
  exact⟨_,_,T2,G.next (by omega) _,zx ro hp,rfl⟩
 rintro σ Hc ⟨s,v7,T,G,hp,rfl⟩
 have G:=G.up hRl
 have T:=T.sub (L':=[]) fun _ h=>nomatch h
 clear T9 h9 f9 ok9
 walk_at "q"
 walk_at "z"
 refine bD (j7 (lo:=0) (n:=8) 0) (fun j=>[some (.int (0+(j:Int))),some (.int cell)]) (by rintro j σ' (rfl|⟨k,rfl⟩)<;>rfl) (fun _ _=>trivial) (P6 (show 8<=1000 by decide) bo) (fun j=>.str (aQ cell j)) ?_ ?_
 ·intro j hj H' G s' kk
  walk_at "z"
  refine⟨rfl,cell,j,by rw[show(0+(j:Int))=(j:Int) by omega],by omega,fun H'' s''=>kk H'' s''⟩
 intro l10 H10 f10 s10 h10
 rw[show(P4 8).map (fun j=>V.str (aQ cell j))=((P4 8).map (aQ cell)).map V.str by rw[Qn];rfl]at h10
 walk_at "z"
 refine bD (j7 (lo:=0) (n:=8) 0) (fun j=>[some (.int (0+(j:Int))),some (.int cell)]) (by rintro j σ' (rfl|⟨k,rfl⟩)<;>rfl) (fun _ _=>trivial) (P6 (show 8<=1000 by decide) bo) (fun j=>.str (aQ (cell/3) j)) ?_ ?_
 ·intro j hj H' G s' kk
  walk_at "z"
  refine⟨rfl,cell/3,j,by rw[show(0+(j:Int))=(j:Int) by omega],by omega,fun H'' s''=>kk H'' s''⟩
 intro l11 H11 f11 s11 h11
 rw[show(P4 8).map (fun j=>V.str (aQ (cell/3) j))=((P4 8).map (aQ (cell/3))).map V.str by rw[Qn];rfl]at h11
 refine cZ (s11 _ _ h10) h11 (by simp[size_eq]) fun l12 H12 f12 s12 h12=>?_
 have h12:H12 l12=some (.lst ((Hz cell).map V.str)):=by rw[h12];unfold Hz;rw[Rj]
 have q12:aY K H12 l12 ((Hz cell).map V.str):=aY.of h12
 have nA:∀j,j<3->xW ((Hz cell).map V.str) ((j:Nat):Int)=some (.str (aQ cell j)):=fun j hj=>bM (by
  unfold Hz
  rw[Rj,Sj (by simp;omega)]
  simp[show j<8 by omega])
 have n0:=da cell 0
 have n1:=da cell 1
 have n2:=da cell 2
 have l0:=fq n0
 have l1:=fq n1
 have l2:=fq n2
 obtain⟨_,a2,a3,_⟩:=a8
 walk_at "z"
 walk_at "q"
 walk_at "z"
 refine cA q12 (nA 0 (by decide)) ?_
 walk_at "z"
 refine cA q12 (nA 1 (by decide)) ?_
 walk_at "z"
 refine E1 (qR n1) (by omega) ?_
 walk_at "z"
 refine cA q12 (nA 2 (by decide)) ?_
 walk_at "z"
 rename_i l13 H13 f13 s13 h13
 refine cZ (s13 _ _ h12) h13 (by simp[Hz,size_eq]) fun l14 H14 f14 s14 h14=>?_
 have h14:H14 l14=some (.lst ((yw cell).map V.str)):=by rw[h14];unfold yw;rw[Rj];rfl
 have T14:=(T.same (s10.trans (s11.trans (s12.trans s13)))).add s14 f14 h14
 clear T h10 h11 h12 q12 h13 nA n0 n1 n2 l0 l1 l2
 have nl19:=Ig cell
 have nw19:=Ln cell
 have st19:=Jm cell
 generalize yw cell=NS at *
 walk_at "z"
 walk_at "q"
 have qS:=T14.at.1.seq hS
 walk_at "z"
 rename_i l15 H15 f15 s15 h15
 obtain⟨zs,ez,_,_⟩:=CT ns (some 2) (some 62)
 have hz60:(zs.map V.int).length<=60:=by rw[<-ez];exact MS (ns.map V.int) 2 62
 rw[ez]at h15
 have T15:=T14.add s15 f15 h15
 clear T14 h14 h15
 refine rT (dE (K:=K) (xs:=zs.map V.int) 9) (fun i σ H'=>∃s v9 v10 v11,xC K H H' d1 d2 s s [(l15,zs.map V.int),(l14,NS.map V.str)]/\cE (61+i) s/\(∀p∈s.ps,p.1∈NS)/\σ=[some (.ref a),some (.int first),some (.int cell),some (.ref l3),some (.ref d1),some (.ref d2),some (.ref l9),v7,some (.ref l14),v9,v10,v11,none,none]) ⟨s,_,_,_,T15,G,hp,rfl⟩ (fun i σ H' h=>by obtain⟨s,v9,v10,v11,T,_⟩:=h;exact aY.of (T.at.2 (l15,_) (by simp))) ?_ ?_
 ·clear T15 G hp
  rintro i σ Ha Hb hi ⟨s,v9,v10,v11,T,G,hp,rfl⟩ sb
  have T:=T.same sb
  have hi':i<zs.length:=by simpa using hi
  have et:(zs.map V.int).getD i .non=.int (zs.getD i 0):=by simp[Qm,hi']
  rw[et]
  generalize zs.getD i 0=number
  show aE _ _ _ _ _
  walk_at "q"
  walk_at "z"
  refine⟨rfl,number,12,rfl,by decide,fun l16 H16 f16 s16 h16=>?_⟩
  have T:=T.add s16 f16 h16
  have q16:aY K H16 l16 ((d4 number 12).map V.int):=aY.of h16
  walk_at "z"
  walk_at "q"
  walk_at "z"
  rename_i l17 H17 f17 s17 h17
  have e17:iU ((d4 number 12).map V.int) none (some 6)=((d4 number 12).take 6).map V.int:=Cq _ 6
  rw[e17]at h17
  have T:=T.same s17
  have q14:aY K H17 l14 (NS.map V.str):=aY.of (T.at.2 (l14,_) (Qs _ (Qs _ (QH ..))))
  walk_at "z"
  refine⟨rfl,l17,l14,_,_,rfl,aY.of h17,q14,by rw[QY,nY];decide,nl19,nw19,fun lb ws H18 nr wl wd fb s18 h18=>?_⟩
  walk_at "z"
  refine pU 40 (aY.of h18) (fun x hx=>(wd x hx).1) (by rw[dU.2.2.1];omega) ?_
  have T:=T.same s18
  obtain⟨f1,A1,_,nf1,k1⟩:=T.one
  obtain⟨en,ea⟩:=Iw (s:=s) (nr s)
  walk_at "z"
  refine⟨rfl,d1,_,f1,s,rfl,A1,G.d,rj (by omega) wd,fun v1 H19 g1 D1 b1 w1 an1 nl1=>?_⟩
  rw[en]at D1
  rw[ea]at an1
  have T:=k1 H19 g1 _ [] D1 b1 w1 fun _ h=>nomatch h
  obtain⟨lv,rfl,_,hv⟩:=an1
  have ek9:qj "NoRow"=[true,false,true,false,false,false,false,false,false]:=by decide +kernel
  rw[ek9]at hv
  walk_at "z"
  rename_i l20 H20 f20 s20 h20 l21 H21 f21 s21 h21
  refine DH (k:=6) h21 (by decide) fun l22 H22 f22 s22 h22=>?_
  refine cZ ((s21.trans s22) _ _ h20) h22 (show 3+6<=PZ by decide) fun l23 H23 f23 s23 h23=>?_
  have sv:=s20.trans (s21.trans (s22.trans s23))
  have T:=(T.same sv).sub (L':=[(l16,(d4 number 12).map V.int),(l15,zs.map V.int),(l14,NS.map V.str)]) fun p hp=>Rk _ hp
  refine E2 (d:=.list ([true,false,true,false,false,false,false,false,false].map Uw)) (.lst (aY.of (sv _ _ hv)) (ie _)) (.lst (aY.of h23) (ie [true,false,true,false,false,false,false,false,false])) ((wy _).shaped (by decide)) ?_
  clear hv h20 h21 h22 h23 h18 h17 h16 q16 q14 A1 D1 b1 w1 nl1 k1 nf1 sv
  have q16:aY K H23 l16 ((d4 number 12).map V.int):=aY.of (T.at.2 (l16,_) (QH ..))
  have q14:aY K H23 l14 (NS.map V.str):=aY.of (T.at.2 (l14,_) (Qs _ (Qs _ (QH ..))))
  walk_at "z"
  walk_at "q"
  walk_at "z"
  rename_i l24 H24 f24 s24 h24
  have e24:iU ((d4 number 12).map V.int) (some 6) none=((d4 number 12).drop 6).map V.int:=JD _ 6
  rw[e24]at h24
  refine⟨rfl,l24,l14,_,_,rfl,aY.of h24,s24.seq q14,by rw[Rq,nY];decide,nl19,fun lg g n o H25 mn mo mg fg s25 h25=>?_⟩
  have wg:=BI (nw19 n mn) (nw19 o mo) mg
  have hgl:g.length<=3:=by obtain⟨w,r,rfl,_,_,hr⟩:=n9 mg;simp;omega
  have ro:=MT (nw19 n mn) (nw19 o mo) mn mg
  walk_at "z"
  refine pU 40 (aY.of h25) (fun x hx=>(wg x hx).1) (by rw[dU.2.2.1];omega) ?_
  have s2325:=s24.trans s25
  have T:=T.same s2325
  generalize QP " " g=row at *
  walk_at "z"
  refine cA (s2325.seq q16) (bM (xG (show 11<12 by decide))) ?_
  walk_at "z"
  have T:=T.sub (L':=[(l15,zs.map V.int),(l14,NS.map V.str)]) fun p hp=>Qs _ hp
  have hz61:i<60:=QD hi hz60
  refine dJ (fun _=>?_) fun _=>?_
  ·walk_at "z"
   refine Oi (fun _=>?_) fun _=>?_
   ·obtain⟨f1,A1,k1⟩:=T.said (kf:=qj) G.d row
    walk_at "z"
    refine⟨rfl,d1,_,f1,s,rfl,A1,G.d,ro.1,fun v1 H1 g1 D1 b1 w1 an1 nl1=>?_⟩
    obtain⟨f2,A2,k2⟩:=k1 v1 H1 g1 D1 b1 w1 an1 nl1
    walk_at "z"
    refine⟨rfl,d2,_,f2,s,rfl,A2,G.d,ro.1,fun v2 H2 g2 D2 b2 w2 an2 _=>?_⟩
    obtain⟨T2,dd,z1,z2,z3⟩:=k2 v2 H2 g2 D2 b2 w2 an2
    refine E2 z1 z2 z3 ?_
    walk_at "z"
    exact⟨_,_,_,_,T2,G.next (by omega) _,zx ro hp,rfl⟩
   ·walk_at "z"
    exact⟨s,_,_,_,T,G.up (by omega),hp,rfl⟩
  ·walk_at "z"
   exact⟨s,_,_,_,T,G.up (by omega),hp,rfl⟩
 clear T15 G hp
 rintro σ Hd ⟨s,v9,v10,v11,T,G,hp,rfl⟩
 have G:=G.up (show 61+(zs.map V.int).length<=121 by omega)
 have T:=T.sub (L':=[(l14,NS.map V.str)]) fun p hp=>Qs _ hp
 walk_at "q"
 walk_at "z"
 refine bD (j7 (lo:=8) (n:=18) 0) (fun j=>[some (.int (8+(j:Int))),some (.int cell)]) (by rintro j σ' (rfl|⟨k,rfl⟩)<;>rfl) (fun _ _=>trivial) (P6 (show 18<=1000 by decide) bo) (fun j=>.str (aQ cell (8+j))) ?_ ?_
 ·intro j hj H' G s' kk
  walk_at "z"
  refine⟨rfl,cell,8+j,by rw[show((8+j:Nat):Int)=8+(j:Int) by omega],by omega,fun H'' s''=>kk H'' s''⟩
 intro l26 H26 f26 s26 h26
 rw[show(P4 18).map (fun j=>V.str (aQ cell (8+j)))=((P4 18).map fun j=>aQ cell (8+j)).map V.str by rw[Qn];rfl]at h26
 have hS18:((P4 18).map fun j=>aQ cell (8+j)).length=18:=by simp
 have hSn:∀z∈(P4 18).map fun j=>aQ cell (8+j),dw z=true:=fun z hz=>by
  obtain⟨j,_,rfl⟩:=P9.mp hz
  exact da _ _
 generalize ((P4 18).map fun j=>aQ cell (8+j))=S at *
 have hSm:(S.map V.str).length=18:=by simp[hS18]
 have T:=T.same s26
 have q14:aY K H26 l14 (NS.map V.str):=aY.of (T.at.2 (l14,_) (QH ..))
 have q26:aY K H26 l26 (S.map V.str):=aY.of h26
 walk_at "z"
 walk_at "q"
 walk_at "z"
 refine kQ (dE (K:=K) (xs:=S.map V.str) 0) (fun j=>[some ((S.map V.str).getD j .non),some (.ref l14)]) (by rintro j σ' (rfl|⟨k,rfl⟩)<;>rfl) (fun H' s'=>s'.seq q26) (by rw[hSm];exact P6 (show 18<=1000 by decide) bo) (fun j=>!decide (S.getD j ""∈NS)) (fun j=>.str (S.getD j "")) ?_ ?_ ?_
 ·intro j hj H' G s' kk
  rw[hSm]at hj
  have et:(S.map V.str).getD j .non=.str (S.getD j ""):=by simp[Qm,hS18,hj]
  rw[et]
  walk_at "z"
  refine KI (s'.seq q14) ?_
  walk_at "z"
  exact kk H' (av.refl _)
 ·intro j hj hb H' G s' kk
  rw[hSm]at hj
  have et:(S.map V.str).getD j .non=.str (S.getD j ""):=by simp[Qm,hS18,hj]
  rw[et]
  walk_at "z"
  exact kk H' (av.refl _)
 intro l27 H27 f27 s27 h27
 rw[hSm,<-hS18,show((P4 S.length).filter fun j=>!decide (S.getD j ""∈NS)).map (fun j=>V.str (S.getD j ""))=(S.filter fun z=>!decide (z∈NS)).map V.str by rw[<-iD (fun z:PH=>!decide (z∈NS)) "" S,Qn];rfl]at h27
 have hF:∀z∈S.filter fun z=>!decide (z∈NS),dw z=true/\z∉NS:=fun z hz=>by
  obtain⟨m1,m2⟩:=QL.mp hz
  exact⟨hSn z m1,by simpa using m2⟩
 generalize (S.filter fun z=>!decide (z∈NS))=F at *
 obtain⟨nz,mz⟩:=hF F[0] (RA st19)
 have T:=T.same s27
 walk_at "z"
 refine cA (aY.of h27) (bM (j:=0) (v:=.str F[0]) (by simp[st19])) ?_
 generalize F[0]=z at *
 have zl:=fq nz
 obtain⟨pn,ptx⟩:=Jq (s:=s) (tY nz) (fun e=>by rw[e]at zl;exact absurd zl.1 (by decide +kernel)) (fun p hq e=>mz (e▸hp p hq))
 obtain⟨en,ea⟩:=Iw (s:=s) pn
 have lp6:("purse ":PH).length=6:=by decide +kernel
 walk_at "z"
 walk_at "q"
 walk_at "z"
 obtain⟨f1,A1,_,_,k1⟩:=T.one
 refine⟨rfl,d1,_,f1,s,rfl,A1,G.d,ptx,fun v1 H28 g1 D1 b1 w1 an1 nl1=>?_⟩
 rw[en]at D1
 rw[ea]at an1
 have T:=k1 H28 g1 _ [] D1 b1 w1 fun _ h=>nomatch h
 obtain⟨lv,rfl,_,hv⟩:=an1
 have ek9:qj "NoVoter"=[false,true,true,false,false,false,false,false,false]:=by decide +kernel
 rw[ek9]at hv
 walk_at "z"
 rename_i l20 H20 f20 s20 h20 l21 H21 f21 s21 h21
 refine DH (k:=6) h21 (by decide) fun l22 H22 f22 s22 h22=>?_
 refine cZ ((s21.trans s22) _ _ h20) h22 (show 3+6<=PZ by decide) fun l23 H23 f23 s23 h23=>?_
 have sv:=s20.trans (s21.trans (s22.trans s23))
 have T:=(T.same sv).sub (L':=[(l14,NS.map V.str)]) fun p hp=>Rk _ hp
 refine E2 (d:=.list ([false,true,true,false,false,false,false,false,false].map Uw)) (.lst (aY.of (sv _ _ hv)) (ie _)) (.lst (aY.of h23) (ie [false,true,true,false,false,false,false,false,false])) ((wy _).shaped (by decide)) ?_
 clear hv h20 h21 h22 h23 A1 D1 b1 w1 nl1 k1 sv
 walk_at "z"
 obtain⟨f1,A1,m1,_,k1⟩:=T.one
 refine⟨rfl,d1,l14,f1,s,121,NS,rfl,A1,G,by decide,T.at.2 (l14,_) (QH ..),m1 (l14,_) (QH ..),nl19,nw19,fun u H30 g1 ys b1 w1 D1 fu nu hu P1=>?_⟩
 obtain⟨X,hX,kX⟩:=Ct P1
 have T1:=k1 H30 g1 _ ((u,ys)::X) D1 b1 w1 (fun p hp=>by
  rcases Qb.mp hp with rfl|hp
  ·exact⟨hu,nu,fu⟩
  ·exact hX p hp)
 obtain⟨f2,A2,m2,_,_⟩:=T1.flip.one
 walk_at "z"
 refine⟨rfl,d2,l14,f2,s,121,NS,rfl,A2,G,by decide,T1.at.2 (l14,_) (Rk _ (QH ..)),m2 (l14,_) (Rk _ (QH ..)),nl19,nw19,fun u2 H31 g2 ys2 b2 w2 D2 fu2 nu2 hu2 P2=>?_⟩
 have nu':u∉f2:=m2 (u,ys) (QH ..)
 have P1':=kX f2 H31 (fun p hp=>m2 p (Qs _ (S6 _ hp))) b2
 have lk:Ae 2 (.list ((rA s (o8 NS)).map (Dq qj))):=FC fun d hd=>by
  obtain⟨a,ha,rfl⟩:=P9.mp hd
  exact BE G (by unfold o8 J8;rw[QV,P7,nl19];decide) a ha
 refine OB (.lst (aY.of (b2.1 _ _ nu' hu)) (ni P1')) (.lst (aY.of hu2) (ni (Paired.mapP P2 fun _ _ z=>z.1))) (lk.shaped (by decide)) ?_
 exact q _
end
structure Txt(K:PM)(mg:PH->Option PL):Prop where
 Et:bF K mg "_law_nth" wV ["script","k"]
 Bq:bF K mg "_law_spins" qY ["cell","many"]
 sO:cw K "Chest" "__init__" "Chest.__init__" j1 ["self"]
 uQ:cw K "Desk" "__init__" "Desk.__init__" lQ ["self"]
 Ck:bF K mg "_law_name" tU ["cell","k"]
 sQ:bF K mg "_law_good_rows" j9 ["xs","cell"]
 zQ:bF K mg "read_words" qw ["row"]
 r9:bF K mg "least_multiple" jV ["step","number"]
 Em:bF K mg "together" xD ["n"]
 CM:bF K mg "grains_of" sZ ["voters","works"]
 Hs:bF K mg "paid_by" yP ["steps","voter"]
 Hg:bF K mg "left_of" zo ["purses","steps"]
 CG:bF K mg "prices_of" tF ["costs","wishes"]
 AE:bF K mg "rounded_up" rm ["amount","shares"]
 BG:bF K mg "level_for" tO ["purses","price"]
 CU:bF K mg "wants_all" tQ ["wanted","works"]
 CF:bF K mg "common_of" tX ["wishes","works"]
 Ac:bF K mg "wanters_of" qV ["wishes","work"]
 DM:bF K mg "offer_of" wA ["purses","wishes","work","price"]
 CP:bF K mg "offers_of" tK ["purses","costs","wishes","done"]
 GF:bF K mg "next_of" zC ["offers"]
 DP:bF K mg "works_of" vJ ["steps"]
 Hr:bF K mg "paid_at" zd ["purses","level"]
 yh:bF K mg "payments_of" oS ["purses","wishes","work","level"]
 yy:bF K mg "step_behind" oR ["purses","costs","wishes","steps"]
 HN:bF K mg "choose" CZ ["purses","costs","wishes"]
 pz:cw K "Chest" "keep_coins" "Chest.keep_coins" ix ["self","left","grains"]
 mf:cw K "Chest" "wanted_places" "Chest.wanted_places" fR ["self","voter"]
 rF:cw K "Chest" "told_step" "Chest.told_step" jn ["self","place","paid"]
 pK:cw K "Chest" "check_work" "Chest.check_work" i8 ["self","work"]
 sU:cw K "Chest" "withdraw" "Chest.withdraw" j3 ["self","work"]
 yq:cw K "Chest" "close" "Chest.close" oO ["self"]
 C4:bF K mg "paid_text" tT ["rows"]
 C9:bF K mg "done_text" tZ ["work","cost","rows"]
 xx:bF K mg "closing_text" mL ["done","grains"]
 ym:bF K mg "close_chest" oY ["chest"]
 Co:bF K mg "work_text" tS ["work","cost","wanters"]
 A6:bF K mg "works_text" qD ["works"]
 uw:cw K "Chest" "wanters" "Chest.wanters" lL ["self","work"]
 xP:cw K "Chest" "works" "Chest.works" o5 ["self"]
 CC:cw K "Chest" "pot" "Chest.pot" tM ["self"]
 yj:cw K "Chest" "given" "Chest.given" oG ["self"]
 yt:cw K "Chest" "spent" "Chest.spent" oN ["self"]
 Gs:bF K mg "say_one" yZ ["chest","deed"]
 GN:bF K mg "is_name" y4 ["name"]
 si:bF K mg "check_new_name" j0 ["name","names"]
 yn:bF K mg "check_place" oQ ["names","most"]
 xO:cw K "Chest" "enrol" "Chest.enrol" oJ ["self","name"]
 oz:cw K "Chest" "check_voter" "Chest.check_voter" gP ["self","voter"]
 sW:cw K "Chest" "purse_of" "Chest.purse_of" jX ["self","voter"]
 yu:cw K "Chest" "leave" "Chest.leave" o3 ["self","name"]
 xT:bF K mg "check_coins" o4 ["coins","least"]
 yl:cw K "Chest" "share" "Chest.share" o7 ["self","part"]
 Ad:cw K "Chest" "give" "Chest.give" qQ ["self","coins"]
 BH:bF K mg "is_number" tI ["word"]
 yJ:bF K mg "read_number" oH ["word"]
 Hv:bF K mg "say_two" zD ["chest","deed","word"]
 ud:cw K "Chest" "propose" "Chest.propose" lN ["self","work","cost"]
 AJ:cw K "Chest" "want" "Chest.want" qy ["self","voter","work"]
 wq:cw K "Chest" "unwant" "Chest.unwant" nI ["self","voter","work"]
 Cv:bF K mg "say_three" tD ["chest","deed","word","last"]
 Dt:cw K "Desk" "say" "Desk.say" vG ["self","row"]
 BB:bF K mg "_law_said" tR ["desk","row"]
 BY:bF K mg "_law_look" tV ["desk","names"]
 qX:bF K mg "_law_good_words" jo ["xs","names"]
 qr:bF K mg "_law_other_word" jk ["word","x"]
 yF:bF K mg "_law_number" oU ["x"]
 DU:bF K mg "_law_bad" vH ["xs","names"]
 f_law:bF K mg "law" Cm ["script"]
 bI:mi K mg "Chest"
 rU:mi K mg "Desk"
 ff:ef K mg "NoRow"
 kb:ef K mg "NoWork"
 j8:ef K mg "NoName"
 nU:ef K mg "Twice"
 sE:ef K mg "Full"
 ib:ef K mg "NoVoter"
 ik:ef K mg "TooMuch"
 k7:ef K mg "PurseError"
 sj:ef K mg "NoPaper"
 cls:gT K
 Au:mg "ValueError"=none
 z_all:mg "all"=none
 JH:mg "dict"=none
 eY:mg "enumerate"=none
 z_int:mg "int"=none
 cN:mg "isinstance"=none
 z_len:mg "len"=none
 JR:mg "list"=none
 z_min:mg "min"=none
 fE:mg "range"=none
 Cz:mg "sorted"=none
 z_str:mg "str"=none
 z_sum:mg "sum"=none
 z_zip:mg "zip"=none
 Gf:Ka mg "FIGURES" "0123456789"
 GY:Ka mg "LETTERS" "abcdefghijklmnopqrstuvwxyz"
 mG:tJ mg "MOST_AT_ONCE" 1000000000
 vL:tJ mg "MOST_FIGURES" 13
 vx:tJ mg "MOST_LETTERS" 8
 xQ:tJ mg "MOST_VOTERS" 20
 AL:tJ mg "MOST_WORKS" 12
section
seal xI PS PE PA PT PC PI PG
variable {P:Qc}{w:P8}{K:PM}{mg:PH->Option PL}{base:P0}
theorem qO(T:Txt K mg):ko P w K mg base 1 "_law_nth" ["script","k"] (jm K):=T.Et.cal (rd:=mM K) tE (aF rfl) (fun f cdv A outer s H E hr=>
 (ah (gI Rv rfl (bX (bU fM (pv 0) (ck (pv 1)) (ck (aA cJ (pv 1) ar)))) (aC (i:=2) tE.nd rfl (PU rfl)) (aj (aD (pv 2))))
   (aj (aD ar)))) BX
theorem jh(T:Txt K mg):ko P w K mg base 1 "_law_spins" ["cell","many"] (eE K):=T.Bq.cal (rd:=jQ K) gv (aF rfl) (fun f cdv A outer s H E hr=>
 (ah (aM (i:=2) gv.nd rfl (PU rfl) (bh ag))
   (ah (gI Rv rfl (ed (by rfl) T.fE (aa (pv 1) ag)) (aC (i:=3) gv.nd rfl (PU rfl)) (ah (aM (i:=4) gv.nd rfl (PU rfl) (aA cJ (aA cJ (aA br (pv 0) ar) (aA jB ar (pv 3))) ar))
   (aj (bN (jv Ui Tf TM ia (pv 2) (aa (aA br (aA dG (aA jB (aA jB (pv 4) (pv 4)) (aA cJ (pv 4) (aA jB ar (pv 3)))) ar) ar) ag))))))
   (aj (aD (pv 2)))))) yd
theorem pO(T:Txt K mg):eL sR P w K mg base 1 "Chest" "__init__" ["self"] (fI K):=T.sO.cal (rd:=fi K) rg (aF rfl) (fun f cdv A outer s H E hr=>
 (ah (gJ (pv 0) Cg rfl)
   (ah (gJ (pv 0) Cg rfl)
   (ah (gJ (pv 0) (bh ag) rfl)
   (ah (gJ (pv 0) ar rfl)
   (ah (gJ (pv 0) ar rfl)
   (aj (gJ (pv 0) ar rfl)))))))) (rD T.cls)
theorem jw(T:Txt K mg):eL sR P w K mg base 3 "Desk" "__init__" ["self"] (d7 K):=T.uQ.cal (rd:=gd K) sC (aF rfl) (fun f cdv A outer s H E hr=>
 (aj (gJ (pv 0) (so (pO T) T.bI (hr.mono (by decide))) rfl))) (sN T.cls)
theorem eG(T:Txt K mg):ko P w K mg base 2 "_law_name" ["cell","k"] (dD K):=T.Ck.cal (rd:=lK K) d6 (aF rfl) (fun f cdv A outer s H E hr=>
 (ah (aM (i:=2) d6.nd rfl (RX rfl) ay)
   (ah (aM (i:=3) d6.nd rfl (PU rfl) (aW (jh T) (hr.mono (by decide)) (aa (pv 0) (aa ar ag))))
   (ah (aM (i:=4) d6.nd rfl (PU rfl) (jv RN Sr SX kE ay (aa (bE (N:=["x","letters"]) (mp:=[none,some 2]) rfl ⟨rfl,by decide +kernel,by rfl,rfl,by rfl⟩ (bX (bU fM (pv 3) cK (ck ar))) (fun _ _ _ _ _ _=>(aC (i:=0) (by show Qk (["x","letters"]:List PH);decide +kernel) rfl (PU rfl))) (fun _ _ _ _ _ _=>bx) (fun _ _ _ _ _ _=>(bj ki (pv 1) (aA br (pv 0) ar) (fun _ _=>rfl)))) ag)))
   (ah (bH (aJ dc (aA br (bj aL (pv 3) ar (fun _ _=>rfl)) ar) ar (bg _)) (aj (aD (aA bY (bj ki (pv 2) (aA br (aA cJ (bj aL (pv 3) ar (fun _ _=>rfl)) (aA dG (pv 1) ar)) ar) (fun _ _=>rfl)) (bU iB (pv 4) cK (ck (aA br (pv 1) ar)))))) a9)
   (ah (bH (aJ dc (aA br (bj aL (pv 3) ar (fun _ _=>rfl)) ar) ar (bg _)) (aj (aD (aA bY (bU iB (pv 4) (ck (aA Bm ar (aA br (pv 1) ar))) cK) (bj ki (pv 2) (aA br (aA cJ (bj aL (pv 3) ar (fun _ _=>rfl)) (aA dG (pv 1) ar)) ar) (fun _ _=>rfl))))) a9)
   (ah (aM (i:=4) d6.nd rfl (PU rfl) (bU iB (pv 4) cK (ck (aA br (aA dG (bj aL (pv 3) ar (fun _ _=>rfl)) ar) ar))))
   (ah (aM (i:=5) d6.nd rfl (PU rfl) (aA br (aA dG (bj aL (pv 3) ar (fun _ _=>rfl)) ar) (aA cJ (aU oi (by rfl) T.z_len QZ (aa (pv 4) ag)) ar)))
   (aj (aD (aA bY (aA bY (bU iB (pv 4) cK (ck (pv 5))) (bj ki (pv 2) (aA br (aA cJ (bj aL (pv 3) ar (fun _ _=>rfl)) (pv 1)) ar) (fun _ _=>rfl))) (bU iB (pv 4) (ck (pv 5)) cK)))))))))))) zZ
theorem ph(T:Txt K mg):ko P w K mg base 3 "_law_good_rows" ["xs","cell"] (fe K):=T.sQ.cal (rd:=fz K) cp (aF rfl) (fun f cdv A outer s H E hr=>
 (ah (nV (i:=2) (N:=["k","cell"]) (mp:=[none,some 1]) cp.nd rfl (PU rfl) rfl ⟨rfl,by decide +kernel,by rfl,rfl,by rfl⟩ (ed (by rfl) T.fE (aa (aA cJ ar (aA br (bj aL (pv 0) ar (fun _ _=>rfl)) ar)) ag)) (fun _ _ _ _ _ _=>(aC (i:=0) (by show Qk (["k","cell"]:List PH);decide +kernel) rfl (PU rfl))) (fun _ _ _ _ _ _=>bx) (fun _ _ _ _ _ _=>(aW (eG T) (hr.mono (by decide)) (aa (pv 1) (aa (pv 0) ag)))) (by with_unfolding_all rfl))
   (ah (aM (i:=3) cp.nd rfl (RX rfl) (bE (N:=["k","cell"]) (mp:=[none,some 1]) rfl ⟨rfl,by decide +kernel,by rfl,rfl,by rfl⟩ (ed (by rfl) T.fE (aa (aA cJ ar (aA br (bj aL (pv 0) ar (fun _ _=>rfl)) ar)) ag)) (fun _ _ _ _ _ _=>(aC (i:=0) (by show Qk (["k","cell"]:List PH);decide +kernel) rfl (PU rfl))) (fun _ _ _ _ _ _=>bx) (fun _ _ _ _ _ _=>(aW (eG T) (hr.mono (by decide)) (aa (aA dG (pv 1) ar) (aa (pv 0) ag))))))
   (ah (aM (i:=4) cp.nd rfl (PU rfl) (aA c6 (bE (N:=["name"]) (mp:=[none]) rfl ⟨rfl,by decide +kernel,by rfl,rfl,by rfl⟩ (bX (pv 2)) (fun _ _ _ _ _ _=>(aC (i:=0) (by show Qk (["name"]:List PH);decide +kernel) rfl (PU rfl))) (fun _ _ _ _ _ _=>bx) (fun _ _ _ _ _ _=>(aA bY ay (pv 0)))) (bh (aa (aA bY ay (dN il (by rfl) T.z_str Ti (aa (aA br (bj aL (pv 0) ar (fun _ _=>rfl)) ar) ag))) ag))))
   (ah (aM (i:=4) cp.nd rfl (PU rfl) (aA c6 (pv 4) (bE (N:=["k","plans","xs"]) (mp:=[none,some 3,some 0]) rfl ⟨rfl,by decide +kernel,by rfl,rfl,by rfl⟩ (ed (by rfl) T.fE (aa (aU bT (by rfl) T.z_len QZ (aa (pv 3) ag)) ag)) (fun _ _ _ _ _ _=>(aC (i:=0) (by show Qk (["k","plans","xs"]:List PH);decide +kernel) rfl (PU rfl))) (fun _ _ _ _ _ _=>bx) (fun _ _ _ _ _ _=>(aA bY (aA bY (aA bY ay (bj aL (pv 1) (pv 0) (fun _ _=>rfl))) ay) (dN il (by rfl) T.z_str Ti (aa (aA cJ ar (aA br (bj aL (pv 2) (aA cJ ar (pv 0)) (fun _ _=>rfl)) ar)) ag)))))))
   (ah (gI Rv rfl (ed (by rfl) T.fE (aa (aU bT (by rfl) T.z_len QZ (aa (pv 2) ag)) ag)) (aC (i:=5) cp.nd rfl (PU rfl)) (aj (gI Rv rfl (ed (by rfl) T.fE (aa (aU bT (by rfl) T.z_len QZ (aa (pv 3) ag)) ag)) (aC (i:=6) cp.nd rfl (PU rfl)) (aj (bH (aJ dc (aA br (aA dG (bj aL (pv 0) (aA cJ ar (aA br (aA cJ (pv 5) (pv 6)) ar)) (fun _ _=>rfl)) (aA cJ (pv 5) ar)) ar) ar (bg _)) (aj (bN (jv Ui Tf TM ia (pv 4) (aa (aA bY (aA bY (aA bY ay (bj aL (pv 2) (pv 5) (fun _ _=>rfl))) ay) (bj aL (pv 3) (pv 6) (fun _ _=>rfl))) ag)))) a9)))))
   (aj (aD (pv 4))))))))) rp
theorem u9(T:Txt K mg):xJ P w K mg base 1 "read_words" ["row"] (jO K):=T.zQ.calX (rd:=jI K) oP (fun _ _ _ _ h=>h.1) (fun f cdv A outer s H E hr=>
 (ah (PS.nox (aM (i:=1) oP.nd rfl (PU rfl) (jv RN UD ZM JP (pv 0) (aa ay ag))))
   (ah (bH (aJ jW ay (pv 1) rfl) (aj (c8 T.ff (aa (dk (.cons ay (.cons (gX (pv 0)) .nil))) ag))) a9)
   (aj (PS.nox (aD (pv 1))))))) yM
theorem pX(T:Txt K mg):ko P w K mg base 1 "least_multiple" ["step","number"] (fL K):=T.r9.cal (rd:=fj K) fD (aF rfl) (fun f cdv A outer s H E hr=>
 (ah (aM (i:=2) fD.nd rfl (PU rfl) (pv 0))
   (ah (BQ Rv (aJ Ft (aA br (pv 2) (pv 1)) ar (bg _)) (aj (AS (i:=2) fD.nd rfl (PU rfl) (pv 0) (FL HQ))))
   (aj (aD (pv 2)))))) rE
theorem Bk(T:Txt K mg):ko P w K mg base 2 "together" ["n"] (m9 K):=T.Em.cal (rd:=mR K) jx (aF rfl) (fun f cdv A outer s H E hr=>
 (ah (aM (i:=1) jx.nd rfl (PU rfl) ar)
   (ah (gI Rv rfl (zG (by rfl) T.fE (aa ar (aa (aA cJ (pv 0) ar) ag))) (aC (i:=2) jx.nd rfl (PU rfl)) (aj (aM (i:=1) jx.nd rfl (PU rfl) (aW (pX T) (hr.mono (by decide)) (aa (pv 1) (aa (pv 2) ag))))))
   (aj (aD (pv 1)))))) Cy
theorem oM(T:Txt K mg):ko P w K mg base 3 "grains_of" ["voters","works"] (hW K):=T.CM.cal (rd:=kY K) fm (aF rfl) (fun f cdv A outer s H E hr=>
 (ah (aM (i:=2) fm.nd rfl (PU rfl) (aW (Bk T) (hr.mono (by decide)) (aa (pv 0) ag)))
   (ah (aM (i:=3) fm.nd rfl (PU rfl) (pv 2))
   (ah (gI Rv rfl (ed (by rfl) T.fE (aa (pv 1) ag)) (aC (i:=4) fm.nd rfl (PU rfl)) (aj (AS (i:=3) fm.nd rfl (PU rfl) (pv 2) (FL ID))))
   (aj (aD (pv 3))))))) zW
theorem B3(T:Txt K mg):ko P w K mg base 1 "paid_by" ["steps","voter"] (pq K):=T.Hs.cal (rd:=pB K) Dr (aF rfl) (fun f cdv A outer s H E hr=>
 (aj (aD (aU (vZ rfl) (by rfl) T.z_sum VH (aa (bE (N:=["work","level","paid","voter"]) (mp:=[none,none,none,some 1]) rfl ⟨rfl,by decide +kernel,by rfl,rfl,by rfl⟩ (bX (pv 0)) (fun _ _ _ _ _ _=>(dO rfl (aR (aC (i:=0) (by show Qk (["work","level","paid","voter"]:List PH);decide +kernel) rfl (PU rfl)) (aR (aC (i:=1) (by show Qk (["work","level","paid","voter"]:List PH);decide +kernel) rfl (PU rfl)) (aR (aC (i:=2) (by show Qk (["work","level","paid","voter"]:List PH);decide +kernel) rfl (PU rfl)) cY))))) (fun _ _ _ _ _ _=>bx) (fun _ _ _ _ _ _=>(bj aL (pv 2) (pv 3) (fun _ _=>rfl)))) ag))))) DX
theorem tL(T:Txt K mg):ko P w K mg base 2 "left_of" ["purses","steps"] (kF K):=T.Hg.cal (rd:=qd K) EO (aF rfl) (fun f cdv A outer s H E hr=>
 (aj (aD (bE (N:=["voter","purse","steps"]) (mp:=[none,none,some 1]) rfl ⟨rfl,by decide +kernel,by rfl,rfl,by rfl⟩ (rN (by rfl) T.eY (pv 0)) (fun _ _ _ _ _ _=>(dO rfl (aR (aC (i:=0) (by show Qk (["voter","purse","steps"]:List PH);decide +kernel) rfl (PU rfl)) (aR (aC (i:=1) (by show Qk (["voter","purse","steps"]:List PH);decide +kernel) rfl (PU rfl)) cY)))) (fun _ _ _ _ _ _=>bx) (fun _ _ _ _ _ _=>(aA Bm (pv 1) (aW (B3 T) (hr.mono (by decide)) (aa (pv 2) (aa (pv 0) ag))))))))) DC
theorem yO(T:Txt K mg):ko P w K mg base 4 "prices_of" ["costs","wishes"] (ke K):=T.CG.cal (rd:=kD K) qz (aF rfl) (fun f cdv A outer s H E hr=>
 (ah (aM (i:=2) qz.nd rfl (RX rfl) (aW (oM T) (hr.mono (by decide)) (aa (aU bT (by rfl) T.z_len QZ (aa (pv 1) ag)) (aa (aU bT (by rfl) T.z_len QZ (aa (pv 0) ag)) ag))))
   (aj (aD (bE (N:=["cost","grains"]) (mp:=[none,some 2]) rfl ⟨rfl,by decide +kernel,by rfl,rfl,by rfl⟩ (bX (pv 0)) (fun _ _ _ _ _ _=>(aC (i:=0) (by show Qk (["cost","grains"]:List PH);decide +kernel) rfl (PU rfl))) (fun _ _ _ _ _ _=>bx) (fun _ _ _ _ _ _=>(aA jB (pv 0) (pv 1)))))))) AH
theorem vj(T:Txt K mg):ko P w K mg base 1 "rounded_up" ["amount","shares"] (jM K):=T.AE.cal (rd:=jL K) ye (aF rfl) (fun f cdv A outer s H E hr=>
 (aj (aD (aA dG (aA Bm (aA cJ (pv 0) (pv 1)) ar) (pv 1))))) yb
theorem yL(T:Txt K mg):ko P w K mg base 2 "level_for" ["purses","price"] (kn K):=T.BG.cal (rd:=kR K) d9 (aF rfl) (fun f cdv A outer s H E hr=>
 (ah (bH (aJ Eb (aU (vZ rfl) (by rfl) T.z_sum VH (aa (pv 0) ag)) (pv 1) (bg _)) (aj (aD i4)) a9)
   (ah (aM (i:=2) d9.nd rfl (PU rfl) (pv 1))
   (ah (aM (i:=3) d9.nd rfl (PU rfl) (aU bT (by rfl) T.z_len QZ (aa (pv 0) ag)))
   (ah (gI Rv rfl (bX (aU tW (by rfl) T.Cz Xy (aa (pv 0) ag))) (aC (i:=4) d9.nd rfl (PU rfl)) (ah (bH (aJ Kg (aA jB (pv 4) (pv 3)) (pv 2) (bg _)) (aj (aD (aW (vj T) (hr.mono (by decide)) (aa (pv 2) (aa (pv 3) ag))))) a9)
   (ah (AS (i:=2) d9.nd rfl (PU rfl) (pv 4) (FL Dc))
   (aj (AS (i:=3) d9.nd rfl (PU rfl) ar (FL Dc))))))
   (aj (aD ar))))))) zY
theorem yB(T:Txt K mg):ko P w K mg base 1 "wants_all" ["wanted","works"] (ku K):=T.CU.cal (rd:=ly K) Ao (aF rfl) (fun f cdv A outer s H E hr=>
 (aj (aD (aU (w9 rfl) (by rfl) T.z_all V1 (aa (bE (N:=["work","wanted"]) (mp:=[none,some 0]) rfl ⟨rfl,by decide +kernel,by rfl,rfl,by rfl⟩ (bX (pv 1)) (fun _ _ _ _ _ _=>(aC (i:=0) (by show Qk (["work","wanted"]:List PH);decide +kernel) rfl (PU rfl))) (fun _ _ _ _ _ _=>bx) (fun _ _ _ _ _ _=>(rL jW (pv 0) (pv 1) rfl))) ag))))) Bf
theorem yK(T:Txt K mg):ko P w K mg base 2 "common_of" ["wishes","works"] (kL K):=T.CF.cal (rd:=kI K) zR (aF rfl) (fun f cdv A outer s H E hr=>
 (aj (aD (bE (N:=["voter","wanted","works"]) (mp:=[none,none,some 1]) rfl ⟨rfl,by decide +kernel,by rfl,rfl,by rfl⟩ (rN (by rfl) T.eY (pv 0)) (fun _ _ _ _ _ _=>(dO rfl (aR (aC (i:=0) (by show Qk (["voter","wanted","works"]:List PH);decide +kernel) rfl (PU rfl)) (aR (aC (i:=1) (by show Qk (["voter","wanted","works"]:List PH);decide +kernel) rfl (PU rfl)) cY)))) (fun _ _ _ _ _ _=>(gC (Bp (aW (yB T) (hr.mono (by decide)) (aa (pv 1) (aa (pv 2) ag)))))) (fun _ _ _ _ _ _=>(pv 0)))))) Ab
theorem ny(T:Txt K mg):ko P w K mg base 3 "wanters_of" ["wishes","work"] (gq K):=T.Ac.cal (rd:=jN K) yD (aF rfl) (fun f cdv A outer s H E hr=>
 (aj (aD (aW (yK T) (hr.mono (by decide)) (aa (pv 0) (aa (bh (aa (pv 1) ag)) ag)))))) yp
theorem AZ(T:Txt K mg):ko P w K mg base 4 "offer_of" ["purses","wishes","work","price"] (mD K):=T.DM.cal (rd:=mx K) Ca (aF rfl) (fun f cdv A outer s H E hr=>
 (aj (aD (aW (yL T) (hr.mono (by decide)) (aa (bE (N:=["voter","purses"]) (mp:=[none,some 0]) rfl ⟨rfl,by decide +kernel,by rfl,rfl,by rfl⟩ (bX (aW (ny T) (hr.mono (by decide)) (aa (pv 1) (aa (pv 2) ag)))) (fun _ _ _ _ _ _=>(aC (i:=0) (by show Qk (["voter","purses"]:List PH);decide +kernel) rfl (PU rfl))) (fun _ _ _ _ _ _=>bx) (fun _ _ _ _ _ _=>(bj aL (pv 1) (pv 0) (fun _ _=>rfl)))) (aa (pv 3) ag)))))) Df
theorem xN(T:Txt K mg):ko P w K mg base 5 "offers_of" ["purses","costs","wishes","done"] (kj K):=T.CP.cal (rd:=k9 K) hG (aF rfl) (fun f cdv A outer s H E hr=>
 (ah (aM (i:=4) hG.nd rfl (PU rfl) (bh ag))
   (ah (gI Rv rfl (rN (by rfl) T.eY (aW (yO T) (hr.mono (by decide)) (aa (pv 1) (aa (pv 2) ag)))) (dO rfl (aR (aC (i:=5) hG.nd rfl (PU rfl)) (aR (aC (i:=6) hG.nd rfl (PU rfl)) cY))) (aj (bN (jv Ui Tf TM ia (pv 4) (aa (xv (aJ jW (pv 5) (pv 3) rfl) i4 (aW (AZ T) (hr.mono (by decide)) (aa (pv 0) (aa (pv 2) (aa (pv 5) (aa (pv 6) ag)))))) ag)))))
   (aj (aD (pv 4)))))) AQ
theorem BA(T:Txt K mg):ko P w K mg base 1 "next_of" ["offers"] (pL K):=T.GF.cal (rd:=pD K) iC (aF rfl) (fun f cdv A outer s H E hr=>
 (ah (aM (i:=1) iC.nd rfl (PU rfl) i4)
   (ah (gI Rv rfl (rN (by rfl) T.eY (pv 0)) (dO rfl (aR (aC (i:=2) iC.nd rfl (PU rfl)) (aR (aC (i:=3) iC.nd rfl (PU rfl)) cY))) (aj (bH (PW.pt (Eh (aJ FI (pv 3) i4 (bg _)) (Fb (PW.pt (HI (aJ EE (pv 1) i4 (bg _)) (D4 (aJ Eb (pv 3) (bj aL (pv 0) (pv 1) (fun _ _=>rfl)) (bg _)))))))) (aj (aM (i:=1) iC.nd rfl (PU rfl) (pv 2))) a9)))
   (aj (aD (pv 1)))))) ES
theorem Aj(T:Txt K mg):ko P w K mg base 1 "works_of" ["steps"] (mE K):=T.DP.cal (rd:=nB K) BO (aF rfl) (fun f cdv A outer s H E hr=>
 (aj (aD (aU tW (by rfl) T.Cz Xy (aa (bE (N:=["work","level","paid"]) (mp:=[none,none,none]) rfl ⟨rfl,by decide +kernel,by rfl,rfl,by rfl⟩ (bX (pv 0)) (fun _ _ _ _ _ _=>(dO rfl (aR (aC (i:=0) (by show Qk (["work","level","paid"]:List PH);decide +kernel) rfl (PU rfl)) (aR (aC (i:=1) (by show Qk (["work","level","paid"]:List PH);decide +kernel) rfl (PU rfl)) (aR (aC (i:=2) (by show Qk (["work","level","paid"]:List PH);decide +kernel) rfl (PU rfl)) cY))))) (fun _ _ _ _ _ _=>bx) (fun _ _ _ _ _ _=>(pv 0))) ag))))) Bx
theorem CN(T:Txt K mg):ko P w K mg base 1 "paid_at" ["purses","level"] (pY K):=T.Hr.cal (rd:=pZ K) DD (aF rfl) (fun f cdv A outer s H E hr=>
 (aj (aD (bE (N:=["purse","level"]) (mp:=[none,some 1]) rfl ⟨rfl,by decide +kernel,by rfl,rfl,by rfl⟩ (bX (pv 0)) (fun _ _ _ _ _ _=>(aC (i:=0) (by show Qk (["purse","level"]:List PH);decide +kernel) rfl (PU rfl))) (fun _ _ _ _ _ _=>bx) (fun _ _ _ _ _ _=>(aU (GB rfl) (by rfl) T.z_min aaE (aa (pv 0) (aa (pv 1) ag)))))))) Ez
theorem uO(T:Txt K mg):ko P w K mg base 4 "payments_of" ["purses","wishes","work","level"] (iG K):=T.yh.cal (rd:=iZ K) mP (aF rfl) (fun f cdv A outer s H E hr=>
 (ah (aM (i:=4) mP.nd rfl (RX rfl) (aW (ny T) (hr.mono (by decide)) (aa (pv 1) (aa (pv 2) ag))))
   (aj (aD (bE (N:=["voter","paid","wanters"]) (mp:=[none,none,some 4]) rfl ⟨rfl,by decide +kernel,by rfl,rfl,by rfl⟩ (rN (by rfl) T.eY (aW (CN T) (hr.mono (by decide)) (aa (pv 0) (aa (pv 3) ag)))) (fun _ _ _ _ _ _=>(dO rfl (aR (aC (i:=0) (by show Qk (["voter","paid","wanters"]:List PH);decide +kernel) rfl (PU rfl)) (aR (aC (i:=1) (by show Qk (["voter","paid","wanters"]:List PH);decide +kernel) rfl (PU rfl)) cY)))) (fun _ _ _ _ _ _=>bx) (fun _ _ _ _ _ _=>(xv (aJ jW (pv 0) (pv 2) rfl) (pv 1) ar))))))) vd
theorem lW(T:Txt K mg):ko P w K mg base 6 "step_behind" ["purses","costs","wishes","steps"] (d0 K):=T.yy.cal (rd:=i5 K) dX (aF rfl) (fun f cdv A outer s H E hr=>
 (ah (aM (i:=4) dX.nd rfl (PU rfl) (aW (tL T) (hr.mono (by decide)) (aa (pv 0) (aa (pv 3) ag))))
   (ah (aM (i:=5) dX.nd rfl (PU rfl) (aW (xN T) (hr.mono (by decide)) (aa (pv 4) (aa (pv 1) (aa (pv 2) (aa (aW (Aj T) (hr.mono (by decide)) (aa (pv 3) ag)) ag))))))
   (ah (aM (i:=6) dX.nd rfl (PU rfl) (aW (BA T) (hr.mono (by decide)) (aa (pv 5) ag)))
   (ah (bH (aJ EE (pv 6) i4 (bg _)) (aj (aD i4)) a9)
   (ah (aM (i:=7) dX.nd rfl (PU rfl) (bj aL (pv 5) (pv 6) (fun _ _=>rfl)))
   (aj (aD (fB (aa (pv 6) (aa (pv 7) (aa (aW (uO T) (hr.mono (by decide)) (aa (pv 4) (aa (pv 2) (aa (pv 6) (aa (pv 7) ag))))) ag)))))))))))) wH
theorem Ec(T:Txt K mg):ko P w K mg base 7 "choose" ["purses","costs","wishes"] (sr K):=T.HN.cal (rd:=sG K) nX (aF rfl) (fun f cdv A outer s H E hr=>
 (ah (aM (i:=3) nX.nd rfl (PU rfl) (bh ag))
   (ah (aM (i:=4) nX.nd rfl (PU rfl) (aW (lW T) (hr.mono (by decide)) (aa (pv 0) (aa (pv 1) (aa (pv 2) (aa (pv 3) ag))))))
   (ah (BQ Rv (aJ FI (pv 4) i4 (bg _)) (ah (bN (jv Ui Tf TM ia (pv 3) (aa (pv 4) ag)))
   (aj (aM (i:=4) nX.nd rfl (PU rfl) (aW (lW T) (hr.mono (by decide)) (aa (pv 0) (aa (pv 1) (aa (pv 2) (aa (pv 3) ag)))))))))
   (aj (aD (pv 3))))))) F8
theorem ml(T:Txt K mg):eL sR P w K mg base 1 "Chest" "keep_coins" ["self","left","grains"] (eA K):=T.pz.cal (rd:=eu K) oA (aF rfl) (fun f cdv A outer s H E hr=>
 (ah (ig (pv 0) (aA dG (aU (vZ rfl) (by rfl) T.z_sum VH (aa (bE (N:=["part","grains"]) (mp:=[none,some 2]) rfl ⟨rfl,by decide +kernel,by rfl,rfl,by rfl⟩ (bX (pv 1)) (fun _ _ _ _ _ _=>(aC (i:=0) (by show Qk (["part","grains"]:List PH);decide +kernel) rfl (PU rfl))) (fun _ _ _ _ _ _=>bx) (fun _ _ _ _ _ _=>(aA br (pv 0) (pv 1)))) ag)) (pv 2)) xH)
   (aj (gJ (pv 0) (HK rfl (by rfl) T.JH (by rfl) T.z_zip (aa (bC (pv 0) rfl) (aa (bE (N:=["part","grains"]) (mp:=[none,some 2]) rfl ⟨rfl,by decide +kernel,by rfl,rfl,by rfl⟩ (bX (pv 1)) (fun _ _ _ _ _ _=>(aC (i:=0) (by show Qk (["part","grains"]:List PH);decide +kernel) rfl (PU rfl))) (fun _ _ _ _ _ _=>bx) (fun _ _ _ _ _ _=>(aA dG (pv 0) (pv 1)))) ag))) rfl)))) (oq T.cls)
theorem ka(T:Txt K mg):eL sR P w K mg base 1 "Chest" "wanted_places" ["self","voter"] (dF K):=T.mf.cal (rd:=dB K) lh (aF rfl) (fun f cdv A outer s H E hr=>
 (aj (aD (uW (bE (N:=["place","work","voter","self"]) (mp:=[none,none,some 1,some 0]) rfl ⟨rfl,by decide +kernel,by rfl,rfl,by rfl⟩ (Ic (by rfl) T.eY (bC (pv 0) rfl)) (fun _ _ _ _ _ _=>(dO rfl (aR (aC (i:=0) (by show Qk (["place","work","voter","self"]:List PH);decide +kernel) rfl (PU rfl)) (aR (aC (i:=1) (by show Qk (["place","work","voter","self"]:List PH);decide +kernel) rfl (PU rfl)) cY)))) (fun _ _ _ _ _ _=>(gC (aJ (J6 hr.units) (fB (aa (pv 2) (aa (pv 1) ag))) (bC (pv 3) rfl) rfl))) (fun _ _ _ _ _ _=>(pv 0))))))) (lu T.cls)
theorem ox(T:Txt K mg):eL sR P w K mg base 1 "Chest" "told_step" ["self","place","paid"] (eU K):=T.rF.cal (rd:=eO K) eN (aF rfl) (fun f cdv A outer s H E hr=>
 (ah (aM (i:=3) eN.nd rfl (PU rfl) (bj aL (dN (DS rfl) (by rfl) T.JR WD (aa (bC (pv 0) rfl) ag)) (pv 1) (fun _ _=>rfl)))
   (ah (vW (nV (i:=4) (N:=["voter","part"]) (mp:=[none,none]) eN.nd rfl (PU rfl) rfl ⟨rfl,by decide +kernel,by rfl,rfl,by rfl⟩ (KO (by rfl) T.z_zip (aa (bC (pv 0) rfl) (aa (pv 2) ag))) (fun _ _ _ _ _ _=>(dO rfl (aR (aC (i:=0) (by show Qk (["voter","part"]:List PH);decide +kernel) rfl (PU rfl)) (aR (aC (i:=1) (by show Qk (["voter","part"]:List PH);decide +kernel) rfl (PU rfl)) cY)))) (fun _ _ _ _ _ _=>(gC (aJ JT (pv 1) ar (bg _)))) (fun _ _ _ _ _ _=>(fB (aa (pv 0) (aa (pv 1) ag)))) (by with_unfolding_all rfl)))
   (aj (aD (fB (aa (pv 3) (aa (EW (xB hr) (bC (pv 0) rfl) (pv 3) (fun _ _=>rfl)) (aa (pv 4) ag))))))))) (pE T.cls)
theorem dY(T:Txt K mg):eL (eC P w base) P w K mg base 1 "Chest" "check_work" ["self","work"] (cM K):=T.pK.calX (rd:=eB K) ow (fun _ _ _ _ h=>h.1) (fun f cdv A outer s H E hr=>
 (aj (bH (DL (zM (xB hr) (pv 1) (bC (pv 0) rfl))) (aj (c8 T.kb (aa (dk (.cons ay (.cons (gX (pv 1)) .nil))) ag))) a9))) (oo T.cls)
theorem iQ(T:Txt K mg):eL (eC P w base) P w K mg base 2 "Chest" "withdraw" ["self","work"] (dP K):=T.sU.calX (rd:=fk K) qK (fun _ _ _ _ h=>h.1) (fun f cdv A outer s H E hr=>
 (ah (bN (cV (dY T) T.bI (hr.mono (by decide)) (pv 0) (aa (pv 1) ag)))
   (ah (PS.nox (bN (C6 (bC (pv 0) rfl) (pv 1) ⟨rfl,rfl,rfl,rfl⟩)))
   (aj (PS.nox (gJ (pv 0) (bE (N:=["voter","other","work"]) (mp:=[none,none,some 1]) rfl ⟨rfl,by decide +kernel,by rfl,rfl,by rfl⟩ (bX (bC (pv 0) rfl)) (fun _ _ _ _ _ _=>(dO rfl (aR (aC (i:=0) (by show Qk (["voter","other","work"]:List PH);decide +kernel) rfl (PU rfl)) (aR (aC (i:=1) (by show Qk (["voter","other","work"]:List PH);decide +kernel) rfl (PU rfl)) cY)))) (fun _ _ _ _ _ _=>(gC (aJ Ft (pv 1) (pv 2) (bg _)))) (fun _ _ _ _ _ _=>(fB (aa (pv 0) (aa (pv 1) ag))))) rfl)))))) (qF T.cls)
theorem uM(T:Txt K mg):eL sR P w K mg base 8 "Chest" "close" ["self"] (iO K):=T.yq.cal (rd:=je K) cn (aF rfl) (fun f cdv A outer s H E hr=>
 (ah (bH (PW.pt (HI (sD (Dm (bC (pv 0) rfl))) (D4 (sD (Dm (bC (pv 0) rfl)))))) (aj (aD (fB (aa (bh ag) (aa ar ag))))) a9)
   (ah (aM (i:=1) cn.nd rfl (RX rfl) (aW (oM T) (hr.mono (by decide)) (aa (aU iL (by rfl) T.z_len QZ (aa (bC (pv 0) rfl) ag)) (aa (aU iL (by rfl) T.z_len QZ (aa (bC (pv 0) rfl) ag)) ag))))
   (ah (vW (nV (i:=2) (N:=["purse","grains"]) (mp:=[none,some 1]) cn.nd rfl (PU rfl) rfl ⟨rfl,by decide +kernel,by rfl,rfl,by rfl⟩ (Kl (bC (pv 0) rfl)) (fun _ _ _ _ _ _=>(aC (i:=0) (by show Qk (["purse","grains"]:List PH);decide +kernel) rfl (PU rfl))) (fun _ _ _ _ _ _=>bx) (fun _ _ _ _ _ _=>(aA jB (pv 0) (pv 1))) (by with_unfolding_all rfl)))
   (ah (vW (nV (i:=3) (N:=["voter","self"]) (mp:=[none,some 0]) cn.nd rfl (PU rfl) rfl ⟨rfl,by decide +kernel,by rfl,rfl,by rfl⟩ (E5 (bC (pv 0) rfl)) (fun _ _ _ _ _ _=>(aC (i:=0) (by show Qk (["voter","self"]:List PH);decide +kernel) rfl (PU rfl))) (fun _ _ _ _ _ _=>bx) (fun _ _ _ _ _ _=>(rB (ka T) T.bI (hr.mono (by decide)) (pv 1) (aa (pv 0) ag))) (by with_unfolding_all rfl)))
   (ah (aM (i:=4) cn.nd rfl (PU rfl) (aW (Ec T) (hr.mono (by decide)) (aa (pv 2) (aa (dN (A3 rfl) (by rfl) T.JR WD (aa (Dx UJ UR Yz KG (bC (pv 0) rfl)) ag)) (aa (pv 3) ag)))))
   (ah (nV (i:=5) (N:=["work","level","paid","self"]) (mp:=[none,none,none,some 0]) cn.nd rfl (PU rfl) rfl ⟨rfl,by decide +kernel,by rfl,rfl,by rfl⟩ (bX (pv 4)) (fun _ _ _ _ _ _=>(dO rfl (aR (aC (i:=0) (by show Qk (["work","level","paid","self"]:List PH);decide +kernel) rfl (PU rfl)) (aR (aC (i:=1) (by show Qk (["work","level","paid","self"]:List PH);decide +kernel) rfl (PU rfl)) (aR (aC (i:=2) (by show Qk (["work","level","paid","self"]:List PH);decide +kernel) rfl (PU rfl)) cY))))) (fun _ _ _ _ _ _=>bx) (fun _ _ _ _ _ _=>(rB (ox T) T.bI (hr.mono (by decide)) (pv 3) (aa (pv 0) (aa (pv 2) ag)))) (by with_unfolding_all rfl))
   (ah (bN (rB (ml T) T.bI (hr.mono (by decide)) (pv 0) (aa (aW (tL T) (hr.mono (by decide)) (aa (pv 2) (aa (pv 4) ag))) (aa (pv 1) ag))))
   (ah (gI Rv rfl (bX (pv 5)) (dO rfl (aR (aC (i:=6) cn.nd rfl (PU rfl)) (aR (aC (i:=7) cn.nd rfl (PU rfl)) (aR (aC (i:=8) cn.nd rfl (PU rfl)) cY)))) (ah (ig (pv 0) (pv 7) xH)
   (aj (bN (Jy (iQ T) T.bI (hr.mono (by decide)) (pv 0) (aa (pv 6) ag))))))
   (aj (aD (fB (aa (pv 5) (aa (pv 1) ag)))))))))))))) (xA T.cls)
theorem yr(T:Txt K mg):ko P w K mg base 1 "paid_text" ["rows"] (lz K):=T.C4.cal (rd:=kP K) Am (aF rfl) (fun f cdv A outer s H E hr=>
 (aj (aD (jv RN Sr SX kE ay (aa (bE (N:=["voter","paid"]) (mp:=[none,none]) rfl ⟨rfl,by decide +kernel,by rfl,rfl,by rfl⟩ (bX (pv 0)) (fun _ _ _ _ _ _=>(dO rfl (aR (aC (i:=0) (by show Qk (["voter","paid"]:List PH);decide +kernel) rfl (PU rfl)) (aR (aC (i:=1) (by show Qk (["voter","paid"]:List PH);decide +kernel) rfl (PU rfl)) cY)))) (fun _ _ _ _ _ _=>bx) (fun _ _ _ _ _ _=>(dk (.cons (kh (pv 0)) (.cons ay (.cons (pF (pv 1)) .nil)))))) ag))))) Ak
theorem ya(T:Txt K mg):ko P w K mg base 2 "done_text" ["work","cost","rows"] (kK K):=T.C9.cal (rd:=kJ K) qq (aF rfl) (fun f cdv A outer s H E hr=>
 (ah (aM (i:=3) qq.nd rfl (PU rfl) (aW (yr T) (hr.mono (by decide)) (aa (pv 2) ag)))
   (aj (aD (dk (.cons (kh (pv 0)) (.cons ay (.cons (pF (pv 1)) (.cons ay (.cons (kh (pv 3)) .nil)))))))))) Ah
theorem rW(T:Txt K mg):ko P w K mg base 3 "closing_text" ["done","grains"] (gO K):=T.xx.cal (rd:=gN K) lY (aF rfl) (fun f cdv A outer s H E hr=>
 (ah (bH (sD (EB (pv 0))) (aj (aD ay)) a9)
   (ah (aM (i:=2) lY.nd rfl (PU rfl) (jv RN Sr SX kE ay (aa (bE (N:=["work","cost","rows"]) (mp:=[none,none,none]) rfl ⟨rfl,by decide +kernel,by rfl,rfl,by rfl⟩ (bX (pv 0)) (fun _ _ _ _ _ _=>(dO rfl (aR (aC (i:=0) (by show Qk (["work","cost","rows"]:List PH);decide +kernel) rfl (PU rfl)) (aR (aC (i:=1) (by show Qk (["work","cost","rows"]:List PH);decide +kernel) rfl (PU rfl)) (aR (aC (i:=2) (by show Qk (["work","cost","rows"]:List PH);decide +kernel) rfl (PU rfl)) cY))))) (fun _ _ _ _ _ _=>bx) (fun _ _ _ _ _ _=>(aW (ya T) (hr.mono (by decide)) (aa (pv 0) (aa (pv 1) (aa (pv 2) ag)))))) ag)))
   (aj (aD (dk (.cons (kh (pv 2)) (.cons ay (.cons (pF (pv 1)) .nil))))))))) um
theorem ue(T:Txt K mg):ko P w K mg base 9 "close_chest" ["chest"] (iS K):=T.ym.cal (rd:=iH K) nN (aF rfl) (fun f cdv A outer s H E hr=>
 (ah (aM (i:=1) nN.nd rfl (PU rfl) (mJ (uM T) T.bI (hr.mono (by decide)) (pv 0)))
   (aj (aD (aW (rW T) (hr.mono (by decide)) (aa (bj HE (pv 1) ar (fun _ _=>rfl)) (aa (bj HE (pv 1) ar (fun _ _=>rfl)) ag))))))) vS
theorem yv(T:Txt K mg):ko P w K mg base 1 "work_text" ["work","cost","wanters"] (kB K):=T.Co.cal (rd:=kq K) qT (aF rfl) (fun f cdv A outer s H E hr=>
 (ah (aM (i:=3) qT.nd rfl (PU rfl) (xv (EB (pv 2)) (jv RN Sr SX kE ay (aa (pv 2) ag)) ay))
   (aj (aD (dk (.cons (kh (pv 0)) (.cons ay (.cons (pF (pv 1)) (.cons ay (.cons (kh (pv 3)) .nil)))))))))) Bl
theorem u3(T:Txt K mg):ko P w K mg base 2 "works_text" ["works"] (jD K):=T.A6.cal (rd:=jK K) yE (aF rfl) (fun f cdv A outer s H E hr=>
 (ah (bH (sD (EB (pv 0))) (aj (aD ay)) a9)
   (aj (aD (jv RN Sr SX kE ay (aa (bE (N:=["work","cost","wanters"]) (mp:=[none,none,none]) rfl ⟨rfl,by decide +kernel,by rfl,rfl,by rfl⟩ (bX (pv 0)) (fun _ _ _ _ _ _=>(dO rfl (aR (aC (i:=0) (by show Qk (["work","cost","wanters"]:List PH);decide +kernel) rfl (PU rfl)) (aR (aC (i:=1) (by show Qk (["work","cost","wanters"]:List PH);decide +kernel) rfl (PU rfl)) (aR (aC (i:=2) (by show Qk (["work","cost","wanters"]:List PH);decide +kernel) rfl (PU rfl)) cY))))) (fun _ _ _ _ _ _=>bx) (fun _ _ _ _ _ _=>(aW (yv T) (hr.mono (by decide)) (aa (pv 0) (aa (pv 1) (aa (pv 2) ag)))))) ag)))))) yN
theorem rO(T:Txt K mg):eL sR P w K mg base 1 "Chest" "wanters" ["self","work"] (gb K):=T.uw.cal (rd:=fW K) rV (aF rfl) (fun f cdv A outer s H E hr=>
 (aj (aD (uW (bE (N:=["voter","work","self"]) (mp:=[none,some 1,some 0]) rfl ⟨rfl,by decide +kernel,by rfl,rfl,by rfl⟩ (E5 (bC (pv 0) rfl)) (fun _ _ _ _ _ _=>(aC (i:=0) (by show Qk (["voter","work","self"]:List PH);decide +kernel) rfl (PU rfl))) (fun _ _ _ _ _ _=>(gC (aJ (J6 hr.units) (fB (aa (pv 0) (aa (pv 1) ag))) (bC (pv 2) rfl) rfl))) (fun _ _ _ _ _ _=>(pv 0))))))) (rY T.cls)
theorem uo(T:Txt K mg):eL sR P w K mg base 2 "Chest" "works" ["self"] (iq K):=T.xP.cal (rd:=iP K) wM (aF rfl) (fun f cdv A outer s H E hr=>
 (aj (aD (uW (bE (N:=["work","cost","self"]) (mp:=[none,none,some 0]) rfl ⟨rfl,by decide +kernel,by rfl,rfl,by rfl⟩ (CK (bC (pv 0) rfl)) (fun _ _ _ _ _ _=>(dO rfl (aR (aC (i:=0) (by show Qk (["work","cost","self"]:List PH);decide +kernel) rfl (PU rfl)) (aR (aC (i:=1) (by show Qk (["work","cost","self"]:List PH);decide +kernel) rfl (PU rfl)) cY)))) (fun _ _ _ _ _ _=>bx) (fun _ _ _ _ _ _=>(fB (aa (pv 0) (aa (pv 1) (aa (rB (rO T) T.bI (hr.mono (by decide)) (pv 2) (aa (pv 0) ag)) ag)))))))))) (wj T.cls)
theorem yg(T:Txt K mg):eL sR P w K mg base 1 "Chest" "pot" ["self"] (lI K):=T.CC.cal (rd:=kr K) zU (aF rfl) (fun f cdv A outer s H E hr=>
 (aj (aD (bC (pv 0) rfl)))) (AW T.cls)
theorem ua(T:Txt K mg):eL sR P w K mg base 1 "Chest" "given" ["self"] (jc K):=T.yj.cal (rd:=i7 K) vY (aF rfl) (fun f cdv A outer s H E hr=>
 (aj (aD (bC (pv 0) rfl)))) (vt T.cls)
theorem uE(T:Txt K mg):eL sR P w K mg base 1 "Chest" "spent" ["self"] (ja K):=T.yt.cal (rd:=jg K) xg (aF rfl) (fun f cdv A outer s H E hr=>
 (aj (aD (bC (pv 0) rfl)))) (vb T.cls)
theorem C3(T:Txt K mg):xJ P w K mg base 10 "say_one" ["chest","deed"] (pA K):=T.Gs.calX (rd:=pQ K) DE (fun _ _ _ _ h=>h.1) (fun f cdv A outer s H E hr=>
 (ah (PS.nox (bH (aJ dc (pv 1) ay (bg _)) (aj (PS.nox (aD (aW (ue T) (hr.mono (by decide)) (aa (pv 0) ag))))) a9))
   (ah (PS.nox (bH (aJ dc (pv 1) ay (bg _)) (aj (PS.nox (aD (aW (u3 T) (hr.mono (by decide)) (aa (mJ (uo T) T.bI (hr.mono (by decide)) (pv 0)) ag))))) a9))
   (ah (PS.nox (bH (aJ dc (pv 1) ay (bg _)) (aj (PS.nox (aD (dN il (by rfl) T.z_str Ti (aa (mJ (yg T) T.bI (hr.mono (by decide)) (pv 0)) ag))))) a9))
   (ah (PS.nox (bH (aJ dc (pv 1) ay (bg _)) (aj (PS.nox (aD (dN il (by rfl) T.z_str Ti (aa (mJ (ua T) T.bI (hr.mono (by decide)) (pv 0)) ag))))) a9))
   (ah (PS.nox (bH (aJ dc (pv 1) ay (bg _)) (aj (PS.nox (aD (dN il (by rfl) T.z_str Ti (aa (mJ (uE T) T.bI (hr.mono (by decide)) (pv 0)) ag))))) a9))
   (aj (c8 T.ff (aa (dk (.cons ay (.cons (gX (pv 1)) .nil))) ag))))))))) En
theorem CL(T:Txt K mg):ko P w K mg base 1 "is_name" ["name"] (pJ K):=T.GN.cal (rd:=pI K) El (aF rfl) (fun f cdv A outer s H E hr=>
 (aj (aD (Kc (CD Bh Bh ar (aU oi (by rfl) T.z_len QZ (aa (pv 0) ag)) (T.vx.pe (by rfl))) (Ik (aU (w9 rfl) (by rfl) T.z_all V1 (aa (bE (N:=["sign"]) (mp:=[none]) rfl ⟨rfl,by decide +kernel,by rfl,rfl,by rfl⟩ (Fp (pv 0)) (fun _ _ _ _ _ _=>(aC (i:=0) (by show Qk (["sign"]:List PH);decide +kernel) rfl (PU rfl))) (fun _ _ _ _ _ _=>bx) (fun _ _ _ _ _ _=>(rL IQ (pv 0) (T.GY.pe (by rfl)) rfl))) ag))))))) Ep
theorem iK(T:Txt K mg):xJ P w K mg base 2 "check_new_name" ["name","names"] (dR K):=T.si.calX (rd:=fF K) qo (fun _ _ _ _ h=>h.1) (fun f cdv A outer s H E hr=>
 (ah (bH (sD (Bp (aW (CL T) (hr.mono (by decide)) (aa (pv 0) ag)))) (aj (c8 T.j8 (aa (dk (.cons ay (.cons (gX (pv 0)) .nil))) ag))) a9)
   (aj (bH (DL (M7 (xB hr) (pv 0) (pv 1))) (aj (c8 T.nU (aa (dk (.cons ay (.cons (kh (pv 0)) .nil))) ag))) a9)))) qJ
theorem lZ(T:Txt K mg):xJ P w K mg base 1 "check_place" ["names","most"] (fH K):=T.yn.calX (rd:=ir K) vc (fun _ _ _ _ h=>h.1) (fun f cdv A outer s H E hr=>
 (aj (bH (aJ Kg (aU iL (by rfl) T.z_len QZ (aa (pv 0) ag)) (pv 1) (bg _)) (aj (c8 T.sE (aa (dk (.cons ay (.cons (pF (pv 1)) (.cons ay .nil)))) ag))) a9))) xc
theorem uF(T:Txt K mg):eL (eC P w base) P w K mg base 3 "Chest" "enrol" ["self","name"] (i9 K):=T.xO.calX (rd:=iR K) vO (fun _ _ _ _ h=>h.1) (fun f cdv A outer s H E hr=>
 (ah (bN (eI (iK T) (hr.mono (by decide)) (aa (pv 1) (aa (bC (pv 0) rfl) ag))))
   (ah (bN (eI (lZ T) (hr.mono (by decide)) (aa (bC (pv 0) rfl) (aa (T.xQ.pe (by rfl)) ag))))
   (aj (PS.nox (E4 (xB hr) (bC (pv 0) rfl) (pv 1) ar rfl)))))) (vK T.cls)
theorem cX(T:Txt K mg):eL (eC P w base) P w K mg base 1 "Chest" "check_voter" ["self","voter"] (cg K):=T.oz.calX (rd:=d5 K) mj (fun _ _ _ _ h=>h.1) (fun f cdv A outer s H E hr=>
 (aj (bH (DL (zM (xB hr) (pv 1) (bC (pv 0) rfl))) (aj (c8 T.ib (aa (dk (.cons ay (.cons (gX (pv 1)) .nil))) ag))) a9))) (mI T.cls)
theorem pP(T:Txt K mg):eL (eC P w base) P w K mg base 2 "Chest" "purse_of" ["self","voter"] (fK K):=T.sW.calX (rd:=fG K) qI (fun _ _ _ _ h=>h.1) (fun f cdv A outer s H E hr=>
 (ah (bN (cV (cX T) T.bI (hr.mono (by decide)) (pv 0) (aa (pv 1) ag)))
   (aj (PS.nox (aD (EW (xB hr) (bC (pv 0) rfl) (pv 1) (fun _ _=>rfl))))))) (qk T.cls)
theorem ug(T:Txt K mg):eL (eC P w base) P w K mg base 2 "Chest" "leave" ["self","name"] (iu K):=T.yu.calX (rd:=i0 K) va (fun _ _ _ _ h=>h.1) (fun f cdv A outer s H E hr=>
 (ah (bN (cV (cX T) T.bI (hr.mono (by decide)) (pv 0) (aa (pv 1) ag)))
   (ah (PS.nox (ig (pv 0) (C6 (bC (pv 0) rfl) (pv 1) ⟨rfl,rfl,rfl,rfl⟩) xH))
   (aj (PS.nox (gJ (pv 0) (bE (N:=["voter","work","name"]) (mp:=[none,none,some 1]) rfl ⟨rfl,by decide +kernel,by rfl,rfl,by rfl⟩ (bX (bC (pv 0) rfl)) (fun _ _ _ _ _ _=>(dO rfl (aR (aC (i:=0) (by show Qk (["voter","work","name"]:List PH);decide +kernel) rfl (PU rfl)) (aR (aC (i:=1) (by show Qk (["voter","work","name"]:List PH);decide +kernel) rfl (PU rfl)) cY)))) (fun _ _ _ _ _ _=>(gC (aJ Ft (pv 0) (pv 2) (bg _)))) (fun _ _ _ _ _ _=>(fB (aa (pv 0) (aa (pv 1) ag))))) rfl)))))) (wQ T.cls)
theorem lV(T:Txt K mg):xJ P w K mg base 1 "check_coins" ["coins","least"] (fv K):=T.xT.calX (rd:=jf K) wb (fun _ _ _ _ h=>h.1) (fun f cdv A outer s H E hr=>
 (aj (bH (PW.pt (HI (aJ Eb (pv 0) (pv 1) (bg _)) (D4 (aJ JT (pv 0) (T.mG.pe (by rfl)) (bg _))))) (aj (c8 T.ik (aa (dk (.cons ay (.cons (pF (pv 1)) (.cons ay (.cons (pF (T.mG.pe (by rfl))) (.cons ay .nil)))))) ag))) a9))) vX
theorem uA(T:Txt K mg):eL sR P w K mg base 1 "Chest" "share" ["self","part"] (iF K):=T.yl.cal (rd:=jb K) wx (aF rfl) (fun f cdv A outer s H E hr=>
 (ah (ig (pv 0) (aA jB (pv 1) (aU iL (by rfl) T.z_len QZ (aa (bC (pv 0) rfl) ag))) Nh)
   (aj (gJ (pv 0) (dN (D8 rfl) (by rfl) T.JH (by decide +kernel) (aa (uW (bE (N:=["voter","purse","part"]) (mp:=[none,none,some 1]) rfl ⟨rfl,by decide +kernel,by rfl,rfl,by rfl⟩ (CK (bC (pv 0) rfl)) (fun _ _ _ _ _ _=>(dO rfl (aR (aC (i:=0) (by show Qk (["voter","purse","part"]:List PH);decide +kernel) rfl (PU rfl)) (aR (aC (i:=1) (by show Qk (["voter","purse","part"]:List PH);decide +kernel) rfl (PU rfl)) cY)))) (fun _ _ _ _ _ _=>bx) (fun _ _ _ _ _ _=>(fB (aa (pv 0) (aa (aA cJ (pv 1) (pv 2)) ag)))))) ag)) rfl)))) (vI T.cls)
theorem vB(T:Txt K mg):eL (eC P w base) P w K mg base 2 "Chest" "give" ["self","coins"] (jG K):=T.Ad.calX (rd:=jJ K) x6 (fun _ _ _ _ h=>h.1) (fun f cdv A outer s H E hr=>
 (ah (bN (eI (lV T) (hr.mono (by decide)) (aa (pv 1) (aa ar ag))))
   (ah (PS.nox (ig (pv 0) (pv 1) xH))
   (ah (PS.nox (ig (pv 0) (pv 1) xH))
   (aj (PS.nox (bH (Dm (bC (pv 0) rfl)) (aj (PS.nox (bN (rB (uA T) T.bI (hr.mono (by decide)) (pv 0) (aa (aA dG (bC (pv 0) rfl) (aU iL (by rfl) T.z_len QZ (aa (bC (pv 0) rfl) ag))) ag))))) a9))))))) (yf T.cls)
theorem xX(T:Txt K mg):ko P w K mg base 1 "is_number" ["word"] (kC K):=T.BH.cal (rd:=kU K) A0 (aF rfl) (fun f cdv A outer s H E hr=>
 (ah (bH (Bp (jv RN YN ZW yi (pv 0) (aa ay ag))) (aj (aD (rL dc (pv 0) ay (bg _)))) a9)
   (aj (aD (Kc (CD Bh Bh ar (aU oi (by rfl) T.z_len QZ (aa (pv 0) ag)) (T.vL.pe (by rfl))) (Ik (aU (w9 rfl) (by rfl) T.z_all V1 (aa (bE (N:=["sign"]) (mp:=[none]) rfl ⟨rfl,by decide +kernel,by rfl,rfl,by rfl⟩ (Fp (pv 0)) (fun _ _ _ _ _ _=>(aC (i:=0) (by show Qk (["sign"]:List PH);decide +kernel) rfl (PU rfl))) (fun _ _ _ _ _ _=>bx) (fun _ _ _ _ _ _=>(rL IQ (pv 0) (T.Gf.pe (by rfl)) rfl))) ag)))))))) Aw
theorem lS(T:Txt K mg):xJ P w K mg base 2 "read_number" ["word"] (fJ K):=T.yJ.calX (rd:=iY K) xj (fun _ _ _ _ h=>h.1) (fun f cdv A outer s H E hr=>
 (ah (bH (sD (Bp (aW (xX T) (hr.mono (by decide)) (aa (pv 0) ag)))) (aj (c8 T.ff (aa (dk (.cons ay (.cons (gX (pv 0)) .nil))) ag))) a9)
   (aj (PS.nox (aD (dN GX (by rfl) T.z_int Zy (aa (pv 0) ag))))))) vD
theorem Dd(T:Txt K mg):xJ P w K mg base 4 "say_two" ["chest","deed","word"] (pN K):=T.Hv.calX (rd:=pS K) DW (fun _ _ _ _ h=>h.1) (fun f cdv A outer s H E hr=>
 (ah (bH (aJ dc (pv 1) ay (bg _)) (aj (aD (dN il (by rfl) T.z_str Ti (aa (cV (pP T) T.bI (hr.mono (by decide)) (pv 0) (aa (pv 2) ag)) ag)))) a9)
   (ah (bH (aJ dc (pv 1) ay (bg _)) (aj (bN (cV (uF T) T.bI (hr.mono (by decide)) (pv 0) (aa (pv 2) ag)))) (aj (bH (aJ dc (pv 1) ay (bg _)) (aj (bN (cV (ug T) T.bI (hr.mono (by decide)) (pv 0) (aa (pv 2) ag)))) (aj (bH (aJ dc (pv 1) ay (bg _)) (aj (bN (cV (vB T) T.bI (hr.mono (by decide)) (pv 0) (aa (eI (lS T) (hr.mono (by decide)) (aa (pv 2) ag)) ag)))) (aj (bH (aJ dc (pv 1) ay (bg _)) (aj (bN (cV (iQ T) T.bI (hr.mono (by decide)) (pv 0) (aa (pv 2) ag)))) (aj (c8 T.ff (aa (dk (.cons ay (.cons (gX (pv 1)) .nil))) ag))))))))))
   (aj (PS.nox (aD ay)))))) EH
theorem ql(T:Txt K mg):eL (eC P w base) P w K mg base 3 "Chest" "propose" ["self","work","cost"] (gm K):=T.ud.calX (rd:=gg K) sq (fun _ _ _ _ h=>h.1) (fun f cdv A outer s H E hr=>
 (ah (bN (eI (iK T) (hr.mono (by decide)) (aa (pv 1) (aa (bC (pv 0) rfl) ag))))
   (ah (bN (eI (lV T) (hr.mono (by decide)) (aa (pv 2) (aa ar ag))))
   (ah (bN (eI (lZ T) (hr.mono (by decide)) (aa (bC (pv 0) rfl) (aa (T.AL.pe (by rfl)) ag))))
   (aj (PS.nox (E4 (xB hr) (bC (pv 0) rfl) (pv 1) (pv 2) rfl))))))) (sM T.cls)
theorem vm(T:Txt K mg):eL (eC P w base) P w K mg base 2 "Chest" "want" ["self","voter","work"] (jF K):=T.AJ.calX (rd:=jT K) xM (fun _ _ _ _ h=>h.1) (fun f cdv A outer s H E hr=>
 (ah (bN (cV (cX T) T.bI (hr.mono (by decide)) (pv 0) (aa (pv 1) ag)))
   (ah (bN (cV (dY T) T.bI (hr.mono (by decide)) (pv 0) (aa (pv 2) ag)))
   (aj (PS.nox (bH (aJ (KJ hr.units) (fB (aa (pv 1) (aa (pv 2) ag))) (bC (pv 0) rfl) rfl) (aj (PS.nox (bN (jv Ui Tf TM ia (bC (pv 0) rfl) (aa (fB (aa (pv 1) (aa (pv 2) ag))) ag))))) a9)))))) (yI T.cls)
theorem sI(T:Txt K mg):eL (eC P w base) P w K mg base 2 "Chest" "unwant" ["self","voter","work"] (gG K):=T.wq.calX (rd:=gM K) uN (fun _ _ _ _ h=>h.1) (fun f cdv A outer s H E hr=>
 (ah (bN (cV (cX T) T.bI (hr.mono (by decide)) (pv 0) (aa (pv 1) ag)))
   (ah (bN (cV (dY T) T.bI (hr.mono (by decide)) (pv 0) (aa (pv 2) ag)))
   (aj (PS.nox (gJ (pv 0) (bE (N:=["wish","voter","work"]) (mp:=[none,some 1,some 2]) rfl ⟨rfl,by decide +kernel,by rfl,rfl,by rfl⟩ (bX (bC (pv 0) rfl)) (fun _ _ _ _ _ _=>(aC (i:=0) (by show Qk (["wish","voter","work"]:List PH);decide +kernel) rfl (PU rfl))) (fun _ _ _ _ _ _=>(gC (aJ (iy hr.units) (pv 0) (fB (aa (pv 1) (aa (pv 2) ag))) (bg _)))) (fun _ _ _ _ _ _=>(pv 0))) rfl)))))) (uh T.cls)
theorem yH(T:Txt K mg):xJ P w K mg base 4 "say_three" ["chest","deed","word","last"] (lE K):=T.Cv.calX (rd:=kS K) An (fun _ _ _ _ h=>h.1) (fun f cdv A outer s H E hr=>
 (ah (bH (aJ dc (pv 1) ay (bg _)) (aj (bN (cV (ql T) T.bI (hr.mono (by decide)) (pv 0) (aa (pv 2) (aa (eI (lS T) (hr.mono (by decide)) (aa (pv 3) ag)) ag))))) (aj (bH (aJ dc (pv 1) ay (bg _)) (aj (bN (cV (vm T) T.bI (hr.mono (by decide)) (pv 0) (aa (pv 2) (aa (pv 3) ag))))) (aj (bH (aJ dc (pv 1) ay (bg _)) (aj (bN (cV (sI T) T.bI (hr.mono (by decide)) (pv 0) (aa (pv 2) (aa (pv 3) ag))))) (aj (c8 T.ff (aa (dk (.cons ay (.cons (gX (pv 1)) .nil))) ag))))))))
   (aj (PS.nox (aD ay))))) Al
theorem Bc(T:Txt K mg):eL (eC P w base) P w K mg base 11 "Desk" "say" ["self","row"] (jq K):=T.Dt.calX (rd:=nR K) tq (fun _ _ _ _ h=>h.1) (fun f cdv A outer s H E hr=>
 (ah (aM (i:=2) tq.nd rfl (PU rfl) (eI (u9 T) (hr.mono (by decide)) (aa (pv 1) ag)))
   (ah (bH (aJ dc (aU bT (by rfl) T.z_len QZ (aa (pv 2) ag)) ar (bg _)) (aj (aD (eI (C3 T) (hr.mono (by decide)) (aa (bC (pv 0) rfl) (aa (bj aL (pv 2) ar (fun _ _=>rfl)) ag))))) a9)
   (ah (bH (aJ dc (aU bT (by rfl) T.z_len QZ (aa (pv 2) ag)) ar (bg _)) (aj (aD (eI (Dd T) (hr.mono (by decide)) (aa (bC (pv 0) rfl) (aa (bj aL (pv 2) ar (fun _ _=>rfl)) (aa (bj aL (pv 2) ar (fun _ _=>rfl)) ag)))))) a9)
   (ah (bH (aJ dc (aU bT (by rfl) T.z_len QZ (aa (pv 2) ag)) ar (bg _)) (aj (aD (eI (yH T) (hr.mono (by decide)) (aa (bC (pv 0) rfl) (aa (bj aL (pv 2) ar (fun _ _=>rfl)) (aa (bj aL (pv 2) ar (fun _ _=>rfl)) (aa (bj aL (pv 2) ar (fun _ _=>rfl)) ag))))))) a9)
   (aj (c8 T.ff (aa (dk (.cons ay (.cons (gX (pv 1)) .nil))) ag)))))))) (Cs T.cls)
theorem de(T:Txt K mg):ko P w K mg base 12 "_law_said" ["desk","row"] (cP K):=T.BB.cal (rd:=kg K) dC (aF rfl) (fun f cdv A outer s H E hr=>
 (ah (aM (i:=2) dC.nd rfl (PU rfl) i4)
   (ah (aM (i:=3) dC.nd rfl (PU rfl) i4)
   (ah (G8 (i:=4) (j:=3) rfl rfl (fun b=>(Rb:b∉([]:List PK))) rfl dC.nd rfl rfl rfl (by rfl) T.k7.bound (fun E=>(Ko (E:=E) (Bc T) T.rU (hr.mono (by decide)) (fun b=>(Rb:b∉([]:List PK))) (pv 0) (aa (pv 1) ag))) (fun v=>(aj (aM (i:=2) dC.nd rfl (PU rfl) (pv 4)))))
   (ah (bH (aJ EE (pv 2) i4 (bg _)) (aj (aD (pv 3))) a9)
   (ah (aM (i:=5) dC.nd rfl (PU rfl) (bh (aa (aU cO (by rfl) T.cN Sf (aa (pv 2) (aa (nO T.ff) ag))) (aa (aU cO (by rfl) T.cN Sf (aa (pv 2) (aa (nO T.ib) ag))) (aa (aU cO (by rfl) T.cN Sf (aa (pv 2) (aa (Lk (by rfl) T.Au (by first|rfl|decide +kernel) rfl) ag))) ag)))))
   (ah (aM (i:=5) dC.nd rfl (PU rfl) (aA c6 (pv 5) (bh (aa (aU cO (by rfl) T.cN Sf (aa (pv 2) (aa (nO T.j8) ag))) (aa (aU cO (by rfl) T.cN Sf (aa (pv 2) (aa (nO T.nU) ag))) (aa (aU cO (by rfl) T.cN Sf (aa (pv 2) (aa (nO T.kb) ag))) ag))))))
   (aj (aD (aA c6 (pv 5) (bh (aa (aU cO (by rfl) T.cN Sf (aa (pv 2) (aa (nO T.ik) ag))) (aa (aU cO (by rfl) T.cN Sf (aa (pv 2) (aa (nO T.sE) ag))) (aa (aU cO (by rfl) T.cN Sf (aa (pv 2) (aa (nO T.sj) ag))) ag)))))))))))))) (Bj T.cls)
theorem oX(T:Txt K mg):ko P w K mg base 13 "_law_look" ["desk","names"] (gY K):=T.BY.cal (rd:=kx K) rf (aF rfl) (fun f cdv A outer s H E hr=>
 (ah (aM (i:=2) rf.nd rfl (PU rfl) (aA c6 (bE (N:=["name"]) (mp:=[none]) rfl ⟨rfl,by decide +kernel,by rfl,rfl,by rfl⟩ (bX (pv 1)) (fun _ _ _ _ _ _=>(aC (i:=0) (by show Qk (["name"]:List PH);decide +kernel) rfl (PU rfl))) (fun _ _ _ _ _ _=>bx) (fun _ _ _ _ _ _=>(aA bY ay (pv 0)))) (bh (aa ay (aa ay (aa ay (aa ay (aa ay (aa ay (aa ay (aa ay ag)))))))))))
   (aj (aD (bE (N:=["row","desk"]) (mp:=[none,some 0]) rfl ⟨rfl,by decide +kernel,by rfl,rfl,by rfl⟩ (bX (pv 2)) (fun _ _ _ _ _ _=>(aC (i:=0) (by show Qk (["row","desk"]:List PH);decide +kernel) rfl (PU rfl))) (fun _ _ _ _ _ _=>bx) (fun _ _ _ _ _ _=>(aW (de T) (hr.mono (by decide)) (aa (pv 1) (aa (pv 0) ag))))))))) Af
theorem gS(T:Txt K mg):ko P w K mg base 1 "_law_good_words" ["xs","names"] (dI K):=T.qX.cal (rd:=eS K) cU (aF rfl) (fun f cdv A outer s H E hr=>
 (ah (aM (i:=2) cU.nd rfl (PU rfl) (bj aL (pv 1) (aA br (bj aL (pv 0) ar (fun _ _=>rfl)) (aU bT (by rfl) T.z_len QZ (aa (pv 1) ag))) (fun _ _=>rfl)))
   (ah (aM (i:=3) cU.nd rfl (PU rfl) (bj aL (pv 1) (aA br (bj aL (pv 0) ar (fun _ _=>rfl)) (aU bT (by rfl) T.z_len QZ (aa (pv 1) ag))) (fun _ _=>rfl)))
   (ah (aM (i:=4) cU.nd rfl (PU rfl) (bh (aa (bh (aa ay (aa (pv 2) ag))) (aa (bh (aa ay (aa (pv 2) ag))) (aa (bh (aa ay (aa ay ag))) (aa (bh (aa ay (aa (pv 2) (aa ay ag)))) (aa (bh (aa ay (aa (pv 2) ag))) (aa (bh (aa ay ag)) ag))))))))
   (ah (aM (i:=4) cU.nd rfl (PU rfl) (aA c6 (pv 4) (bh (aa (bh (aa ay (aa (pv 2) (aa (pv 3) ag)))) (aa (bh (aa ay (aa (pv 2) (aa (pv 3) ag)))) (aa (bh (aa ay (aa (pv 2) ag))) (aa (bh (aa ay ag)) (aa (bh (aa ay ag)) (aa (bh (aa ay ag)) ag)))))))))
   (aj (aD (bj aL (aA c6 (pv 4) (bh (aa (bh (aa ay ag)) ag))) (aA br (bj aL (pv 0) ar (fun _ _=>rfl)) ar) (fun _ _=>rfl))))))))) pj
theorem oE(T:Txt K mg):ko P w K mg base 1 "_law_other_word" ["word","x"] (eR K):=T.qr.cal (rd:=eM K) b7 (aF rfl) (fun f cdv A outer s H E hr=>
 (ah (aM (i:=2) b7.nd rfl (PU rfl) (bh (aa ay (aa ay (aa ay (aa ay (aa ay (aa ay (aa ay ag)))))))))
   (ah (aM (i:=2) b7.nd rfl (PU rfl) (aA c6 (pv 2) (bh (aa ay (aa ay (aa ay (aa ay (aa ay (aa ay ag)))))))))
   (ah (aM (i:=3) b7.nd rfl (PU rfl) (aA br (aA dG (pv 1) ar) (aU oi (by rfl) T.z_len QZ (aa (pv 0) ag))))
   (ah (aM (i:=4) b7.nd rfl (PU rfl) (bh (aa (aA bY (bU iB (pv 0) cK (ck (pv 3))) (bU iB (pv 0) (ck (aA cJ (pv 3) ar)) cK)) (aa (aA bY (aA bY (bU iB (pv 0) cK (ck (pv 3))) (bj ki (pv 0) (pv 3) (fun _ _=>rfl))) (bU iB (pv 0) (ck (pv 3)) cK)) (aa (aA bY (aA bY (bU iB (pv 0) cK (ck (pv 3))) (Dx RN Vu WM Cu (bj ki (pv 0) (pv 3) (fun _ _=>rfl)))) (bU iB (pv 0) (ck (aA cJ (pv 3) ar)) cK)) ag)))))
   (ah (aM (i:=4) b7.nd rfl (PU rfl) (aA c6 (pv 4) (bh (aa (bj aL (bh (aa ay (aa ay (aa ay (aa ay (aa ay (aa ay ag))))))) (aA br (aA dG (pv 1) ar) ar) (fun _ _=>rfl)) (aa (aA bY (pv 0) (bj ki ay (aA br (aA dG (pv 1) ar) ar) (fun _ _=>rfl))) ag)))))
   (ah (aM (i:=5) b7.nd rfl (PU rfl) (bj aL (pv 4) (aA br (pv 1) ar) (fun _ _=>rfl)))
   (ah (bH (aJ jW (pv 5) (pv 2) rfl) (aj (aD ay)) a9)
   (aj (aD (pv 5))))))))))) pR
theorem lR(T:Txt K mg):ko P w K mg base 1 "_law_number" ["x"] (fO K):=T.yF.cal (rd:=iw K) mF (aF rfl) (fun f cdv A outer s H E hr=>
 (ah (aM (i:=1) mF.nd rfl (PU rfl) (bh (aa ay (aa ay (aa ay (aa ay (aa ay (aa ay (aa (aA bY ay (aA D0 ay ar)) (aa ay (aa ay (aa ay (aa ay (aa ay (aa ay (aa ay (aa ay ag)))))))))))))))))
   (aj (aD (bj aL (pv 1) (aA br (pv 0) ar) (fun _ _=>rfl)))))) wo
theorem As(T:Txt K mg):ko P w K mg base 2 "_law_bad" ["xs","names"] (nS K):=T.DU.cal (rd:=nL K) js (aF rfl) (fun f cdv A outer s H E hr=>
 (ah (aM (i:=2) js.nd rfl (PU rfl) (bj aL (pv 1) (aA br (bj aL (pv 0) ar (fun _ _=>rfl)) (aU bT (by rfl) T.z_len QZ (aa (pv 1) ag))) (fun _ _=>rfl)))
   (ah (aM (i:=3) js.nd rfl (PU rfl) (aW (gS T) (hr.mono (by decide)) (aa (pv 0) (aa (pv 1) ag))))
   (ah (aM (i:=4) js.nd rfl (PU rfl) (aA br (bj aL (pv 0) ar (fun _ _=>rfl)) ar))
   (ah (bH (aJ dc (pv 4) ar (bg _)) (aj (aD (aA c6 (pv 3) (bh (aa (bj aL (bh (aa (pv 2) (aa ay (aa ay ag)))) (aA br (bj aL (pv 0) ar (fun _ _=>rfl)) ar) (fun _ _=>rfl)) ag))))) a9)
   (ah (bH (aJ dc (pv 4) ar (bg _)) (aj (aD (bU fM (pv 3) cK (ck (aA br (bj aL (pv 0) ar (fun _ _=>rfl)) (aU bT (by rfl) T.z_len QZ (aa (pv 3) ag))))))) a9)
   (ah (bH (aJ dc (pv 4) ar (bg _)) (aj (aD (bj aL (bh (aa (bh (aa ay (aa (aW (lR T) (hr.mono (by decide)) (aa (bj aL (pv 0) ar (fun _ _=>rfl)) ag)) ag))) (aa (bh (aa ay (aa (pv 2) (aa (aW (lR T) (hr.mono (by decide)) (aa (bj aL (pv 0) ar (fun _ _=>rfl)) ag)) ag)))) ag))) (aA br (bj aL (pv 0) ar (fun _ _=>rfl)) ar) (fun _ _=>rfl)))) a9)
   (ah (bH (aJ dc (pv 4) ar (bg _)) (aj (aD (aA c6 (bh (aa (aW (oE T) (hr.mono (by decide)) (aa (bj aL (pv 3) ar (fun _ _=>rfl)) (aa (bj aL (pv 0) ar (fun _ _=>rfl)) ag))) ag)) (bU fM (pv 3) (ck ar) cK)))) a9)
   (ah (bH (aJ dc (pv 4) ar (bg _)) (aj (aD (aA c6 (bh (aa ay ag)) (pv 3)))) a9)
   (ah (bH (aJ dc (pv 4) ar (bg _)) (aj (aD (aA c6 (pv 3) (bh (aa ay ag))))) a9)
   (ah (bH (aJ dc (pv 4) ar (bg _)) (aj (aD (aA c6 (bh (aa (aA bY (bj aL (pv 3) ar (fun _ _=>rfl)) (bj ki ay (aA br (bj aL (pv 0) ar (fun _ _=>rfl)) ar) (fun _ _=>rfl))) ag)) (bU fM (pv 3) (ck ar) cK)))) a9)
   (ah (bH (aJ dc (pv 4) ar (bg _)) (aj (aD (aA c6 (bh (aa (aA bY (bj ki ay (aA br (bj aL (pv 0) ar (fun _ _=>rfl)) ar) (fun _ _=>rfl)) (bj aL (pv 3) ar (fun _ _=>rfl))) ag)) (bU fM (pv 3) (ck ar) cK)))) a9)
   (aj (aD (aA c6 (aA c6 (bU fM (pv 3) cK (ck ar)) (bh (aa ay ag))) (bU fM (pv 3) (ck ar) cK)))))))))))))))) By
theorem MZ(T:Txt K mg){f:PK}{cdv:PL}{A:Qg}{outer:List Qq}{s:PN}{H:Hp}{E:XK}(hr:di 13 (A.deeper (Q9 "law" (aq Cm) s.heap.objs.size f cdv))):
  xI (cv sR P w K mg base ["script","first","cell","xs","one","other","rows","row","names","number","spins","good","strangers","stranger"] "law" (aq Cm) f cdv A outer s H E).nox (dH Cm) (ER K):=
 (ah (aM (i:=1) eT.nd rfl (PU rfl) (aW (qO T) (hr.mono (by decide)) (aa (pv 0) (aa ar ag))))
   (ah (aM (i:=2) eT.nd rfl (RX rfl) (aW (qO T) (hr.mono (by decide)) (aa (pv 0) (aa ar ag))))
   (ah (aM (i:=3) eT.nd rfl (PU rfl) (aW (jh T) (hr.mono (by decide)) (aa (pv 2) (aa ar ag))))
   (ah (aM (i:=4) eT.nd rfl (PU rfl) (so (jw T) T.rU (hr.mono (by decide))))
   (ah (aM (i:=5) eT.nd rfl (PU rfl) (so (jw T) T.rU (hr.mono (by decide))))
   (ah (aM (i:=6) eT.nd rfl (PU rfl) (aA c6 (aW (ph T) (hr.mono (by decide)) (aa (pv 3) (aa (pv 2) ag))) (aA Ei (bh (aa ay ag)) (aA br (pv 1) ar))))
   (ah (gI Rv rfl (bX (pv 6)) (aC (i:=7) eT.nd rfl (PU rfl)) (aj (bH (aJ (iy hr.units) (aW (de T) (hr.mono (by decide)) (aa (pv 4) (aa (pv 7) ag))) (aW (de T) (hr.mono (by decide)) (aa (pv 5) (aa (pv 7) ag))) (bg _)) (aj (aD lM)) a9)))
   (ah (aM (i:=8) eT.nd rfl (RX rfl) (aA c6 (bE (N:=["k","cell"]) (mp:=[none,some 2]) rfl ⟨rfl,by decide +kernel,by rfl,rfl,by rfl⟩ (ed (by rfl) T.fE (aa ar ag)) (fun _ _ _ _ _ _=>(aC (i:=0) (by show Qk (["k","cell"]:List PH);decide +kernel) rfl (PU rfl))) (fun _ _ _ _ _ _=>bx) (fun _ _ _ _ _ _=>(aW (eG T) (hr.mono (by decide)) (aa (pv 1) (aa (pv 0) ag))))) (bE (N:=["k","cell"]) (mp:=[none,some 2]) rfl ⟨rfl,by decide +kernel,by rfl,rfl,by rfl⟩ (ed (by rfl) T.fE (aa ar ag)) (fun _ _ _ _ _ _=>(aC (i:=0) (by show Qk (["k","cell"]:List PH);decide +kernel) rfl (PU rfl))) (fun _ _ _ _ _ _=>bx) (fun _ _ _ _ _ _=>(aW (eG T) (hr.mono (by decide)) (aa (aA dG (pv 1) ar) (aa (pv 0) ag)))))))
   (ah (aM (i:=8) eT.nd rfl (RX rfl) (aA c6 (pv 8) (bh (aa (aA bY (bj aL (pv 8) ar (fun _ _=>rfl)) ay) (aa (Dx RN Vu WM Cu (bj aL (pv 8) ar (fun _ _=>rfl))) (aa (aA bY (bj aL (pv 8) ar (fun _ _=>rfl)) ay) ag))))))
   (ah (gI Rv rfl (bX (bU fM (pv 0) (ck ar) (ck ar))) (aC (i:=9) eT.nd rfl (PU rfl)) (ah (aM (i:=10) eT.nd rfl (PU rfl) (aW (jh T) (hr.mono (by decide)) (aa (pv 9) (aa ar ag))))
   (ah (bH (aJ (iy hr.units) (aW (de T) (hr.mono (by decide)) (aa (pv 4) (aa (jv RN Sr SX kE ay (aa (aW (As T) (hr.mono (by decide)) (aa (bU fM (pv 10) cK (ck ar)) (aa (pv 8) ag))) ag)) ag))) (aA c6 (bh (aa lM (aa lM (aa lM ag)))) (aA Ei (bh (aa lM ag)) ar)) (bg _)) (aj (aD lM)) a9)
   (ah (aM (i:=11) eT.nd rfl (PU rfl) (jv RN Sr SX kE ay (aa (aW (gS T) (hr.mono (by decide)) (aa (bU fM (pv 10) (ck ar) cK) (aa (pv 8) ag))) ag)))
   (aj (bH (PW.pt (Eh (aJ dc (aA br (bj aL (pv 10) ar (fun _ _=>rfl)) ar) ar (bg _)) (Eh (aJ Ft (pv 11) ay (bg _)) (Fb (aJ (iy hr.units) (aW (de T) (hr.mono (by decide)) (aa (pv 4) (aa (pv 11) ag))) (aW (de T) (hr.mono (by decide)) (aa (pv 5) (aa (pv 11) ag))) (bg _)))))) (aj (aD lM)) a9))))))
   (ah (nV (i:=12) (N:=["k","cell"]) (mp:=[none,some 2]) eT.nd rfl (PU rfl) rfl ⟨rfl,by decide +kernel,by rfl,rfl,by rfl⟩ (zG (by rfl) T.fE (aa ar (aa ar ag))) (fun _ _ _ _ _ _=>(aC (i:=0) (by show Qk (["k","cell"]:List PH);decide +kernel) rfl (PU rfl))) (fun _ _ _ _ _ _=>bx) (fun _ _ _ _ _ _=>(aW (eG T) (hr.mono (by decide)) (aa (pv 1) (aa (pv 0) ag)))) (by with_unfolding_all rfl))
   (ah (aM (i:=13) eT.nd rfl (PU rfl) (bj aL (bE (N:=["name","names"]) (mp:=[none,some 8]) rfl ⟨rfl,by decide +kernel,by rfl,rfl,by rfl⟩ (bX (pv 12)) (fun _ _ _ _ _ _=>(aC (i:=0) (by show Qk (["name","names"]:List PH);decide +kernel) rfl (PU rfl))) (fun _ _ _ _ _ _=>(gC (aJ Bd (pv 0) (pv 1) rfl))) (fun _ _ _ _ _ _=>(pv 0))) ar (fun _ _=>rfl)))
   (ah (bH (aJ (iy hr.units) (aW (de T) (hr.mono (by decide)) (aa (pv 4) (aa (aA bY ay (pv 13)) ag))) (aA c6 (bh (aa lM (aa lM (aa lM ag)))) (aA Ei (bh (aa lM ag)) ar)) (bg _)) (aj (aD lM)) a9)
   (aj (aD (rL (DG hr.units) (aW (oX T) (hr.mono (by decide)) (aa (pv 4) (aa (pv 8) ag))) (aW (oX T) (hr.mono (by decide)) (aa (pv 5) (aa (pv 8) ag))) (bg _)))))))))))))))))
end
end My
open PySem PySem.W PyProof.Rows
noncomputable def PySem.W.Fast.tw10365943473485292613:Unit:=()
noncomputable def PySem.W.Fast.tw18389008909285801025:Unit:=()
noncomputable def PySem.W.Fast.tw155214049135498221:Unit:=()
noncomputable def PySem.W.Fast.tw17250938596124015584:Unit:=()
noncomputable def PySem.W.Fast.tw3418437522700369505:Unit:=()
noncomputable def PySem.W.Fast.tw15144477335452127676:Unit:=()
noncomputable def PySem.W.Fast.tw23343879414821455:Unit:=()
noncomputable def PySem.W.Fast.tw7327756034531439680:Unit:=()
noncomputable def PySem.W.Fast.tw13940050017561728846:Unit:=()
noncomputable def PySem.W.Fast.tw7538543222223307622:Unit:=()
noncomputable def PySem.W.Fast.tw12665954677270868387:Unit:=()
noncomputable def PySem.W.Fast.tw15340311511117785946:Unit:=()
noncomputable def PySem.W.Fast.tw8474427632535030483:Unit:=()
noncomputable def PySem.W.Fast.tw17663358212325928854:Unit:=()
noncomputable def PySem.W.Fast.tw1340622814463575921:Unit:=()
noncomputable def PySem.W.Fast.tw920361538370062232:Unit:=()
noncomputable def PySem.W.Fast.tw5158871533640794570:Unit:=()
noncomputable def PySem.W.Fast.tw10597624130970412442:Unit:=()
noncomputable def PySem.W.Fast.tw9786912932905620552:Unit:=()
noncomputable def PySem.W.Fast.tw12926565209844412867:Unit:=()
noncomputable def PySem.W.Fast.tw999758045824972768:Unit:=()
noncomputable def PySem.W.Fast.tw10150703090572503262:Unit:=()
noncomputable def PySem.W.Fast.tw16292411114044619423:Unit:=()
noncomputable def PySem.W.Fast.tw4271012926883321635:Unit:=()
noncomputable def PySem.W.Fast.tw948537154716030791:Unit:=()
noncomputable def PySem.W.Fast.tw9089746037996803416:Unit:=()
noncomputable def PySem.W.Fast.tw13618583689780580993:Unit:=()
noncomputable def PySem.W.Fast.tw14436586186009811043:Unit:=()
noncomputable def PySem.W.Fast.tw882156918085856215:Unit:=()
noncomputable def PySem.W.Fast.tw6185754428968232893:Unit:=()
noncomputable def PySem.W.Fast.tw17162976504707393618:Unit:=()
noncomputable def PySem.W.Fast.tw5886823192622646940:Unit:=()
noncomputable def PySem.W.Fast.tw14724407182900165537:Unit:=()
noncomputable def PySem.W.Fast.tw15188295512148778352:Unit:=()
noncomputable def PySem.W.Fast.tw1731069408564611789:Unit:=()
noncomputable def PySem.W.Fast.tw13544548421492769127:Unit:=()
noncomputable def PySem.W.Fast.tw385523041949274228:Unit:=()
noncomputable def PySem.W.Fast.tw10382037601652606159:Unit:=()
noncomputable def PySem.W.Fast.tw11396752259280595468:Unit:=()
noncomputable def PySem.W.Fast.tw10122869983503508435:Unit:=()
noncomputable def PySem.W.Fast.tw17398358514768014673:Unit:=()
noncomputable def PySem.W.Fast.tw7295777909424821838:Unit:=()
noncomputable def PySem.W.Fast.tw8173895519594571339:Unit:=()
noncomputable def PySem.W.Fast.tw11931812357833302564:Unit:=()
noncomputable def PySem.W.Fast.tw4935255776220944684:Unit:=()
noncomputable def PySem.W.Fast.tw10941132608530728038:Unit:=()
noncomputable def PySem.W.Fast.tw2830585211719428704:Unit:=()
noncomputable def PySem.W.Fast.tw8999552178057120748:Unit:=()
noncomputable def PySem.W.Fast.tw10180923759762970969:Unit:=()
noncomputable def PySem.W.Fast.tw12352079809950545023:Unit:=()
noncomputable def PySem.W.Fast.tw11155857256781811574:Unit:=()
noncomputable def PySem.W.Fast.tw10141878767257079593:Unit:=()
noncomputable def PySem.W.Fast.tw3176251844178201162:Unit:=()
noncomputable def PySem.W.Fast.tw7082157437277316779:Unit:=()
noncomputable def PySem.W.Fast.tw15921823173704762353:Unit:=()
noncomputable def PySem.W.Fast.tw17071711486766530801:Unit:=()
noncomputable def PySem.W.Fast.tw8235286277114933937:Unit:=()
noncomputable def PySem.W.Fast.tw13845841956170182499:Unit:=()
noncomputable def PySem.W.Fast.tw6675179397621809584:Unit:=()
noncomputable def PySem.W.Fast.tw12386355166213464861:Unit:=()
noncomputable def PySem.W.Fast.tw11234233424751589182:Unit:=()
noncomputable def PySem.W.Fast.tw661251249997002873:Unit:=()
noncomputable def PySem.W.Fast.tw11921493919289992993:Unit:=()
noncomputable def PySem.W.Fast.tw13093599860884017043:Unit:=()
theorem My.le1{α:Type _}{P:List α->Prop}(h:∀a0,P [a0]):∀us:List α,us.length=1->P us:=fun us e=>match us,e with|[a0],_=>h a0
theorem My.le2{α:Type _}{P:List α->Prop}(h:∀a0 a1,P [a0,a1]):∀us:List α,us.length=2->P us:=fun us e=>match us,e with|[a0,a1],_=>h a0 a1
theorem My.le3{α:Type _}{P:List α->Prop}(h:∀a0 a1 a2,P [a0,a1,a2]):∀us:List α,us.length=3->P us:=fun us e=>match us,e with|[a0,a1,a2],_=>h a0 a1 a2
theorem My.le4{α:Type _}{P:List α->Prop}(h:∀a0 a1 a2 a3,P [a0,a1,a2,a3]):∀us:List α,us.length=4->P us:=fun us e=>match us,e with|[a0,a1,a2,a3],_=>h a0 a1 a2 a3
set_option maxRecDepth 100000 in
set_option maxHeartbeats 0 in
theorem PySem.Challenge.cw_purse_k53_refused_rows_holds : PySem.Challenge.rw_purse_k53_refused_rows.Holds := by
 w_on;o_law;k_head;(case hw=>w_witness2)
 k_fill
 refine L2.Ib (l:=PySem.Challenge.rw_purse_k53_refused_rows) (k:=14) rfl rfl ⟨rfl,by decide,by decide⟩ (fun w h Y=>Z9 Y) ?F
 case F=>
  intro w mg fa h KX G hmg
  have⟨ff,kb,j8,nU,sE,ib,ik,sj,k7,bI,rU⟩:L2.ef (L2.x9 KX) mg "NoRow"/\L2.ef (L2.x9 KX) mg "NoWork"/\L2.ef (L2.x9 KX) mg "NoName"/\L2.ef (L2.x9 KX) mg "Twice"/\L2.ef (L2.x9 KX) mg "Full"/\L2.ef (L2.x9 KX) mg "NoVoter"/\L2.ef (L2.x9 KX) mg "TooMuch"/\L2.ef (L2.x9 KX) mg "NoPaper"/\L2.ef (L2.x9 KX) mg "PurseError"/\L2.mi (L2.x9 KX) mg "Chest"/\L2.mi (L2.x9 KX) mg "Desk":=by
   exists ?_,?_,?_,?_,?_,?_,?_,?_,?_,?_
   iterate 8 (dsimp only[L2.x9];refine' L2.KD KX G ?a ?l ?n ?l1 ?n1 ?g1 ?g2 ?g3 ?g4 ?g5 ?g6 ?hk ?hi ?hk1 ?hi1;(case a|l|n|l1|n1|g1|g2|g3|g4|g5|g6=>k_is);(case hk|hi|hk1|hi1=>(first|rfl|(with_unfolding_all rfl)|(simp[L2.keysOk,WN,WL];done))))
   (dsimp only[L2.x9];refine' L2.LD KX G ?a ?l ?n ?g1 ?g2 ?g3 ?g4 ?g5 ?g6 ?hk ?hi;(case a|l|n|g1|g2|g3|g4|g5|g6=>k_is);(case hk|hi=>(first|rfl|(with_unfolding_all rfl)|(simp[L2.keysOk,WN,WL];done))))
   iterate 2 (dsimp only[L2.x9];refine' L2.Nr KX G ?a ?pg ?hd ?po ?sa ?mk ?kp;(case a|pg|hd|po|sa|mk|kp=>k_is))
  have cls:My.gT (L2.x9 KX):=by
   exists j8.some,j8.ek,nU.some,nU.ek,ib.some,ib.ek,kb.some,kb.ek,ik.some,ik.ek,sE.some,sE.ek,ff.some,ff.ek,?_,?_,?_,?_,?_,?_,?_,?_,?_,?_,?_,?_,?_,?_,?_,?_,?_,?_,?_,?_,?_,?_,?_,?_,?_,?_,?_,?_,?_,?_,?_,?_,?_,?_,?_,?_,?_,?_,?_,?_,?_,?_,?_,?_,?_,?_,?_,?_,?_,?_,?_,?_,?_,?_,?_,?_,?_,?_,?_,?_,?_,?_,?_,?_,?_,?_,?_,?_,?_,?_,bI.cls,?_,?_,?_,?_,?_,?_,rU.cls
   iterate 7 ((dsimp only[L2.x9];refine' L2.Kk ?a ?b ?e ?c ?t ?s;(case a|b|e|c|t|s=>k_is));(dsimp only[L2.x9];refine' L2.Me ?a ?m ?s;(case a=>k_is);(case m=>(first|rfl|decide +kernel));(case s=>k_is));iterate 8 (dsimp only[L2.x9];refine' L2.Ks ?a ?b ?c ?t ?s ?n;(case a|b|c|t|s=>k_is);(case n=>(first|exact fun _=>rfl|decide))))
   iterate 7 (dsimp only[L2.x9];refine' L2.FU ?a ?n;(case a|n=>k_is))
  have T:My.Txt (L2.x9 KX) mg:=by
   exists ?_,?_,?_,?_,?_,?_,?_,?_,?_,?_,?_,?_,?_,?_,?_,?_,?_,?_,?_,?_,?_,?_,?_,?_,?_,?_,?_,?_,?_,?_,?_,?_,?_,?_,?_,?_,?_,?_,?_,?_,?_,?_,?_,?_,?_,?_,?_,?_,?_,?_,?_,?_,?_,?_,?_,?_,?_,?_,?_,?_,?_,?_,?_,?_,?_,?_,?_,?_,?_,bI,rU,ff,kb,j8,nU,sE,ib,ik,k7,sj,cls,?_,?_,?_,?_,?_,?_,?_,?_,?_,?_,?_,?_,?_,?_,?_,?_,?_,?_,?_,?_
   iterate 69 ((dsimp only[L2.x9];first|(refine' L2.MH KX G ?a ?l ?c ?k ?b;(case a|l|c|k=>k_is))|(refine' L2.Lc (h:=h) ?a ?a4 ?fn ?l ?c ?k ?b;(case a|a4|fn|l|c|k=>k_is)));(case b=>(first|exact fun _ _ _ _ _ _=>My.le1 fun _=>rfl|exact fun _ _ _ _ _ _=>My.le2 fun _ _=>rfl|exact fun _ _ _ _ _ _=>My.le3 fun _ _ _=>rfl|exact fun _ _ _ _ _ _=>My.le4 fun _ _ _ _=>rfl)))
   iterate 14 (refine' L2.Ls KX G ?z;(case z=>k_is))
   iterate 2 (refine' L2.Ku KX G ?z;(case z=>k_is))
   iterate 5 (refine' L2.Nm KX G ?z;(case z=>k_is))
  exact L2.bF.law T.f_law hmg My.eT (L2.aF rfl) (fun base f cdv A outer s H E hr=>My.MZ T hr) My.Nk
