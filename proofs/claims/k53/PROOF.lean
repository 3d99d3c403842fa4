import PyProof.Rows.All
import Wide.All
import OpenK.AllK
import Wide.FinOn
import Lean
import PyProof.EqAt
import PyProof.EqKinds
import PyProof.TupleCall
import KE.KIsAll
import KE.KTryMore
import PyProof.ExcAttrAll.ValueError
import KE.KIntText
import KE.KItemsList
import KE.KDictOf
import PyProof.AttrMissHeap
import KE.KPairComp
import PyProof.DictWalks
import PyProof.P3In
import PyProof.SameEqv
import KE.KDictList
import KE.KDictIter
import PyProof.Draws
import PyProof.EnumMake
import PyProof.Rows.Range3
import PyProof.ZipIter
import KE.KTurns
import PyProof.FactsAll.zip_1
import PySem.Challenge.RW_purse_k53_refused_rows
local macro_rules | `(tactic| exists $e,*) => `(tactic| refine ⟨$e,*, ?_⟩)
open PySem renaming Str->PH,Addr->PK,Value->PL,Shared->PN,wpAny->PQ,wpAny_bind->PR,Obj->PV,Expr->PY,sizeLine->PZ,Heap->P0,Stmt->P5,World->P8,Program->Qc,Paired->Qd,starEach->Qf,Around->Qg,wpAny_pure->Qh,Pos->Qi,Env->Qq,PyData->Qx,backTo->QF,IsPair->QG,mainGlobals->QH,compareOp->QP,rawInt->QQ,Scope->QT,boot_len->QZ,wpAny_field->Q1,cellsFrom->Q4,wpAny_mono->Q5,NameKind->Q8,IsZip->Ra,pyNext->Rc,binaryOp->Rw,sysModules->RD,ZipApart->RE,FuncData->RF,Builtin->RG,call_meets->RJ,DictEntry->RM,keywordEach->RO,codeAny->RP,backToKw->RW,getMethod->R0,inplaceOp->R6,wpAny_seqItems->R8,pushCells->SH,attributeBase->SK,sliceBounds->SM,wpAny_holding->SO,wpAny_passesOwn->S0,wpAny_call_entry->Td,wpAny_execs_nil->Tg,wpAny_truthy_bool->Tn,bootBuiltins->To,wpAny_setField_rec->Tp,behindInMarks->TL,assignEach->TN,call_meetsIn->TU,wpAny_pyIter_dict->TV,mem_of_lookup->Ua,wpAny_callSpecial?_slot->Ul,typeLookup->Ut,reprText->Uw,wpAny_pyIter_enum->Uz,wpAny_Call_Name_kw->UK,wpAny_getItem_str_slice->UN,wpAny_pyIter_list->UR,wpAny_attempt->UW,tupleKind_room_in1->UZ,wpAny_typeOf->U5,getattributeRaised->Vc,Within->Vm,typeLookup_type->Vo,evalArgs_none->Vt,wpAny_pyIter_zip->VC,call->VX,intText?->Wf,nsFind->WZ,wpAny_nextOf_list_item->Xe,findBy->Yc
open PySem.W renaming Frag->PM,kitOne->Qb,findIn->Q9,nsIn->Rm,clsIn->Rp,keepIn->RN,exmOne->RY,emptyDict->Sa,fnOf->Sf,instObj->Sn,mg_of->So,InstAt->SY,codeIn->T8,plainGet->Ub,isFn->UJ,makesIn->UU,subIn->UX,hasDictIn->U4,mroIn->U6,methodCall_KW->U9,lookIn->Vb,notCls->Vj,plainGet_of->Vy,plainOver->VM,kitCls->VS,callWith_K->VZ,typeIn->V0,methodObj->Wc,takerIn->Wk,handedIn->Wu,OpenLaw->WM,callWith_K0->Xq,ktu_apart->Yb,cellsFrom_some->Yx,WalkO->YG,mg_none_of->YO,Looks->YQ,method_fn->Za,findObj_own->Zj,ne_bytes->Zk,of_hideAll->Zz,codeRec_of->ZD,makes_of->ZL,hideAll_none->ZN,eq_bytes->ZX,InitBack->Z0,hideAll_get->Z8,osa_open->Z9,get_value->aab,looks_findIn->aac,kitMeta->aad,looks_clsIn->aak,exm_one->aam,any_some->aap,hideAll->aax,set_plain->aaE,kIn_of->aaI,hideAll_size->aaK,make_core->aaL,bind_fn->aaN
open Or renaming inl->PU,inr->RQ
open List renaming range->P4,length_map->P7,mem_map->P9,mem_cons->Qa,getElem?_eq_getElem->Qj,Nodup->Ql,getD->Qm,map_map->Qn,mem_cons_of_mem->Qs,map_cons->Qu,mem_append->QC,getD_eq_getElem?_getD->QD,mem_cons_self->QI,mem_filter->QL,getElem?_eq_some_iff->QN,mem_singleton->QR,replicate->QS,length_append->QU,length_cons->QV,length_take->QY,size_toArray->Q0,mem_range->Q6,sum_cons->Rb,not_mem_nil->Rf,mem_append_right->Rh,lookup->Rj,map_append->Rk,length_drop->Rq,all_eq_true->Ru,map->Ry,length_filter_le->RB,getElem_mem->RC,take_of_length_le->RI,lookup_cons->RL,nodup_cons->RX,any_cons->R7,length_singleton->R9,filter_eq_self->Sd,getElem?_map->Se,getElem?_append_left->Sh,mem_of_mem_take->Sl,map_congr_left->Sw,getElem?_eq_none->Sz,ext_getElem->SI,length_range->SQ,filter_cons->SR,mem_append_left->SW,replicate_succ->S3,map_nil->S7,getElem?_append_right->S8,range_succ->S9,find?_cons->Ti,getElem_of_mem->Tq,mem_of_getElem?->Tv,flatten_cons->Tw,length->Tz,forIn_nil->TJ,of_mem_zip->TK,length_pos_iff->TM,append_nil->TR,forIn_cons->TX,pairwise_iff_getElem->T4,mem_of_mem_drop->T7,sum_append->Uc,length_eq_zero_iff->Ud,cons_append->Uo,nodup_nil->Up,take_add_one->Us,all_map->Uu,map_take->UB,map_id'->UI,filter_map->U0,take_length->U2,filter_congr->Vi,getElem?_set_self->Vk,getElem_map->Vp,drop_zero->Vs,length_nil->VI,getElem_take->VJ,filterMap_cons->VN,foldl->V1,any_eq_true->Wa,getElem?_set_ne->Wb,append_assoc->Wg,map_eq_nil_iff->Wh,filter_append->Wi,take_append_drop->Wq,sum_nil->Ws,nodup_append->Wz,length_replicate->WE,length_zipWith->W8,any_map->Xa,set_cons_zero->Xc,map_drop->Xg,length_erase_of_mem->Xh,length_pos_of_mem->Xn,filter_nil->Xt,map_inj_right->Xu,getElem_cons_drop->Xw,mem_map_of_mem->XA,mem_range'_1->XF,zipIdx_nil->XH,mem_filterMap->Yd,foldl_cons->Yq,map_fst_zip->Yr,all_cons->Yt,drop_eq_nil_of_le->Yu,range'->YD,zipIdx_cons->YE,drop_of_length_le->YI
open Nat renaming le_trans->P6,le_refl->Qe,ne_of_lt->Qt,lt_of_lt_of_le->QE,zero_le->Q3,ne_of_gt->Ro,le_succ->Rz,lt_irrefl->RA,lcm->R4,le_add_right->Sx,mul_le_mul_right->SD,le_of_lt->SN,le_of_eq->Ts,toDigits->Uv,lt_trans->Uy,lt_succ_of_lt->UD,lt_succ_self->UL,le_total->UQ,min_eq_left->UT,min_eq_right->Vd,log2_lt->Vn,le_of_succ_le->VF,pow_succ->VL,lt_of_le_of_lt->VP,le_of_not_lt->VV,eq_zero_or_pos->Wr,dvd_refl->Ww,le_of_dvd->Wy,sub_zero->WO,dvd_lcm_left->WU,isDigit_of_mem_toDigits->W4,one_mul->Xf,min_le_left->Xj,mul_comm->Xl,mul_le_mul_left->Xp,succ_ne_self->Xs,add_mul->Xy,lt_or_ge->XC,le_antisymm->Ya,le_of_ble_eq_true->Yi,pow_le_pow_right->Yz,succ_pos->YA,lt_asymm->YH,lcm_pos->YJ
open PySem.Heap renaming lt_size->Qk,get?_push_of_some->Qr,get?_push_size->Qz,size_push->Rx,SameBut->RT,get?_update_other->SA,get?_none_of_le->Ux,size_update->XB,get?_update_self->Yo
open PySem.Value renaming ref->Qo,none->Rg,int->RZ,bool->Sk,str->SU,builtin->Ta,type->Vv,float->WS,bytes->X0,isInt->Ym,isStrOf->YL
open PySem.Str renaming empty->Qp,length_append->Qv,join->QO,cps_append->Ue,ofString->Ui,length->UC,ext'->WK
open PySem.Paired renaming length->Qw,snoc->WG,nil->Yw
open Ne renaming symm->Qy
open PySem.Txt renaming slice->QJ,split->QK,mul->Vz,slice_le->aaj
open Bool renaming false_ne_true->QM,and_eq_true->QX,eq_iff_iff->Ri,false_eq_true->Ss,false_and->S1,bne_false->TF,bne_true->TZ,and_false->VW,false_or->WV
open Option.some renaming inj->QW,injEq->W9
open PyProof.Rows renaming envOfC->Q7,kindOf->Rr,AllBare->R3,boot_isinstance->Si,callWith_type1->Sq,IntsAre->SE,boot_str->Tc,boot_sum->Vl,boot_all->Wj,boot_sorted->WC,boot_list->WT,same_iff->Yy,boot_int->Y3,boot_min->ZI,iadd_int->Z2,callWith_builtin1->aar,isub_int->aaM
open PySem.SeqAt renaming noMix->Rl,shaped->Sg,noMixAll->Sv,canLay_of_shaped->WH,EqAt->W5
open False renaming elim->Rn
open PySem.PassesOwn renaming never->Rt
open PySem.NameKind renaming cell->Rv,free->RH
open Sum renaming inr->RK,inl->SX
open PySem.PyData renaming canLay0->RS,canLayAll0->SG,depth->S2,depthAll->S4,bool->Ug,strOk->Vx
open Int renaming le_refl->RU,lt_or_le->Sb,emod_nonneg->Su,le_of_lt->Tb,emod_lt_of_pos->Tf,le_trans->Tj,eq_ofNat_of_zero_le->Tr,mul_comm->Tt,natCast_add->TY,lt_of_le_of_lt->Uj,mul_add->Uq,dvd_sub->UA,mul_nonneg->UO,mul_le_mul_of_nonneg_right->US,add_mul->Va,dvd_trans->Vf,min_eq_left->Vh,mul_one->VA,toNat_natCast->VD,mul_ediv_add_emod->VE,dvd_mul_left->VG,natCast_nonneg->VQ,toNat_of_nonneg->V5,min_eq_right->V7,mul_sub->WI,lt_of_lt_of_le->WL,mul_le_mul_of_nonneg_left->Xm,dvd_zero->XZ,ediv_nonneg->Yn,mul_ediv_cancel->Yp,dvd_add->YF,natAbs_natCast->YM
open PySem.F renaming plainAttrs_str->RV,slot_zip_next->Sr,slot_str_join->Sy,type_str_join->SV,slot_list_append->Th,type_list_append->TC,plainAttrs_list->Ur,plainAttrs_dict->UM,slot_dict_values->UY,args_zip_next_1->U1,entry_zip_next->U3,slot_str_split->U8,slot_list_getattribute->VO,slot_str_upper->VR,slot_zip_getattribute->V2,args_str_split_2->V3,entry_str_split->V9,slot_dict_itemiterator_iter->Wm,entry_dict_values->Wp,slot_dict_delitem->WX,kt_called_dict->Xo,slot_dict_keyiterator_next->Xv,excBase_ValueError->XE,slot_int_rmul->XJ,args_dict_values_1->XO,entry_dict_init->XQ,slot_dict_items->XU,slot_dict_pop->XW,type_str_upper->X8,kt_typeCall_dict_1->Ye,typeOf_object_class->Yg,args_dict_init_2->Yk,slot_str_startswith->YK,type_dict_values->YN,entry_dict_pop->Y0,typeCall_zip_2->Y4,args_zip_getattribute_2->Y8,called_enumerate->Zi,args_dict_pop_3->Zm,called_zip->Zt,entry_dict_items->Zu,type_dict_pop->Zw,entry_enumerate_new->ZC,args_dict_delitem_2->ZE,args_object_init_2->ZO,slot_dict_getitem->ZR,newCall_enumerate_1->ZT,type_str_startswith->ZV,entry_dict_delitem->ZZ,args_dict_items_1->Z7,type_dict_items->aai,newCall_zip_2->aal,entry_dict_keyiterator_next->aaq,typeCall_enumerate_1->aau,entry_zip_new->aaz,args_object_init_3->aaB,slot_dict_itemiterator_next->aaD,args_dict_pop_2->aaH,type_str_split->aaQ,args_dict_itemiterator_iter_1->aaR,args_list_getattribute_2->aaT,args_dict_keyiterator_next_1->aaW
open PySem.Builtin.SmallTypes renaming nextOf->R5,ownedTupleIsFree->UH,ownedTupleHandOut->Wt
open PySem.Unicode renaming upperOf->Sj
open True renaming intro->SF
open PySem.Data renaming cell->SJ,fields->TH,seq->V6
open PySem.Obj renaming mapFields->SS,data_mapFields->Vr,mapSeq->WJ,isFreed_of_fields->YC
open List.cons renaming inj->S5
open PySem.NumText renaming digitsVal->S6,AllDigits->Vu,toDigits_digitsVal->Y7
open PySem.Builtin.Str renaming strSliceIndices->Te,occurrences->TQ,subAt->aaw
open ForInStep renaming yield->Tu
open Array renaming getElem?_eq_some_iff->TB,length_toList->U7,toArray_toList->VH,forIn_toList->Wv,ext'->WW,toList_append->WY,mem_toList_iff->Xi,getElem?_toList->Xr,toList->XD,getD_eq_getD_getElem?->XS,all_toList->YB
open PySem.StrLaws renaming join_split->Uh,split_free->WB,found_one->W0,reprText_len->Zd,subAt_one->Ze,glued_eq_join->ZQ,strSliceIndices_plain->aag,sliced_plain->aaP
open Eq renaming trans->Uk
open PySem.Calls renaming callWith_builtin->Um,evalArgs_plain->Vg,spliced_nil->V4,spliced_cons->We,Name_function_global->X9
open PySem.Builtin.Dict renaming updateFrom->UE,selfAndRest->XG,pairItems->XI,addKeywords->Yh
open PySem.Builtin.List renaming listTooLong->UG
open Char renaming toNat->UP,ofNat->VY,isDigit->XN
open PySem.Around renaming under_plainId->Ve,under->V8
open PySem.Code renaming isFrame->Vq,frames->Xx
open Option renaming isSome_iff_exists->Vw,isSome_map->VU,getD_none->WN,isNone_none->W7,none->Xz,isSome_some->Yv
open PySem.Heap.DictOf renaming new->VB
open List.Pairwise renaming map->VT,of_map->Xd,imp->Yf,cons->YV,imp_of_mem->Zy,imp₂->ZM,nil->aao
open PySem.EntryCells renaming newEntry->Wl
open PySem.Builtin.Int renaming intBits->Wn
open PySem.W.WShape renaming has->Wo
open Classical renaming axiomOfChoice->Wx
open PySem.Value.ref renaming inj->WD
open PySem.Spec renaming same->WQ
open PySem.MeetsIn renaming of_wp->W6
open PySem.Walks renaming list->Xb
open PySem.SeqAt.EqAt renaming str_int->Xk,int_str->Yj,none_int->YT,str_str->Y6,bool_int->Zn,none_bool->Zr,str_bool->Zx,int_none->ZF,str_none->ZH,same->ZJ,int_int->ZU,bool_str->Z3,int_bool->Z4,bool_none->aaf,none_str->aat,bool_bool->aaO
open PySem.W.WData renaming int->XM
open Sum.inr renaming inj->XR
open PySem.W.KIN renaming signs_num->XT,call_text->ZY
open And renaming comm->Yl
open Sum.inl renaming inj->YR
open PySem.EqMixed renaming ne_str_bool->YS,eq_str_int->Y9,eq_str_bool->Zf,ne_bool_str->ZK,ne_str_int->aaa,eq_int_str->aaA,ne_int_str->aaF,eq_bool_str->aaG
open PySem.Builtin.Range renaming rangeSize->YU
open List.Nodup renaming sublist->YW,length_le_of_subset->ZG
open PySem.DictEntry renaming refKey->YX
open PySem.EqNone renaming ne_none_str->YY,ne_int_none->Y5,ne_str_none->Zp,eq_str_none->Zv,ne_bool_none->ZA,ne_none_bool->ZP,eq_none_str->ZS,ne_none_none->aae,eq_bool_none->aah,eq_none_none->aan,eq_none_bool->aav,eq_none_int->aay,eq_int_none->aaC,ne_none_int->aaJ
open PySem.Heap.Ns renaming new->YZ
open PySem.AutoSeq1 renaming list_extend_list_list_0->Y1
open PySem.Heap.IsList renaming push->Y2
open PySem.Builtin.Dict_items renaming ownsTuple->Zb
open PySem.P renaming add_list->Zc,str_of_int->Zs
open PySem.Within renaming cons->Zg
open PySem.W.OpenLaw renaming pre->Zh
open PySem.Heap.SameBut renaming refl->Zl,update->aaU
open PySem.IsL renaming update->Zo
open PyProof renaming noPylong_of_log2->Zq
open PySem.IsRange renaming new->ZW
open PySem.Heap.IsSliceOf renaming new->Z1
open PySem.W.Looks renaming here->Z5,ld->aas
open List.Sublist renaming map->Z6
open PySem.Heap.Ns1 renaming of_empty->aaS
open PySem.AutoListH renaming list___mul___list_int_3->aaV
set_option Elab.async false
set_option compiler.extract_closed false
set_option linter.all false
set_option maxRecDepth 100000
namespace L2
open PySem PySem.Spec PyProof.Rows
noncomputable abbrev Key:=Sum Int PH
noncomputable def vb:Key->PL->Bool
 |.inl k,v=>Ym k v
 |.inr x,v=>YL x v
noncomputable def O9(w:P8):Key->Int
 |.inl k=>hashInt k
 |.inr x=>hashStr w x
theorem cS:∀{k:Key}{v:PL},vb k v=true->(∃i t,k=SX i/\v=RZ i t)\/(∃x t,k=RK x/\v=SU x t)
 |.inl i,v,h=>by
  obtain⟨t,e⟩:=Value.isInt_shape (k:=i) (v:=v) h
  exact .inl ⟨i,t,rfl,e⟩
 |.inr x,v,h=>by
  obtain⟨t,e⟩:=Value.isStrOf_shape (x:=x) (v:=v) h
  exact .inr ⟨x,t,rfl,e⟩
theorem G7(i:Int)(t:Tok):vb (.inl i) (.int i t)=true:=by simp[vb,Ym]
theorem Hv(x:PH)(t:Tok):vb (.inr x) (.str x t)=true:=by simp[vb,YL]
theorem Ni(a b:Int):decide ((SX a:Key)=SX b)=(a==b):=by
 by_cases e:a=b
 ·subst e;simp
 ·have h:¬(SX a:Key)=SX b:=fun q=>e (YR q)
  rw[decide_eq_false h]
  exact(beq_eq_false_iff_ne.mpr e).symm
theorem MK(a b:PH):decide ((RK a:Key)=RK b)=decide (a=b):=by
 by_cases e:a=b
 ·subst e;simp
 ·have h:¬(RK a:Key)=RK b:=fun q=>e (XR q)
  rw[decide_eq_false h,decide_eq_false e]
theorem Nh(a:Int)(b:PH):decide ((SX a:Key)=RK b)=false:=decide_eq_false (fun q=>nomatch q)
theorem Mx(a:PH)(b:Int):decide ((RK a:Key)=SX b)=false:=decide_eq_false (fun q=>nomatch q)
noncomputable def aX(prog:Qc)(w:P8):PySem.KeyKind prog w Key where
 is:=vb
 hash:=O9 w
 inj:=fun v a b ha hb=>by
  rcases cS ha with⟨i,t,rfl,rfl⟩|⟨x,t,rfl,rfl⟩
  ·rcases cS hb with⟨j,u,rfl,e⟩|⟨y,u,rfl,e⟩
   ·injection e with e1 _;rw[e1]
   ·exact nomatch e
  ·rcases cS hb with⟨j,u,rfl,e⟩|⟨y,u,rfl,e⟩
   ·exact nomatch e
   ·injection e with e1 _;rw[e1]
 byValue:=fun k v h=>by
  rcases cS h with⟨i,t,rfl,rfl⟩|⟨x,t,rfl,rfl⟩<;>rfl
 pyHash:=fun hv h=>by
  rcases cS hv with⟨i,t,rfl,rfl⟩|⟨x,t,rfl,rfl⟩
  ·exact wpAny_pyHash_int h
  ·exact wpAny_pyHash_str h
 eqBool:=fun hu hv h=>by
  rcases cS hu with⟨i,t,rfl,rfl⟩|⟨x,t,rfl,rfl⟩
  ·rcases cS hv with⟨j,u,rfl,rfl⟩|⟨y,u,rfl,rfl⟩
   ·rw[Ni]at h;exact wpAny_eqBool_int h
   ·rw[Nh]at h;exact Yj i t y u _ _ _ _ h
  ·rcases cS hv with⟨j,u,rfl,rfl⟩|⟨y,u,rfl,rfl⟩
   ·rw[Mx]at h;exact Xk x t j u _ _ _ _ h
   ·rw[MK]at h;exact wpAny_eqBool_str h
 «strs»:=fun k x t v h=>by
  rcases cS h with⟨i,u,rfl,e⟩|⟨y,u,rfl,e⟩
  ·exact nomatch e
  ·injection e with e1 _
   subst e1
   cases v<;>rfl
theorem Cj(prog:Qc)(w:P8)(i:Int)(t:Tok):(aX prog w).is (.inl i) (.int i t)=true:=G7 i t
theorem Cg(prog:Qc)(w:P8)(x:PH)(t:Tok):(aX prog w).is (.inr x) (.str x t)=true:=Hv x t
inductive V where
 |non|bl (b:Bool)|int (i:Int)|str (x:PH)|byt (b:Array UInt8)|flt (b:UInt64)|ref (a:PK)|ty (n:String)
 deriving DecidableEq
noncomputable def RelV:V->PL->Prop
 |.non,u=>u=Rg
 |.bl b,u=>u=Sk b
 |.int i,u=>∃t,u=RZ i t
 |.str x,u=>∃t,u=SU x t
 |.byt b,u=>∃t,u=X0 b t
 |.flt b,u=>∃t,u=WS b t
 |.ref a,u=>u=Qo a
 |.ty n,u=>u=Vv n
noncomputable abbrev bR:List V->List PL->Prop:=Qd RelV
theorem bR.length{xs:List V}{us:List PL}(r:bR xs us):xs.length=us.length:=Qw r
theorem bR.get:∀{xs:List V}{us:List PL}{i:Nat}{x:V},bR xs us->xs[i]?=some x->∃u,us[i]?=some u/\RelV x u
 |_,_,_,_,.nil,e=>by simp at e
 |_,_,0,_,.cons r _,e=>by simp at e;subst e;exact⟨_,rfl,r⟩
 |_,_,i+1,x,.cons _ t,e=>by
  obtain⟨u,h1,h2⟩:=bR.get (i:=i) (x:=x) t (by simpa using e)
  exact⟨u,by simpa using h1,h2⟩
theorem bR.append:∀{xs ys:List V}{us ws:List PL},bR xs us->bR ys ws->bR (xs++ys) (us++ws)
 |_,_,_,_,.nil,s=>s
 |_,_,_,_,.cons r t,s=>.cons r (bR.append t s)
theorem bR.take:∀{xs:List V}{us:List PL}(n:Nat),bR xs us->bR (xs.take n) (us.take n)
 |_,_,0,_=>.nil
 |_,_,_+1,.nil=>.nil
 |_,_,n+1,.cons r t=>.cons r (bR.take n t)
theorem bR.drop:∀{xs:List V}{us:List PL}(n:Nat),bR xs us->bR (xs.drop n) (us.drop n)
 |_,_,0,r=>r
 |_,_,_+1,.nil=>.nil
 |_,_,n+1,.cons _ t=>bR.drop n t
noncomputable def ni:Option V->Option PL->Prop
 |some v,some u=>RelV v u
 |none,none=>True
 |_,_=>False
noncomputable def KV{κ:Type}:List (κ×V)->List (κ×PL)->Prop:=Qd fun (p:κ×V) (q:κ×PL)=>p.1=q.1/\RelV p.2 q.2
noncomputable def kV:Key->V
 |.inl i=>.int i
 |.inr x=>.str x
inductive HO where
 |lst (xs:List V)
 |tup (xs:List V)
 |dK (kvs:List (Key×V))|dT (kvs:List (List Key×V))
 |set (S:Int->Bool) (n:Nat)
 |ins (C dx:PK) (fs:List (PH×V))
 |own (x:PK)
 |xd (fs:List (PH×V))
 |met (f x:PK)
 |rng (lo hi:Int)
 |frz (o:PV) (u:HO)
 |tbl (ps:Array PL)
 |ext (φ:P0->Prop)
noncomputable abbrev Hp:=PK->Option HO
noncomputable def upd(H:Hp)(a:PK)(o:HO):Hp:=fun b=>if b=a then some o else H b
theorem ax{H:Hp}{a:PK}{o:HO}:upd H a o a=some o:=by unfold upd;rw[if_pos rfl]
theorem ak{H:Hp}{a b:PK}{o:HO}(h:b≠a):upd H a o b=H b:=by unfold upd;rw[if_neg h]
theorem Og{H:Hp}{a b:PK}{o u:HO}(h:H a=some o)(h':H b=some u)(d:o≠u):a≠b:=by
 intro e;subst e;rw[h]at h';exact d (QW h')
theorem bc{H:Hp}{a b:PK}{o:HO}(h:H a=some o)(h':H b=none):a≠b:=by
 intro e;subst e;rw[h]at h';cases h'
section
variable (P:Qc)(w:P8)
noncomputable def dc(H:Hp)(h:P0)(a:PK):HO->Prop
 |.lst xs=>xs.length<=PZ/\∃(its:List PL)(n:Nat),bR xs its/\h.get? a=some {cls:=.type "list",data:=.seq its.toArray n}
 |.tup xs=>xs.length<=PZ/\∃its:List PL,bR xs its/\IsTup h a its.toArray
 |.dK kvs=>kvs.length<=PZ/\(a==RD)=false/\∃vs,KV kvs vs/\h.DictOf (aX P w) a vs
 |.dT kvs=>kvs.length<=PZ/\(a==RD)=false/\∃xs:List (List Key×PK×PL),
   Qd (fun (p:List Key×V) (q:List Key×PK×PL)=>p.1=q.1/\H q.2.1=some (.tup (p.1.map kV))/\RelV p.2 q.2.2) kvs xs/\
   ∃o es ep,h.get? a=some o/\o.ExactDict/\o.data=.dict es ep/\es.toList=xs.map (entryOfKey (tupleKind (aX P w)))/\(xs.map (·.1)).Nodup
 |.set S n=>h.SetOf (intKind P w) a S n
 |.ins C dx fs=>H dx=some (.own a)/\fs.length<=1000/\dx≠a/\h.get? a=some (Sn C dx)/\
   ∃mA,h.Ns1 dx mA/\(∀f,ni (fs.lookup f) (mA f))/\Vm mA (fs.map (·.1))
 |.own _=>∃o,h.get? a=some o
 |.xd fs=>∃mA,h.Ns1 a mA/\∀f,ni (fs.lookup f) (mA f)
 |.rng lo hi=>∃t u v,h.get? a=some {cls:=.type "range",data:=.fields #[.int lo t,.int hi u,.int 1 v]}
 |.frz o u=>h.get? a=some o/\dc H h a u
 |.tbl ps=>h.get? a=some {cls:=.none,data:=.fields ps}
 |.met f x=>h.get? a=some (Wc (.ref f) (.ref x))
 |.ext φ=>φ h/\(∃o,h.get? a=some o)/\∀h1 h2:P0,φ h1->(∀o,h1.get? a=some o->h2.get? a=some o)->φ h2
noncomputable def oj(H:Hp)(h:P0):Prop:=∀a o,H a=some o->dc P w H h a o
end
section
variable {P:Qc}{w:P8}{H H':Hp}{h h':P0}{a:PK}{o:HO}
theorem dc.lt(x:dc P w H h a o):a<h.objs.size:=by
 cases o with
 |lst xs=>obtain⟨_,_,_,_,e⟩:=x;exact Qk e
 |tup xs=>obtain⟨_,_,_,p⟩:=x;exact p.lt
 |dK kvs=>obtain⟨_,_,_,_,o,_,_,e,_⟩:=x;exact Qk e
 |dT kvs=>obtain⟨_,_,_,_,o,_,_,e,_⟩:=x;exact Qk e
 |set S n=>obtain⟨o,_,_,_,e,_⟩:=x;exact Qk e
 |ins C dx fs=>obtain⟨_,_,_,e,_⟩:=x;exact Qk e
 |own y=>obtain⟨_,e⟩:=x;exact Qk e
 |xd fs=>obtain⟨_,⟨_,_,_,e,_⟩,_⟩:=x;exact Qk e
 |rng lo hi=>obtain⟨_,_,_,e⟩:=x;exact Qk e
 |frz ob u=>obtain⟨e,_⟩:=x;exact Qk e
 |tbl ps=>exact Qk (show h.get? a=some _ from x)
 |met f y=>exact Qk (show h.get? a=some _ from x)
 |ext φ=>obtain⟨_,⟨_,e⟩,_⟩:=x;exact Qk e
theorem Paired.mapP{α β:Type}{F G:α->β->Prop}:∀{l₁:List α}{l₂:List β},Qd F l₁ l₂->(∀a b,F a b->G a b)->Qd G l₁ l₂
 |_,_,.nil,_=>.nil
 |_,_,.cons r t,f=>.cons (f _ _ r) (Paired.mapP t f)
theorem dc.stay(x:dc P w H h a o)(k:∀b u,(b=a\/H b=some (.own a))->h.get? b=some u->h'.get? b=some u)
  (ho:∀b,H b=some (.own a)->H' b=some (.own a)) (ht:∀b xs,H b=some (.tup xs)->H' b=some (.tup xs)):dc P w H' h' a o:=by
 induction o with
 |lst xs=>obtain⟨z,its,n,r,e⟩:=x;exact⟨z,its,n,r,k _ _ (.inl rfl) e⟩
 |tup xs=>obtain⟨z,its,r,ob,e,c⟩:=x;exact⟨z,its,r,ob,k _ _ (.inl rfl) e,c⟩
 |dK kvs=>obtain⟨z,y,vs,r,ob,es,ep,e,c⟩:=x;exact⟨z,y,vs,r,ob,es,ep,k _ _ (.inl rfl) e,c⟩
 |dT kvs=>
  obtain⟨z,y,xs,r,ob,es,ep,e,c⟩:=x
  exact⟨z,y,xs,Paired.mapP r fun p q z=>⟨z.1,ht _ _ z.2.1,z.2.2⟩,ob,es,ep,k _ _ (.inl rfl) e,c⟩
 |set S n=>obtain⟨ob,es,ep,t,e,c⟩:=x;exact⟨ob,es,ep,t,k _ _ (.inl rfl) e,c⟩
 |ins C dx fs=>
  obtain⟨d,z,ne,e,mA,⟨od,es,ep,e2,c⟩,r⟩:=x
  exact⟨ho _ d,z,ne,k _ _ (.inl rfl) e,mA,⟨od,es,ep,k _ _ (.inr d) e2,c⟩,r⟩
 |own y=>obtain⟨ob,e⟩:=x;exact⟨ob,k _ _ (.inl rfl) e⟩
 |xd fs=>obtain⟨mA,⟨od,es,ep,e,c⟩,r⟩:=x;exact⟨mA,⟨od,es,ep,k _ _ (.inl rfl) e,c⟩,r⟩
 |rng lo hi=>obtain⟨t,u,v,e⟩:=x;exact⟨t,u,v,k _ _ (.inl rfl) e⟩
 |frz ob u ih=>obtain⟨e,q⟩:=x;exact⟨k _ _ (.inl rfl) e,ih q⟩
 |tbl ps=>
  have e:h.get? a=some {cls:=.none,data:=.fields ps}:=x
  show h'.get? a=some {cls:=.none,data:=.fields ps}
  exact k a _ (.inl rfl) e
 |met f y=>
  have e:h.get? a=some (Wc (.ref f) (.ref y)):=x
  show h'.get? a=some (Wc (.ref f) (.ref y))
  exact k a _ (.inl rfl) e
 |ext φ=>obtain⟨p,⟨o,e⟩,st⟩:=x;exact⟨st _ _ p fun o q=>k _ _ (.inl rfl) q,⟨o,k _ _ (.inl rfl) e⟩,st⟩
theorem oj.lt(x:oj P w H h)(e:H a=some o):a<h.objs.size:=(x a o e).lt
theorem oj.fresh(x:oj P w H h)(e:h.objs.size<=a):H a=none:=by
 cases q:H a with
 |none=>rfl
 |some u=>exact absurd (QE (x.lt q) e) (RA _)
theorem oj.kept(x:oj P w H h)(k:∀b u,h.get? b=some u->h'.get? b=some u):oj P w H h':=fun a o e=>
 (x a o e).stay (fun b u _ q=>k b u q) (fun _ q=>q) fun _ _ q=>q
theorem oj.laid(x:oj P w H h)(k:∀b u,h.get? b=some u->h'.get? b=some u)(hp:h.objs.size<=a)(new:dc P w (upd H a o) h' a o):oj P w (upd H a o) h':=fun b u e=>by
 have hn:=x.fresh hp
 by_cases hb:b=a
 ·subst hb;rw[ax]at e;cases e;exact new
 ·rw[ak hb]at e
  exact(x b u e).stay (fun c v _ q=>k c v q) (fun c q=>by rw[ak (bc q hn)];exact q) fun c xs q=>by rw[ak (bc q hn)];exact q
end
noncomputable def Rd(H:Hp)(a:PK)(u:HO):Prop:=H a=some u\/∃o,H a=some (.frz o u)
theorem Rd.ok{P:Qc}{w:P8}{H:Hp}{h:P0}{a:PK}{u:HO}(r:Rd H a u)(x:oj P w H h):dc P w H h a u:=by
 rcases r with r|⟨o,r⟩
 ·exact x a u r
 ·obtain⟨_,q⟩:=x a _ r
  exact q
noncomputable def Ou:Option HO->Prop
 |some (.lst _)=>True
 |some (.dK _)=>True
 |some (.dT _)=>True
 |some (.set _ _)=>True
 |some (.ins _ _ _)=>True
 |some (.ext _)=>True
 |_=>False
section
variable {P:Qc}{w:P8}{H:Hp}{h h':P0}{x e:PK}{o':HO}
theorem oj.write(ok:oj P w H h)(mu:Ou (H x))(he:e=x\/H e=some (.own x))(k:∀b u,b≠e->h.get? b=some u->h'.get? b=some u)(heo:∃u,h'.get? e=some u)
  (new:dc P w (upd H x o') h' x o'):oj P w (upd H x o') h':=fun b u q=>by
 have nown:∀c y,H c=some (.own y)->c≠x:=fun c y r z=>by subst z;rw[r]at mu;exact mu
 have ntup:∀c xs,H c=some (.tup xs)->c≠x:=fun c xs r z=>by subst z;rw[r]at mu;exact mu
 by_cases hb:b=x
 ·subst hb;rw[ax]at q;cases q;exact new
 ·rw[ak hb]at q
  by_cases hbe:b=e
  ·have q':H b=some (.own x):=by
    rcases he with z|z
    ·exact absurd (hbe.trans z) hb
    ·rw[hbe];exact z
   rw[q]at q';cases q'
   obtain⟨v,hv⟩:=heo
   exact⟨v,by rw[hbe];exact hv⟩
  ·refine(ok b u q).stay (fun c v hc r=>k c v ?_ r) (fun c r=>by rw[ak (nown c b r)];exact r) fun c xs r=>by rw[ak (ntup c xs r)];exact r
   rcases hc with rfl|hc
   ·exact hbe
   ·rintro rfl
    rcases he with z|z
    ·exact nown c b hc z
    ·rw[hc]at z;cases z;exact hb rfl
end
structure Un(fs ex:List PK)(H H':Hp)(h h':P0):Prop where
 keep:∀b o,h.get? b=some o->H b=none->b∉fs->b∉ex->h'.get? b=some o
 slot:∀b o,h.get? b=some o->H b=none->b∈fs->b∉ex->∃sl,h'.get? b=some {o with slots:=sl}
 free:∀b o,h.get? b=some o->H b=none->b∉ex->H' b=none
 there:∀b o,h.get? b=some o->b∉ex->∃o',h'.get? b=some o'
 tups:∀b xs,H b=some (.tup xs)->H' b=some (.tup xs)
 frzs:∀b o u,H b=some (.frz o u)->H' b=some (.frz o u)
 tbls:∀b ps,H b=some (.tbl ps)->∃more,H' b=some (.tbl (ps++more))
section
variable {fs fs' ex ex':List PK}{H H1 H2:Hp}{h h1 h2 h':P0}{a x e:PK}{o:HO}
theorem Un.any(u:Un fs ex H H1 h h1){b:PK}{ob:PV}(q:h.get? b=some ob)(n:H b=none)(hx:b∉ex):∃sl,h1.get? b=some {ob with slots:=sl}:=by
 by_cases hb:b∈fs
 ·exact u.slot b ob q n hb hx
 ·exact⟨ob.slots,u.keep b ob q n hb hx⟩
theorem Un.kept(k:∀b u,h.get? b=some u->h'.get? b=some u):Un fs ex H H h h':=
 ⟨fun b ob q _ _ _=>k b ob q,fun b ob q _ _ _=>⟨ob.slots,k b ob q⟩,fun _ _ _ n _=>n,fun b ob q _=>⟨ob,k b ob q⟩,fun _ _ q=>q,fun _ _ _ q=>q,fun _ ps q=>⟨#[],by rw[q];simp⟩⟩
theorem Un.refl:Un fs ex H H h h:=Un.kept fun _ _ q=>q
theorem Un.laid(k:∀b u,h.get? b=some u->h'.get? b=some u)(hp:h.objs.size<=a)(hn:H a=none):Un fs ex H (upd H a o) h h' where
 keep:=fun b u q _ _ _=>k b u q
 slot:=fun b u q _ _ _=>⟨u.slots,k b u q⟩
 free:=fun b u q n _=>by rw[ak (Qt (QE (Qk q) hp))];exact n
 there:=fun b u q _=>⟨u,k b u q⟩
 tups:=fun b xs q=>by rw[ak (bc q hn)];exact q
 frzs:=fun b u xs q=>by rw[ak (bc q hn)];exact q
 tbls:=fun b ps q=>⟨#[],by rw[ak (bc q hn),q];simp⟩
theorem Un.write(mu:Ou (H x))(he:e=x\/H e=some (.own x))(k:∀b u,b≠e->h.get? b=some u->h'.get? b=some u)(heo:∃u,h'.get? e=some u):Un fs ex H (upd H x o) h h':=by
 have hx:∀b,H b=none->b≠x:=fun b n z=>by subst z;rw[n]at mu;exact mu
 have hb:∀b,H b=none->b≠e:=fun b n z=>by
  subst z
  rcases he with r|r
  ·exact hx b n r
  ·rw[n]at r;cases r
 have hm:∀b u,H b=some u->¬Ou (some u)->b≠x:=fun b u q nm z=>by subst z;rw[q]at mu;exact nm mu
 refine⟨fun b u q n _ _=>k b u (hb b n) q,fun b u q n _ _=>⟨u.slots,k b u (hb b n) q⟩,fun b u q n _=>by rw[ak (hx b n)];exact n,fun b u q _=>?_,
  fun b xs q=>by rw[ak (hm b _ q fun z=>z)];exact q,fun b u xs q=>by rw[ak (hm b _ q fun z=>z)];exact q,fun b ps q=>⟨#[],by rw[ak (hm b _ q fun z=>z),q];simp⟩⟩
 by_cases hbe:b=e
 ·subst hbe;exact heo
 ·exact⟨u,k b u hbe q⟩
theorem Un.mono(u:Un fs ex H H1 h h1)(hs:∀b∈fs,b∈fs')(hx:∀b∈ex,b∈ex'):Un fs' ex' H H1 h h1:=
 ⟨fun b ob q n hb he=>u.keep b ob q n (fun z=>hb (hs b z)) fun z=>he (hx b z),fun _ _ q n _ he=>u.any q n fun z=>he (hx _ z),fun b ob q n he=>u.free b ob q n fun z=>he (hx b z),fun b ob q he=>u.there b ob q fun z=>he (hx b z),u.tups,u.frzs,u.tbls⟩
end
noncomputable def OT(h:P0)(H:Hp):List PK:=(P4 h.objs.size).filter fun a=>(H a).isSome
noncomputable def Bf(h:P0)(H:Hp):P0:=aax h (OT h H)
theorem Gx(h:P0)(H:Hp):(Bf h H).objs.size=h.objs.size:=aaK _ _
theorem J1{h:P0}{H:Hp}{b:PK}{o:PV}(e:h.get? b=some o)(n:H b=none):(Bf h H).get? b=some o:=
 Z8 _ e fun hm=>by
  have q:(H b).isSome=true:=(QL.mp hm).2
  rw[n]at q;simp at q
theorem Li{h:P0}{H:Hp}{b:PK}{o:PV}(e:(Bf h H).get? b=some o):h.get? b=some o/\H b=none:=by
 have e':h.get? b=some o:=Zz (OT h H) e
 exists e'
 cases q:H b with
 |none=>rfl
 |some x=>
  have hm:b∈OT h H:=QL.mpr ⟨Q6.mpr (Qk e'),by simp[q]⟩
  have z:(Bf h H).get? b=none:=ZN (OT h H) hm
  rw[z]at e;cases e
structure Mod(K:PM)(mg:PH->Option PL)(base:P0):Prop where
 kin:K.In base
 glob:base.Ns QH mg
 blt:∃mb,base.Ns builtinsNs mb/\∀x:PH,x≠"__name__"->mb x=To x
 nolimit:base.NoLimit
structure Cx where
 prog:Qc
 w:P8
 K:PM
 mg:PH->Option PL
 base:P0
 A:Qg
 N:List PH
 s₀:PN
 H₀:Hp
 env:Qq
 outer:List Qq
 stack:List Qq
 ex:List PK
 fn:PH->Bool
 calm:Bool
 pn:List (PK×PV)
 xe:PL->PN->Prop
noncomputable def Ao(l:List Qq):List PK:=l.filterMap (·.frame)
noncomputable abbrev Cx.fs(X:Cx):List PK:=Ao X.outer
noncomputable def Mi(sc:QT)(x:PH):Prop:=sc.names.lookup x=some .local\/sc.names.lookup x=some .cell\/sc.names.lookup x=some .free
noncomputable def Loc(sc:QT)(x:PH):Prop:=sc.names.lookup x=some .local\/sc.names.lookup x=some .cell
noncomputable def Look(env:Qq)(h:P0)(m:PH->Option PL)(x:PH)(u:PL):Prop:=
 (env.kindOf x=some .local/\m x=some u)\/((env.kindOf x=some .cell\/env.kindOf x=some .free)/\∃c,env.cells.lookup x=some c/\h.IsCell c (some u))
structure Cx.Ok(X:Cx):Prop where
 mod:Mod X.K X.mg X.base
 kind:X.env.scope.kind=.function
 glob:X.env.globals=QH
 blt:X.env.builtins=builtinsNs
 above:X.s₀.heap.objs.size<=X.env.locals
 inj:∀x y c,X.env.cells.lookup x=some c->X.env.cells.lookup y=some c->x=y
 has:∀x,(X.env.kindOf x=some .cell\/X.env.kindOf x=some .free)->∃c,X.env.cells.lookup x=some c
 cab:∀x c,X.fn x=true->X.env.cells.lookup x=some c->X.s₀.heap.objs.size<=c
 hd:X.calm=true->X.A.handled=none
 frames:X.A.frames=some X.stack
 stk:X.stack=X.outer\/(X.stack=X.env::X.outer/\X.env.frame=some X.env.locals)
 exf:∀b∈X.ex,b≠X.env.locals/\∀x c,X.env.cells.lookup x=some c->c≠b
 bs:∀b o,X.base.get? b=some o->X.s₀.heap.get? b=some o/\X.H₀ b=none
 bsz:X.base.objs.size<=X.s₀.heap.objs.size
 noex:∀b o,X.base.get? b=some o->b∉X.ex
 exfs:∀b∈X.ex,b∉X.fs
 funs:X.s₀.heap.FunFrames X.base X.outer
 frf:∀b∈X.fs,X.H₀ b=none
structure Inv(X:Cx)(pins:List (PK×PV))(σ:List (Option V))(H:Hp)(s:PN):Prop where
 ok:X.Ok
 os:s.os=X.s₀.os
 bare:R3 s.gens
 base:Un X.fs X.ex X.H₀ H X.s₀.heap s.heap
 loc:∃m,s.heap.Ns X.env.locals m/\∀(i:Nat)(x:PH)(v:V),X.N[i]?=some x->σ[i]?=some (some v)->Mi X.env.scope x->∃u,RelV v u/\Look X.env s.heap m x u
 cell:∀x c,X.env.cells.lookup x=some c->∃v,s.heap.IsCell c v
 free:H X.env.locals=none
 freeC:∀x c,X.env.cells.lookup x=some c->H c=none
 pin:∀p∈X.pn++pins,s.heap.get? p.1=some p.2/\H p.1=none/\p.1≠X.env.locals/\p.1∉X.fs/\∀v,p.2.data≠.cell v
 hok:oj X.prog X.w H s.heap
 len:σ.length=X.N.length
section
variable {X:Cx}{pins:List (PK×PV)}{σ:List (Option V)}{H H':Hp}{s:PN}{h':P0}
theorem Cx.Ok.nofr(ok:X.Ok){b:PK}{o:PV}(e:X.base.get? b=some o):b∉X.fs:=fun hb=>by
 have:=(ok.funs.mem hb).1
 rw[e]at this;cases this
theorem Inv.bs(I:Inv X pins σ H s):∀b o,X.base.get? b=some o->s.heap.get? b=some o/\H b=none:=fun b o e=>
 ⟨I.base.keep b o (I.ok.bs b o e).1 (I.ok.bs b o e).2 (I.ok.nofr e) (I.ok.noex b o e),I.base.free b o (I.ok.bs b o e).1 (I.ok.bs b o e).2 (I.ok.noex b o e)⟩
theorem Inv.bk(I:Inv X pins σ H s):∀b o,X.base.get? b=some o->s.heap.get? b=some o:=fun b o e=>(I.bs b o e).1
theorem Inv.mod(I:Inv X pins σ H s):Mod X.K X.mg X.base:=I.ok.mod
theorem Inv.kIn(I:Inv X pins σ H s):X.K.In s.heap:=I.ok.mod.kin.keeps I.bk
theorem Inv.lt(I:Inv X pins σ H s):X.env.locals<s.heap.objs.size:=let ⟨_,hn,_⟩:=I.loc;hn.lt
theorem Inv.sz(I:Inv X pins σ H s):X.s₀.heap.objs.size<=s.heap.objs.size:=P6 I.ok.above (SN I.lt)
theorem Inv.nofs(I:Inv X pins σ H s){a:PK}(h:s.heap.objs.size<=a):a∉X.fs:=fun hb=>by
 obtain⟨_,o,ho,_⟩:=I.ok.funs.mem hb
 exact absurd (QE (Qk ho) (P6 I.sz h)) (RA _)
theorem Inv.cne(I:Inv X pins σ H s):∀x c,X.env.cells.lookup x=some c->c≠X.env.locals:=fun x c e z=>by
 obtain⟨v,o,ho,hd⟩:=I.cell x c e
 obtain⟨m,⟨o',es,ep,ho',hd',_⟩,_⟩:=I.loc
 rw[z,ho']at ho;cases ho;rw[hd']at hd;cases hd
theorem Inv.funs(I:Inv X pins σ H s):s.heap.FunFrames X.base X.outer:=by
 have all:∀(l:List Qq),(∀b∈Ao l,b∈X.fs)->X.s₀.heap.FunFrames X.base l->s.heap.FunFrames X.base l:=by
  intro l
  induction l with
  |nil=>intro _ _;trivial
  |cons env r ih=>
   intro hs hl
   obtain⟨hk,⟨L,o,hf,hn,ho,hd⟩,hr⟩:=hl
   have hL:L∈X.fs:=hs L (by unfold Ao;rw[VN,hf];exact QI)
   obtain⟨sl,e⟩:=I.base.slot L o ho (I.ok.frf L hL) hL fun z=>I.ok.exfs L z hL
   exact⟨hk,⟨L,_,hf,hn,e,hd⟩,ih (fun b hb=>hs b (by unfold Ao;rw[VN,hf];exact Qs _ hb)) hr⟩
 exact all X.outer (fun _ hb=>hb) I.ok.funs
theorem Inv.stack(I:Inv X pins σ H s):s.heap.FunFrames X.base X.stack:=by
 rcases I.ok.stk with e|⟨e,hf⟩
 ·rw[e];exact I.funs
 ·rw[e]
  obtain⟨m,hn,_⟩:=I.loc
  refine .cons (by rw[I.ok.kind];decide) hf hn ?_ I.funs
  exact Ux (P6 I.ok.bsz I.ok.above)
theorem Inv.stkSub(I:Inv X pins σ H s):∀b∈Ao X.stack,b∈X.env.locals::X.fs:=fun b hb=>by
 rcases I.ok.stk with e|⟨e,hf⟩
 ·rw[e]at hb;exact Qs _ hb
 ·rw[e]at hb
  unfold Ao at hb
  rw[VN,hf]at hb
  exact hb
theorem Inv.stkFree(I:Inv X pins σ H s):∀b∈Ao X.stack,H b=none:=fun b hb=>by
 rcases Qa.mp (I.stkSub b hb)with e|hb
 ·rw[e];exact I.free
 ·obtain⟨_,o,ho,_⟩:=I.ok.funs.mem hb
  exact I.base.free b o ho (I.ok.frf b hb) fun z=>I.ok.exfs b z hb
theorem Inv.step{g':Array GenState}{t':Nat}{d':Drawn}{ch:List PK}(I:Inv X pins σ H s)
  (hch:∀b∈ch,(b∈X.ex\/X.s₀.heap.objs.size<=b)/\b≠X.env.locals/\(∀x c,X.env.cells.lookup x=some c->c≠b)/\∀p∈X.pn++pins,p.1≠b)
  (keep:∀b o,b≠X.env.locals->b∉X.fs->b∉ch->s.heap.get? b=some o->H b=none->h'.get? b=some o)
  (slot:∀b o,b≠X.env.locals->b∈X.fs->b∉ch->s.heap.get? b=some o->H b=none->∃sl,h'.get? b=some {o with slots:=sl}) (free:∀b o,b∉ch->s.heap.get? b=some o->H b=none->H' b=none)
  (there:∀b o,b∉ch->s.heap.get? b=some o->∃o',h'.get? b=some o')
  (tups:∀b xs,H b=some (.tup xs)->H' b=some (.tup xs)) (frzs:∀b o u,H b=some (.frz o u)->H' b=some (.frz o u)) (tbls:∀b ps,H b=some (.tbl ps)->∃more,H' b=some (.tbl (ps++more)))
  (ns:∀m,s.heap.Ns X.env.locals m->h'.Ns X.env.locals m) (hok:oj X.prog X.w H' h') (hg:R3 g'):
  Inv X pins σ H' {s with heap:=h',gens:=g',drawn:=d',toks:=t'}:=by
 have neL:∀b o,X.s₀.heap.get? b=some o->b≠X.env.locals:=fun b o e=>Qt (QE (Qk e) I.ok.above)
 have neC:∀b o,X.s₀.heap.get? b=some o->b∉X.ex->b∉ch:=fun b o e hx hb=>by
  rcases(hch b hb).1 with z|z
  ·exact hx z
  ·exact absurd (QE (Qk e) z) (RA _)
 have cellK:∀x c,X.env.cells.lookup x=some c->∀v,s.heap.IsCell c v->h'.IsCell c v:=fun x c e v ⟨o,ho,hd⟩=>by
  have nch:c∉ch:=fun z=>(hch c z).2.2.1 x c e rfl
  by_cases hc:c∈X.fs
  ·obtain⟨sl,q⟩:=slot c o (I.cne x c e) hc nch ho (I.freeC x c e)
   exact⟨_,q,hd⟩
  ·exact⟨o,keep c o (I.cne x c e) hc nch ho (I.freeC x c e),hd⟩
 refine⟨I.ok,I.os,hg,⟨fun b o e n hb hx=>?_,fun b o e n hb hx=>?_,fun b o e n hx=>?_,fun b o e hx=>?_,fun b xs e=>tups b xs (I.base.tups b xs e),fun b o xs e=>frzs b o xs (I.base.frzs b o xs e),fun b ps e=>?_⟩,?_,fun x c e=>?_,?_,fun x c e=>?_,fun p hp=>?_,hok,I.len⟩
 ·exact keep b o (neL b o e) hb (neC b o e hx) (I.base.keep b o e n hb hx) (I.base.free b o e n hx)
 ·obtain⟨sl,e1⟩:=I.base.slot b o e n hb hx
  obtain⟨sl',e2⟩:=slot b _ (neL b o e) hb (neC b o e hx) e1 (I.base.free b o e n hx)
  exact⟨sl',e2⟩
 ·obtain⟨o',e1⟩:=I.base.there b o e hx
  exact free b o' (neC b o e hx) e1 (I.base.free b o e n hx)
 ·obtain⟨o',e1⟩:=I.base.there b o e hx
  exact there b o' (neC b o e hx) e1
 ·obtain⟨m1,e1⟩:=I.base.tbls b ps e
  obtain⟨m2,e2⟩:=tbls b _ e1
  exact⟨m1++m2,by rw[e2,Array.append_assoc]⟩
 ·obtain⟨m,hn,hl⟩:=I.loc
  refine⟨m,ns m hn,fun i x v e1 e2 e3=>?_⟩
  obtain⟨u,r,l⟩:=hl i x v e1 e2 e3
  exists u,r
  rcases l with l|⟨k,c,e,z⟩
  ·exact .inl l
  ·exact .inr ⟨k,c,e,cellK x c e _ z⟩
 ·obtain⟨v,z⟩:=I.cell x c e
  exact⟨v,cellK x c e v z⟩
 ·obtain⟨m,⟨o,_,_,ho,_⟩,_⟩:=I.loc
  exact free _ o (fun z=>(hch _ z).2.1 rfl) ho I.free
 ·obtain⟨v,o,ho,hd⟩:=I.cell x c e
  exact free c o (fun z=>(hch c z).2.2.1 x c e rfl) ho (I.freeC x c e)
 ·obtain⟨e,n,ne,nf,d⟩:=I.pin p hp
  have nch:p.1∉ch:=fun z=>(hch p.1 z).2.2.2 p hp rfl
  exact⟨keep p.1 p.2 ne nf nch e n,free p.1 p.2 nch e n,ne,nf,d⟩
theorem Inv.un{t':Nat}(I:Inv X pins σ H s)(u:Un X.fs [] H H' s.heap h')(hok:oj X.prog X.w H' h'):Inv X pins σ H' {s with heap:=h',toks:=t'}:=by
 obtain⟨m,⟨o,es,ep,ho,r⟩,_⟩:=id I.loc
 obtain⟨sl,hL⟩:=u.any ho I.free (by simp)
 exact I.step (g':=s.gens) (d':=s.drawn) (ch:=[]) (fun _ z=>nomatch z) (fun b o _ hb _ e n=>u.keep b o e n hb (by simp)) (fun b o _ hb _ e n=>u.slot b o e n hb (by simp)) (fun b o _ e n=>u.free b o e n (by simp)) (fun b o _ e=>u.there b o e (by simp)) u.tups u.frzs u.tbls (fun m' hm=>by
  obtain⟨o',es',ep',ho',r'⟩:=hm
  rw[ho]at ho';cases ho'
  exact⟨_,es',ep',hL,r'⟩) hok I.bare
theorem Inv.call{g':Array GenState}{t':Nat}{d':Drawn}{ch:List PK}(I:Inv X pins σ H s)(u:Un (Ao X.stack) ch H H' s.heap h')(hok:oj X.prog X.w H' h')(hg:R3 g')
  (hch:∀b∈ch,(b∈X.ex\/X.s₀.heap.objs.size<=b)/\b≠X.env.locals/\(∀x c,X.env.cells.lookup x=some c->c≠b)/\∀p∈X.pn++pins,p.1≠b):
  Inv X pins σ H' {s with heap:=h',gens:=g',drawn:=d',toks:=t'}:=by
 obtain⟨m,⟨o,es,ep,ho,r⟩,_⟩:=id I.loc
 obtain⟨sl,hL⟩:=u.any ho I.free fun z=>(hch _ z).2.1 rfl
 exact I.step (ch:=ch) hch (fun b o hL hb hc e n=>u.keep b o e n (fun z=>(Qa.mp (I.stkSub b z)).elim hL hb) hc) (fun b o _ _ hc e n=>u.any e n hc) (fun b o hc e n=>u.free b o e n hc) (fun b o hc e=>u.there b o e hc) u.tups u.frzs u.tbls (fun m' hm=>by
  obtain⟨o',es',ep',ho',r'⟩:=hm
  rw[ho]at ho';cases ho'
  exact⟨_,es',ep',hL,r'⟩) hok hg
theorem Inv.turned{t':Nat}{it:PK}(I:Inv X pins σ H s)(k:∀b o,b≠it->s.heap.get? b=some o->h'.get? b=some o)(hn:H it=none)(hL:it≠X.env.locals)
  (h1:it∈X.ex\/X.s₀.heap.objs.size<=it) (h2:∀x c,X.env.cells.lookup x=some c->c≠it) (h3:∀p∈X.pn++pins,p.1≠it):Inv X pins σ H {s with heap:=h',toks:=t'}:=by
 have nit:∀b u,H b=some u->b≠it:=fun b u e z=>by rw[z,hn]at e;cases e
 refine I.step (g':=s.gens) (d':=s.drawn) (ch:=[it]) (fun b hb=>?_) (fun b o _ _ hc e _=>k b o (fun z=>hc (by simp[z])) e) (fun b o _ _ hc e _=>⟨o.slots,k b o (fun z=>hc (by simp[z])) e⟩) (fun _ _ _ _ n=>n)
  (fun b o hc e=>⟨o,k b o (fun z=>hc (by simp[z])) e⟩) (fun _ _ e=>e) (fun _ _ _ e=>e) (fun b ps e=>⟨#[],by rw[e];simp⟩) (fun m hm=>?_) (fun b u e=>?_) I.bare
 ·have e:b=it:=by simpa using hb
  subst e
  exact⟨h1,hL,h2,h3⟩
 ·obtain⟨o,es,ep,ho,r⟩:=hm
  exact⟨o,es,ep,k _ o (Qy hL) ho,r⟩
 ·refine(I.hok b u e).stay (fun c v hc q=>k c v ?_ q) (fun _ q=>q) fun _ _ q=>q
  rcases hc with z|z
  ·rw[z];exact nit b u e
  ·exact nit c _ z
theorem Inv.tok(I:Inv X pins σ H s)(t:Nat):Inv X pins σ H {s with toks:=t}:=I.un (h':=s.heap) (t':=t) Un.refl I.hok
theorem Inv.kept{t':Nat}(I:Inv X pins σ H s)(k:∀b u,s.heap.get? b=some u->h'.get? b=some u):Inv X pins σ H {s with heap:=h',toks:=t'}:=I.un (Un.kept k) (I.hok.kept k)
theorem Inv.laid{a:PK}{o:HO}{t':Nat}(I:Inv X pins σ H s)(k:∀b u,s.heap.get? b=some u->h'.get? b=some u)(hp:s.heap.objs.size<=a)(new:dc X.prog X.w (upd H a o) h' a o):
  Inv X pins σ (upd H a o) {s with heap:=h',toks:=t'}:=I.un (Un.laid k hp (I.hok.fresh hp)) (I.hok.laid k hp new)
theorem Inv.write{x e:PK}{o:HO}{t':Nat}(I:Inv X pins σ H s)(mu:Ou (H x))(he:e=x\/H e=some (.own x))(k:∀b u,b≠e->s.heap.get? b=some u->h'.get? b=some u)(heo:∃u,h'.get? e=some u)
  (new:dc X.prog X.w (upd H x o) h' x o):Inv X pins σ (upd H x o) {s with heap:=h',toks:=t'}:=I.un (Un.write mu he k heo) (I.hok.write mu he k heo new)
theorem Inv.pins_of{pins':List (PK×PV)}(I:Inv X pins σ H s)(h:∀p∈pins',s.heap.get? p.1=some p.2/\H p.1=none/\p.1≠X.env.locals/\p.1∉X.fs/\∀v,p.2.data≠.cell v):Inv X pins' σ H s:=
 ⟨I.ok,I.os,I.bare,I.base,I.loc,I.cell,I.free,I.freeC,fun p hp=>(QC.mp hp).elim (fun z=>I.pin p (SW _ z)) (h p),I.hok,I.len⟩
theorem wA{N:List PH}(hN:N.Nodup){i j:Nat}{x:PH}(a:N[i]?=some x)(b:N[j]?=some x):i=j:=by
 obtain⟨h1,e1⟩:=QN.mp a
 obtain⟨h2,e2⟩:=QN.mp b
 exact(List.getElem_inj hN).mp (e1.trans e2.symm)
theorem zL{M:Model}{A:Qg}{E:PL->PN->Prop}{i:Nat}{x:PH}{v:V}{u:PL}{Q:Unit->PN->Prop}(I:Inv X pins σ H s)(hN:X.N.Nodup)(hi:X.N[i]?=some x)(hx:Loc X.env.scope x)(r:RelV v u)
  (h:∀s',Inv X pins (σ.set i (some v)) H s'->(∃a,RT a s.heap s'.heap/\(a=X.env.locals\/X.env.cells.lookup x=some a))->Q () s') (hf:X.fn x=true\/X.env.scope.names.lookup x=some .local:=by first|exact .inl rfl|exact .inr rfl|assumption):PQ M A (storeName X.env x u) Q E s:=by
 obtain⟨m,hn,hl⟩:=id I.loc
 have hcls:(X.env.scope.kind==.class || (X.env.scope.kind==.module&&X.env.locals != X.env.globals))=false:=by rw[I.ok.kind];rfl
 have hiσ:i<σ.length:=by rw[I.len];exact(QN.mp hi).1
 have cne:=I.cne
 have tracked:∀{a:PK}{h':P0},(∃o,s.heap.get? a=some o/\H a=none)->RT a s.heap h'->oj X.prog X.w H h':=fun {a h'} ha hs b ob e=>by
  obtain⟨_,_,hfree⟩:=ha
  refine(I.hok b ob e).stay (fun c w' hc q=>(hs.2 c ?_).trans q) (fun _ q=>q) fun _ _ q=>q
  rintro rfl
  rcases hc with rfl|hc
  ·rw[hfree]at e;cases e
  ·rw[hfree]at hc;cases hc
 rcases hx with hk|hk
 ·refine wpAny_storeName_local hk hn (fun h' hn' hs=>?_) hcls
  obtain⟨oL,_,_,hoL,_⟩:=id hn
  refine h _ ⟨I.ok,I.os,I.bare,⟨fun b o e n hb hx=>?_,fun b o e n hb hx=>?_,I.base.free,fun b o e hx=>?_,I.base.tups,I.base.frzs,I.base.tbls⟩,⟨_,hn',fun j y v' e1 e2 e3=>?_⟩,fun y c e=>?_,I.free,I.freeC,fun p hp=>?_,tracked ⟨oL,hoL,I.free⟩ hs,by simpa using I.len⟩ ⟨_,hs,.inl rfl⟩
  ·exact(hs.2 b (Qt (QE (Qk e) I.ok.above))).trans (I.base.keep b o e n hb hx)
  ·obtain⟨sl,e1⟩:=I.base.slot b o e n hb hx
   exact⟨sl,(hs.2 b (Qt (QE (Qk e) I.ok.above))).trans e1⟩
  ·obtain⟨o',e1⟩:=I.base.there b o e hx
   exact⟨o',(hs.2 b (Qt (QE (Qk e) I.ok.above))).trans e1⟩
  ·by_cases hj:j=i
   ·subst hj
    rw[hi]at e1;cases e1
    rw[Vk hiσ]at e2
    cases e2
    exact⟨u,r,.inl ⟨hk,by simp⟩⟩
   ·rw[Wb (Qy hj)]at e2
    obtain⟨u',r',q⟩:=hl j y v' e1 e2 e3
    exists u',r'
    rcases q with⟨k,e⟩|⟨k,c,e,z⟩
    ·refine .inl ⟨k,?_⟩
     have:y≠x:=fun e=>hj (wA hN e1 (e▸hi))
     simp[this,e]
    ·exact .inr ⟨k,c,e,z.sameBut hs (cne y c e)⟩
  ·obtain⟨w',z⟩:=I.cell y c e
   exact⟨w',z.sameBut hs (cne y c e)⟩
  ·obtain⟨e,n,ne,nf,d⟩:=I.pin p hp
   exact⟨(hs.2 p.1 ne).trans e,n,ne,nf,d⟩
 ·have hfn:X.fn x=true:=by
   rcases hf with z|z
   ·exact z
   ·rw[z]at hk;cases hk
  obtain⟨c,hc⟩:=I.ok.has x (.inl hk)
  obtain⟨w',z⟩:=I.cell x c hc
  refine wpAny_storeName_cell I.ok.kind hk hc z (fun h' hc' hs=>?_)
  obtain⟨oc,hoc,hocd⟩:=id z
  refine h {s with heap:=h'} ⟨I.ok,I.os,I.bare,⟨fun b o e n hb hx=>?_,fun b o e n hb hx=>?_,I.base.free,fun b o e hx=>?_,I.base.tups,I.base.frzs,I.base.tbls⟩,⟨m,hn.sameBut hs (Qy (cne x c hc)),fun j y v' e1 e2 e3=>?_⟩,fun y c' e=>?_,I.free,I.freeC,fun p hp=>?_,tracked ⟨oc,hoc,I.freeC x c hc⟩ hs,by simpa using I.len⟩ ⟨c,hs,.inr hc⟩
  ·exact(hs.2 b (Qt (QE (Qk e) (I.ok.cab x c hfn hc)))).trans (I.base.keep b o e n hb hx)
  ·obtain⟨sl,e1⟩:=I.base.slot b o e n hb hx
   exact⟨sl,(hs.2 b (Qt (QE (Qk e) (I.ok.cab x c hfn hc)))).trans e1⟩
  ·obtain⟨o',e1⟩:=I.base.there b o e hx
   exact⟨o',(hs.2 b (Qt (QE (Qk e) (I.ok.cab x c hfn hc)))).trans e1⟩
  ·by_cases hj:j=i
   ·subst hj
    rw[hi]at e1;cases e1
    rw[Vk hiσ]at e2
    cases e2
    exact⟨u,r,.inr ⟨.inl hk,c,hc,hc'⟩⟩
   ·rw[Wb (Qy hj)]at e2
    obtain⟨u',r',q⟩:=hl j y v' e1 e2 e3
    exists u',r'
    rcases q with q|⟨k,c',e,z'⟩
    ·exact .inl q
    ·refine .inr ⟨k,c',e,z'.sameBut hs ?_⟩
     rintro rfl
     exact hj (wA hN e1 (I.ok.inj _ _ _ e hc▸hi))
  ·by_cases hcc:c'=c
   ·subst hcc;exact⟨_,hc'⟩
   ·obtain⟨w2,z2⟩:=I.cell y c' e
    exact⟨w2,z2.sameBut hs hcc⟩
  ·obtain⟨e,n,ne,nf,d⟩:=I.pin p hp
   refine⟨(hs.2 p.1 ?_).trans e,n,ne,nf,d⟩
   intro q
   rw[q,hoc]at e
   have q':oc=p.2:=QW e
   exact d w' (by rw[<-q'];exact hocd)
theorem mU{M:Model}{A:Qg}{E:PL->PN->Prop}{i:Nat}{x:PH}{v:V}{u:PL}{Q:Unit->PN->Prop}(I:Inv X pins σ H s)(hN:X.N.Nodup)(hi:X.N[i]?=some x)(hx:Loc X.env.scope x)(r:RelV v u)
  (h:∀s',Inv X pins (σ.set i (some v)) H s'->Q () s') (hf:X.fn x=true\/X.env.scope.names.lookup x=some .local:=by first|exact .inl rfl|exact .inr rfl|assumption):PQ M A (storeName X.env x u) Q E s:=
 zL I hN hi hx r (fun s' I' _=>h s' I') hf
theorem Inv.call'{s':PN}{ch:List PK}(I:Inv X pins σ H s)(ho:s'.os=s.os)(u:Un (Ao X.stack) ch H H' s.heap s'.heap)(hok:oj X.prog X.w H' s'.heap)(hg:R3 s'.gens)
  (hch:∀b∈ch,(b∈X.ex\/X.s₀.heap.objs.size<=b)/\b≠X.env.locals/\(∀x c,X.env.cells.lookup x=some c->c≠b)/\∀p∈X.pn++pins,p.1≠b):Inv X pins σ H' s':=by
 obtain⟨h',g',d',t',o'⟩:=s'
 have e:o'=s.os:=ho
 subst e
 exact I.call (g':=g') (t':=t') (d':=d') u hok hg hch
end
noncomputable abbrev XK:=PL->Option PK->Hp->Prop
noncomputable abbrev St:=List (Option V)
noncomputable abbrev VK:=V->Hp->Prop
noncomputable abbrev TE:=St->Hp->VK->Prop
noncomputable abbrev TT:=St->Hp->(Bool->Hp->Prop)->Prop
noncomputable abbrev TA:=St->Hp->(List V->Hp->Prop)->Prop
structure Ends where
 nx:St->Hp->Prop
 rt:VK
 bk:St->Hp->Prop:=fun _ _=>False
 ct:St->Hp->Prop:=fun _ _=>False
noncomputable abbrev TS:=Ends->St->Hp->Prop
noncomputable def EP(X:Cx)(pins:List (PK×PV))(σ:St)(Q:VK)(u:PL)(s':PN):Prop:=∃v H',Inv X pins σ H' s'/\RelV v u/\Q v H'
noncomputable def TP(X:Cx)(pins:List (PK×PV))(σ:St)(Q:Bool->Hp->Prop)(b:Bool)(s':PN):Prop:=∃H',Inv X pins σ H' s'/\Q b H'
noncomputable def AP(X:Cx)(pins:List (PK×PV))(σ:St)(Q:List V->Hp->Prop)(us:List PL)(s':PN):Prop:=∃vs H',Inv X pins σ H' s'/\bR vs us/\Q vs H'
noncomputable def SP(X:Cx)(pins:List (PK×PV))(D:Ends)(f:Flow)(s':PN):Prop:=
 match f with
 |.next=>∃σ' H',Inv X pins σ' H' s'/\D.nx σ' H'
 |.brk=>∃σ' H',Inv X pins σ' H' s'/\D.bk σ' H'
 |.cont=>∃σ' H',Inv X pins σ' H' s'/\D.ct σ' H'
 |.ret u=>∃v σ' H',Inv X pins σ' H' s'/\RelV v u/\D.rt v H'
noncomputable def PE(X:Cx)(e:PY)(t:TE):Prop:=
 ∀(pins:List (PK×PV))(s:PN)(σ:St)(H:Hp)(Q:VK),Inv X pins σ H s->t σ H Q->PQ (model X.prog X.w) X.A (eval e X.env) (EP X pins σ Q) X.xe s
noncomputable def PT(X:Cx)(e:PY)(t:TT):Prop:=
 ∀(pins:List (PK×PV))(s:PN)(σ:St)(H:Hp)(Q:Bool->Hp->Prop),Inv X pins σ H s->t σ H Q->PQ (model X.prog X.w) X.A (isTrue e X.env (eval e X.env)) (TP X pins σ Q) X.xe s
noncomputable def PW(X:Cx)(e:PY)(t:TT):Prop:=
 ∀(whole:Sem PL)(pins:List (PK×PV))(s:PN)(σ:St)(H:Hp)(Q:Bool->Hp->Prop),Inv X pins σ H s->t σ H Q->PQ (model X.prog X.w) X.A (isTrue e X.env whole) (TP X pins σ Q) X.xe s
theorem PW.pt{X:Cx}{e:PY}{t:TT}(h:PW X e t):PT X e t:=h _
noncomputable def PA(X:Cx)(es:List PY)(t:TA):Prop:=
 ∀(pos:Qi)(pins:List (PK×PV))(s:PN)(σ:St)(H:Hp)(Q:List V->Hp->Prop),Inv X pins σ H s->t σ H Q->PQ (model X.prog X.w) X.A (spliced (QF pos (Qf es X.env))) (AP X pins σ Q) X.xe s
noncomputable def PS(X:Cx)(st:P5)(t:TS):Prop:=
 ∀(pins:List (PK×PV))(s:PN)(σ:St)(H:Hp)(D:Ends),Inv X pins σ H s->t D σ H->PQ (model X.prog X.w) X.A (exec st X.env) (SP X pins D) X.xe s
noncomputable def xI(X:Cx)(st:List P5)(t:TS):Prop:=
 ∀(pins:List (PK×PV))(s:PN)(σ:St)(H:Hp)(D:Ends),Inv X pins σ H s->t D σ H->PQ (model X.prog X.w) X.A (execs st X.env) (SP X pins D) X.xe s
theorem cI{α:Type}{t:Sem α}{Q Q':α->PN->Prop}{M:Model}{A:Qg}{E:PL->PN->Prop}{s:PN}(h:PQ M A t Q E s)(hQ:∀a s,Q a s->Q' a s):PQ M A t Q' E s:=Q5 h hQ fun _ _ x=>x
section
variable {X:Cx}
theorem bin{a b:PY}{ta tb:TE}(ha:PE X a ta)(hb:PE X b tb){pins:List (PK×PV)}{s:PN}{σ:St}{H:Hp}{R:V->V->Hp->Prop}(I:Inv X pins σ H s)(h:ta σ H fun x H1=>tb σ H1 fun y H2=>R x y H2)
  {α:Type}{Q:α->PN->Prop}{f:PL->PL->Sem α}
  (hf:∀v u s2 x y H2,Inv X pins σ H2 s2->RelV x v->RelV y u->R x y H2->PQ (model X.prog X.w) X.A (f v u) Q X.xe s2):
  PQ (model X.prog X.w) X.A (eval a X.env) (fun v s₁=>PQ (model X.prog X.w) X.A (eval b X.env) (fun u s₂=>PQ (model X.prog X.w) X.A (f v u) Q X.xe s₂) X.xe s₁) X.xe s:=by
 refine cI (ha pins s σ H _ I h) fun v s1 ⟨x,H1,I1,r1,q1⟩=>?_
 refine cI (hb pins s1 σ H1 _ I1 q1) fun u s2 ⟨y,H2,I2,r2,q2⟩=>?_
 exact hf v u s2 x y H2 I2 r1 r2 q2
noncomputable def af(i:Nat):TE:=fun σ H Q=>∃v,σ[i]?=some (some v)/\Q v H
noncomputable def tC(v:V):TE:=fun _ H Q=>Q v H
theorem MH{i:Nat}{x:PH}{pos:Qi}(hN:X.N[i]?=some x)(hv:Mi X.env.scope x)(hd:(x==("__debug__":PH))=false:=by decide)(hcd:(x==("__classdict__":PH))=false:=by decide):PE X (.Name x pos) (af i):=by
 intro pins s σ H Q I h
 obtain⟨v,e,h⟩:=h
 obtain⟨m,hn,hl⟩:=I.loc
 obtain⟨u,r,l⟩:=hl i x v hN e hv
 have fin:EP X pins σ Q u s:=⟨v,H,I,r,h⟩
 rcases l with⟨hk,hm⟩|⟨hk,c,hc,hcell⟩
 ·exact wpAny_Name (wpAny_loadName_local I.ok.kind hk hn hm fin) hd
 ·rcases hk with hk|hk
  ·exact wpAny_Name (wpAny_loadName_cell I.ok.kind hk hc hcell fin) hd
  ·exact wpAny_Name (wpAny_loadName_free I.ok.kind hk hc hcell fin hcd) hd
theorem ar{i j pos}:PE X (.Constant (.int i) j pos) (tC (.int i)):=fun _ _ _ H _ I h=>wpAny_Constant_int ⟨.int i,H,I.tok _,⟨_,rfl⟩,h⟩
theorem lW{b j pos}:PE X (.Constant (.bool b) j pos) (tC (.bl b)):=fun _ _ _ H _ I h=>Constant_bool ⟨.bl b,H,I,rfl,h⟩
theorem jh{j pos}:PE X (.Constant .none j pos) (tC .non):=fun _ _ _ H _ I h=>Constant_none ⟨.non,H,I,rfl,h⟩
theorem ay{x j pos}:PE X (.Constant (.str x) j pos) (tC (.str x)):=fun _ _ _ H _ I h=>Calls.Constant_str ⟨.str x,H,I.tok _,⟨_,rfl⟩,h⟩
noncomputable def Gl(X:Cx)(x:PH):Prop:=X.env.kindOf x=some .globalImplicit
theorem rb{E:PL->PN->Prop}{pins:List (PK×PV)}{s:PN}{σ:St}{H:Hp}{x:PH}{u:PL}{pos:Qi}{Q:PL->PN->Prop}(I:Inv X pins σ H s)(hg:Gl X x)(hm:X.mg x=some u)(h:Q u s)
  (hd:(x==("__debug__":PH))=false:=by decide):PQ (model X.prog X.w) X.A (eval (.Name x pos) X.env) Q E s:=
 X9 I.ok.kind hg (Calls.loadGlobal_global (by rw[I.ok.glob];exact I.mod.glob.keeps I.bk) hm h) hd
theorem jH{E:PL->PN->Prop}{pins:List (PK×PV)}{s:PN}{σ:St}{H:Hp}{x:PH}{u:PL}{pos:Qi}{Q:PL->PN->Prop}(I:Inv X pins σ H s)(hg:Gl X x)(hm:X.mg x=none)(hv:To x=some u)(h:Q u s)
  (hn:x≠"__name__":=by decide) (hd:(x==("__debug__":PH))=false:=by decide):PQ (model X.prog X.w) X.A (eval (.Name x pos) X.env) Q E s:=by
 obtain⟨mb,h1,h2⟩:=I.mod.blt
 exact X9 I.ok.kind hg (Calls.loadGlobal_builtin (by rw[I.ok.glob];exact I.mod.glob.keeps I.bk) hm (by rw[I.ok.blt];exact h1.keeps I.bk) ((h2 x hn).trans hv) h) hd
theorem Bb{x:PH}{v:V}{u:PL}{pos:Qi}(hg:Gl X x)(hm:X.mg x=some u)(r:RelV v u)(hd:(x==("__debug__":PH))=false:=by decide):PE X (.Name x pos) (tC v):=
 fun _ _ _ H _ I h=>rb I hg hm ⟨v,H,I,r,h⟩ hd
theorem Km{x:PH}{v:V}{u:PL}{pos:Qi}(hg:Gl X x)(hm:X.mg x=none)(hv:To x=some u)(r:RelV v u)(hn:x≠"__name__":=by decide)(hd:(x==("__debug__":PH))=false:=by decide):PE X (.Name x pos) (tC v):=
 fun _ _ _ H _ I h=>jH I hg hm hv ⟨v,H,I,r,h⟩ hn hd
variable {a b:PY}{ta tb:TE}{pos:Qi}
noncomputable def PC(X:Cx)(op:CmpOp)(a b:PY)(t:TE):Prop:=
 ∀(pins:List (PK×PV))(s:PN)(σ:St)(H:Hp)(Q:VK),Inv X pins σ H s->t σ H Q->
  PQ (model X.prog X.w) X.A (eval a X.env) (fun v s₁=>PQ (model X.prog X.w) X.A (eval b X.env) (fun u s₂=>PQ (model X.prog X.w) X.A (QP op v u) (EP X pins σ Q) X.xe s₂) X.xe s₁) X.xe s
noncomputable def tB(t:TE):TT:=fun σ H Q=>t σ H fun x H1=>∃c,x=.bl c/\Q c H1
theorem Eb{op:CmpOp}{t:TE}(h:PC X op a b t)(h1:TL op b=false:=by first|exact nobehind _ (by decide) (by decide)|rfl):PT X (.Compare a [op] [b] pos) (tB t):=by
 intro pins s σ H Q I hw
 refine wpAny_isTrue_Compare1 (cI (h pins s σ H _ I hw) fun v s1 h1=>cI h1 fun u s2 h2=>cI h2 fun c s3 ⟨x,H1,I1,r1,q1⟩=>?_) h1
 obtain⟨d,rfl,q⟩:=q1
 cases r1
 exact Tn ⟨H1,I1,q⟩
theorem Ar{e:PY}{t:TE}(h:PE X e t)(he:∀whole,isTrue e X.env whole=(do let v <-whole;standAt e.pos;holding [v] (truthy v)):=by intro _;rfl):PT X e (tB t):=by
 intro pins s σ H Q I hw
 refine isTrue_plain (cI (h pins s σ H _ I hw) fun v s1 ⟨x,H1,I1,r1,q1⟩=>?_) (he _)
 obtain⟨d,rfl,q⟩:=q1
 cases r1
 exact Tn ⟨H1,I1,q⟩
variable {tA tB':TT}{rest:List PY}
noncomputable def HH(t u:TT):TT:=fun σ H Q=>t σ H fun c H1=>if c=true then u σ H1 Q else Q false H1
noncomputable def N3(t u:TT):TT:=fun σ H Q=>t σ H fun c H1=>if c=true then Q true H1 else u σ H1 Q
noncomputable def CY(t:TT):TT:=fun σ H Q=>t σ H fun c H1=>Q (!c) H1
theorem FP(ha:PT X a tA):PW X (.BoolOp .And [a] pos) tA:=by
 intro wh pins s σ H Q I h
 refine isTrue_and (cI (ha pins s σ H Q I h) fun c s1 e=>?_)
 cases c with
 |true=>exact isTrue_and_nil e
 |false=>exact e
theorem Ea(ha:PT X a tA):PW X (.BoolOp .Or [a] pos) tA:=by
 intro wh pins s σ H Q I h
 refine isTrue_or (cI (ha pins s σ H Q I h) fun c s1 e=>?_)
 cases c with
 |false=>exact isTrue_or_nil e
 |true=>exact e
theorem Ed(ha:PT X a tA)(hb:PW X (.BoolOp .And (b::rest) pos) tB'):PW X (.BoolOp .And (a::b::rest) pos) (HH tA tB'):=by
 intro wh pins s σ H Q I h
 refine isTrue_and (cI (ha pins s σ H _ I h) fun c s1 ⟨H1,I1,q1⟩=>?_)
 cases c with
 |true=>exact hb wh pins s1 σ H1 Q I1 q1
 |false=>exact⟨H1,I1,q1⟩
theorem HG(ha:PT X a tA)(hb:PW X (.BoolOp .Or (b::rest) pos) tB'):PW X (.BoolOp .Or (a::b::rest) pos) (N3 tA tB'):=by
 intro wh pins s σ H Q I h
 refine isTrue_or (cI (ha pins s σ H _ I h) fun c s1 ⟨H1,I1,q1⟩=>?_)
 cases c with
 |true=>exact⟨H1,I1,q1⟩
 |false=>exact hb wh pins s1 σ H1 Q I1 q1
theorem sk(ha:PT X a tA):PT X (.UnaryOp .Not a pos) (CY tA):=by
 intro pins s σ H Q I h
 exact isTrue_not (ha pins s σ H (fun c H1=>Q (!c) H1) I h)
noncomputable def E8(ta tb:TE):TE:=fun σ H Q=>ta σ H fun x H1=>∃c,x=.bl c/\if c=true then tb σ H1 Q else Q (.bl false) H1
theorem Iq{op}{t:TE}(h:PE X a t):PE X (.BoolOp op [a] pos) t:=fun pins s σ H Q I hw=>BoolOp_one (h pins s σ H Q I hw)
theorem HQ(ha:PE X a ta)(hb:PE X (.BoolOp .And (b::rest) pos) tb):PE X (.BoolOp .And (a::b::rest) pos) (E8 ta tb):=by
 intro pins s σ H Q I h
 refine BoolOp_and (cI (ha pins s σ H _ I h) fun v s1 ⟨x,H1,I1,r1,q1⟩=>?_)
 obtain⟨c,rfl,q1⟩:=q1
 cases r1
 refine Tn ?_
 cases c with
 |true=>exact hb pins s1 σ H1 Q I1 q1
 |false=>exact⟨.bl false,H1,I1,rfl,q1⟩
noncomputable def N4(t:TT)(ta tb:TE):TE:=fun σ H Q=>t σ H fun c H1=>if c=true then ta σ H1 Q else tb σ H1 Q
theorem wZ{c:PY}(hc:PT X c tA)(ha:PE X a ta)(hb:PE X b tb):PE X (.IfExp c a b pos) (N4 tA ta tb):=by
 intro pins s σ H Q I h
 refine wpAny_IfExp (cI (hc pins s σ H _ I h) fun d s1 ⟨H1,I1,q1⟩=>?_)
 cases d with
 |true=>exact ha pins s1 σ H1 Q I1 q1
 |false=>exact hb pins s1 σ H1 Q I1 q1
end
noncomputable def aY(K:PM)(H:Hp)(a:PK)(xs:List V):Prop:=
 Rd H a (.lst xs)\/
  ∃(o:PV)(its:Array PL)(n:Nat),K.lookup a=some o/\o.cls=.type "list"/\o.dict=none/\o.data=.seq its n/\its.size<=PZ/\bR xs its.toList
noncomputable def kN(K:PM)(H:Hp)(a:PK)(xs:List V):Prop:=
 Rd H a (.tup xs)\/
  ∃(o:PV)(its:Array PL)(n:Nat),K.lookup a=some o/\o.cls=.type "tuple"/\o.data=.seq its n/\its.size<=PZ/\bR xs its.toList
noncomputable def O6:PL->Option V
 |.none=>some .non
 |.bool b=>some (.bl b)
 |.int i _=>some (.int i)
 |.str x _=>some (.str x)
 |.bytes b _=>some (.byt b)
 |.float b _=>some (.flt b)
 |.ref a=>some (.ref a)
 |.type n=>some (.ty n)
 |_=>none
theorem RelV.abs{x:V}{u:PL}(r:RelV x u):O6 u=some x:=by
 cases x with
 |non=>cases r;rfl
 |bl _=>cases r;rfl
 |int _=>obtain⟨t,rfl⟩:=r;rfl
 |str _=>obtain⟨t,rfl⟩:=r;rfl
 |byt _=>obtain⟨t,rfl⟩:=r;rfl
 |flt _=>obtain⟨t,rfl⟩:=r;rfl
 |ref _=>cases r;rfl
 |ty _=>cases r;rfl
theorem RelV.inj{x y:V}{u:PL}(r:RelV x u)(q:RelV y u):x=y:=QW (r.abs.symm.trans q.abs)
theorem bR.inj:∀{xs ys:List V}{us:List PL},bR xs us->bR ys us->xs=ys
 |_,_,_,.nil,.nil=>rfl
 |_,_,_,.cons r t,.cons r' t'=>by rw[r.inj r',bR.inj t t']
section
variable {X:Cx}{pins:List (PK×PV)}{σ:St}{H:Hp}{s:PN}{a:PK}{xs ys:List V}
theorem aY.of{K:PM}(h:H a=some (.lst xs)):aY K H a xs:=.inl (.inl h)
theorem kN.of{K:PM}(h:H a=some (.tup xs)):kN K H a xs:=.inl (.inl h)
theorem Inv.list(I:Inv X pins σ H s)(h:aY X.K H a xs):∃its:List PL,bR xs its/\PlainL s.heap a its.toArray/\xs.length<=PZ:=by
 rcases h with h|⟨o,its,n,hk,hc,hd,hs,hz,r⟩
 ·obtain⟨z,its,n,r,e⟩:=h.ok I.hok
  exact⟨its,r,⟨_,n,e,rfl,rfl,rfl⟩,z⟩
 ·exists its.toList,r,⟨o,n,I.kIn a o hk,hc,hd,by simpa using hs⟩
  have e:=r.length
  simp only[U7]at e
  omega
theorem Inv.tuple(I:Inv X pins σ H s)(h:kN X.K H a xs):∃its:List PL,bR xs its/\IsTup s.heap a its.toArray/\xs.length<=PZ:=by
 rcases h with h|⟨o,its,n,hk,hc,hs,hz,r⟩
 ·obtain⟨z,its,r,p⟩:=h.ok I.hok
  exact⟨its,r,p,z⟩
 ·exists its.toList,r,⟨o,I.kIn a o hk,hc,n,by simpa using hs⟩
  have e:=r.length
  simp only[U7]at e
  omega
theorem Inv.list_inj(I:Inv X pins σ H s)(h:aY X.K H a xs)(h':aY X.K H a ys):xs=ys:=by
 obtain⟨its,r,⟨o,n,e,_,_,d⟩,_⟩:=I.list h
 obtain⟨its',r',⟨o',n',e',_,_,d'⟩,_⟩:=I.list h'
 rw[e]at e';cases e'
 rw[d]at d'
 injection d' with d1 _
 have:its=its':=by simpa using congrArg XD d1
 subst this
 exact r.inj r'
end
noncomputable abbrev Cx.wish(X:Cx)(E:PL->PN->Prop):Cx:={X with xe:=E}
noncomputable abbrev Cx.nox(X:Cx):Cx:=X.wish fun _ _=>False
theorem Cx.Ok.wish{X:Cx}(ok:X.Ok)(E:PL->PN->Prop):(X.wish E).Ok:=
 ⟨ok.mod,ok.kind,ok.glob,ok.blt,ok.above,ok.inj,ok.has,ok.cab,ok.hd,ok.frames,ok.stk,ok.exf,ok.bs,ok.bsz,ok.noex,ok.exfs,ok.funs,ok.frf⟩
theorem Cx.Ok.unwish{X:Cx}{E:PL->PN->Prop}(ok:(X.wish E).Ok):X.Ok:=
 ⟨ok.mod,ok.kind,ok.glob,ok.blt,ok.above,ok.inj,ok.has,ok.cab,ok.hd,ok.frames,ok.stk,ok.exf,ok.bs,ok.bsz,ok.noex,ok.exfs,ok.funs,ok.frf⟩
section
variable {X:Cx}{pins:List (PK×PV)}{σ:St}{H:Hp}{s:PN}{E:PL->PN->Prop}
theorem Inv.wish(I:Inv X pins σ H s)(E:PL->PN->Prop):Inv (X.wish E) pins σ H s:=⟨I.ok.wish E,I.os,I.bare,I.base,I.loc,I.cell,I.free,I.freeC,I.pin,I.hok,I.len⟩
theorem Inv.unwish(I:Inv (X.wish E) pins σ H s):Inv X pins σ H s:=⟨I.ok.unwish,I.os,I.bare,I.base,I.loc,I.cell,I.free,I.freeC,I.pin,I.hok,I.len⟩
theorem SP.unwish{D:Ends}{f:Flow}{s':PN}(h:SP (X.wish E) pins D f s'):SP X pins D f s':=by
 cases f with
 |next=>obtain⟨σ',H',I,q⟩:=h;exact⟨σ',H',I.unwish,q⟩
 |brk=>obtain⟨σ',H',I,q⟩:=h;exact⟨σ',H',I.unwish,q⟩
 |cont=>obtain⟨σ',H',I,q⟩:=h;exact⟨σ',H',I.unwish,q⟩
 |ret u=>obtain⟨v,σ',H',I,r,q⟩:=h;exact⟨v,σ',H',I.unwish,r,q⟩
theorem xI.nox{st:List P5}{t:TS}(h:xI X.nox st t):xI X st t:=fun pins s σ H D I hw=>
 Q5 (h pins s σ H D (I.wish _) hw) (fun _ _ q=>q.unwish) fun _ _ z=>Rn z
end
section
variable {X:Cx}{st:P5}{rest:List P5}{t u:TS}{e:PY}{te:TE}{pos:Qi}
noncomputable def bS:TS:=fun D σ H=>D.nx σ H
noncomputable def aE(t u:TS):TS:=fun D σ H=>t {D with nx:=u D} σ H
theorem aZ:xI X [] bS:=fun _ _ σ H _ I h=>Tg ⟨σ,H,I,h⟩
theorem ah(h1:PS X st t)(h2:xI X rest u):xI X (st::rest) (aE t u):=by
 intro pins s σ H D I h
 refine wpAny_execs_cons (cI (h1 pins s σ H {D with nx:=u D} I h) fun f s1 q=>?_)
 cases f with
 |next=>
  obtain⟨σ',H',I',q⟩:=q
  exact h2 pins s1 σ' H' D I' q
 |ret v=>exact q
 |brk=>exact q
 |cont=>exact q
theorem aj(h1:PS X st t):xI X [st] t:=by
 intro pins s σ H D I h
 refine wpAny_execs_cons (cI (h1 pins s σ H D I h) fun f s1 q=>?_)
 cases f with
 |next=>exact Tg q
 |ret v=>exact q
 |brk=>exact q
 |cont=>exact q
theorem Inv.quiet{pins:List (PK×PV)}{σ:St}{H:Hp}{s:PN}(I:Inv X pins σ H s):interactive X.env=false:=by simp[interactive,I.ok.kind]
noncomputable def cR(te:TE):TS:=fun D σ H=>te σ H fun _ H1=>D.nx σ H1
theorem bN(he:PE X e te)(hs:swapsWith e none pos.line X.env=pure false:=by rfl):PS X (.Expr e pos) (cR te):=by
 intro pins s σ H D I h
 exact wpAny_Expr_any (cI (he pins s σ H _ I h) fun v s1 ⟨x,H1,I1,r1,q1⟩=>⟨σ,H1,I1,q1⟩) I.quiet hs
noncomputable def bB(te:TE):TS:=fun D σ H=>te σ H D.rt
theorem aD(he:PE X e te):PS X (.Return (some e) pos) (bB te):=by
 intro pins s σ H D I h
 exact wpAny_Return_some (cI (he pins s σ H _ I h) fun v s1 ⟨x,H1,I1,r1,q1⟩=>⟨x,σ,H1,I1,r1,q1⟩)
noncomputable def cm(c:TT)(t u:TS):TS:=fun D σ H=>c σ H fun b H1=>if b=true then t D σ H1 else u D σ H1
theorem bH{c:PY}{a b:List P5}{tc:TT}(hc:PT X c tc)(ha:xI X a t)(hb:xI X b u):PS X (.If c a b pos) (cm tc t u):=by
 intro pins s σ H D I h
 refine wpAny_If (cI (hc pins s σ H _ I h) fun d s1 ⟨H1,I1,q1⟩=>?_)
 cases d with
 |true=>exact ha pins s1 σ H1 D I1 q1
 |false=>exact hb pins s1 σ H1 D I1 q1
end
noncomputable abbrev TG:=V->St->Hp->(St->Hp->Prop)->Prop
noncomputable abbrev MN:=List V->St->Hp->(St->Hp->Prop)->Prop
noncomputable def PG(X:Cx)(target:PY)(t:TG):Prop:=
 ∀(pins:List (PK×PV))(s:PN)(σ:St)(H:Hp)(v:V)(u:PL)(Q:St->Hp->Prop),Inv X pins σ H s->RelV v u->t v σ H Q->
  PQ (model X.prog X.w) X.A (assign target X.env u) (fun _ s'=>∃σ' H',Inv X pins σ' H' s'/\Q σ' H') X.xe s
noncomputable def OW(X:Cx)(ts:List PY)(t:MN):Prop:=
 ∀(pins:List (PK×PV))(s:PN)(σ:St)(H:Hp)(vs:List V)(us:List PL)(Q:St->Hp->Prop),Inv X pins σ H s->bR vs us->t vs σ H Q->
  PQ (model X.prog X.w) X.A (assignInOrder ((TN ts X.env).map (·.2)) us) (fun _ s'=>∃σ' H',Inv X pins σ' H' s'/\Q σ' H') X.xe s
noncomputable abbrev Pn:=V->V->Hp->VK->Prop
noncomputable def Pt(X:Cx)(op:Operator)(t:Pn):Prop:=
 ∀(pins:List (PK×PV))(s:PN)(σ:St)(H:Hp)(x y:V)(v u:PL)(Q:VK),Inv X pins σ H s->RelV x v->RelV y u->t x y H Q->
  PQ (model X.prog X.w) X.A (R6 op v u) (EP X pins σ Q) X.xe s
section
variable {X:Cx}{pos:Qi}
noncomputable def au(i:Nat):TG:=fun v σ H Q=>Q (σ.set i (some v)) H
theorem aC{i:Nat}{x:PH}(hN:X.N.Nodup)(hi:X.N[i]?=some x)(hx:Loc X.env.scope x)(hf:X.fn x=true\/X.env.scope.names.lookup x=some .local:=by first|exact .inl rfl|exact .inr rfl|assumption):PG X (.Name x pos) (au i):=by
 intro pins s σ H v u Q I r h
 exact wpAny_assign_Name (mU I hN hi hx r (fun s' I'=>⟨_,H,I',h⟩) hf)
noncomputable def fW:MN:=fun vs σ H Q=>vs=[]/\Q σ H
noncomputable def bz(t:TG)(u:MN):MN:=fun vs σ H Q=>∃v r,vs=v::r/\t v σ H fun σ' H'=>u r σ' H' Q
theorem cX:OW X [] fW:=by
 intro pins s σ H vs us Q I r h
 obtain⟨e,h⟩:=h
 subst e
 cases r
 exact assignInOrder_nil ⟨σ,H,I,h⟩
theorem aR{e:PY}{es:List PY}{t:TG}{u:MN}(h1:PG X e t)(h2:OW X es u)
  (hs:(TN (e::es) X.env).map (·.2)=assign e X.env::(TN es X.env).map (·.2):=by rfl):OW X (e::es) (bz t u):=by
 intro pins s σ H vs us Q I r h
 obtain⟨v,vr,e1,h⟩:=h
 subst e1
 cases r with
 |cons r rr=>
  rw[hs]
  refine assignInOrder_cons (cI (h1 pins s σ H _ _ _ I r h) fun _ s1 ⟨σ1,H1,I1,q1⟩=>?_)
  exact h2 pins s1 σ1 H1 _ _ Q I1 rr q1
noncomputable def gf(K:PM)(n:Nat)(t:MN):TG:=fun v σ H Q=>∃a xs,v=.ref a/\kN K H a xs/\xs.length=n/\t xs σ H Q
theorem dO{es:List PY}{k:Nat}{t:MN}{n:Nat}(hc:X.calm=true)(h:OW X es t)
  (hn:(TN es X.env).length=n:=by rfl) (hst:(TN es X.env).findIdx? (·.1)=none:=by rfl):PG X (.Tuple es k pos) (gf X.K n t):=by
 intro pins s σ H v u Q I r hw
 obtain⟨a,xs,e1,hq,hl,hw⟩:=hw
 subst e1
 cases r
 obtain⟨its,rv,ht,hz⟩:=I.tuple hq
 refine assign_Tuple_tuple (I.ok.hd hc) ht (by simp[hn,<-hl,rv.length]) hst fun h' hx=>?_
 have I1:Inv X pins σ H {s with heap:=h'}:=I.kept (t':=s.toks) fun b o e=>hx b o (Qt (Qk e)) e
 exact h pins _ σ H xs _ Q I1 (by simpa using rv) hw
noncomputable def bG(te:TE)(g:TG):TS:=fun D σ H=>te σ H fun x H1=>g x σ H1 D.nx
theorem aM{i:Nat}{x:PH}{e:PY}{te:TE}{pos':Qi}(hN:X.N.Nodup)(hi:X.N[i]?=some x)(hx:Loc X.env.scope x)(he:PE X e te)(hs:swapsWith e (some (.Name x pos')) pos.line X.env=pure false:=by rfl)(hf:X.fn x=true\/X.env.scope.names.lookup x=some .local:=by first|exact .inl rfl|exact .inr rfl|assumption):
  PS X (.Assign [.Name x pos'] e pos) (bG te (au i)):=by
 intro pins s σ H D I h
 refine wpAny_Assign_Name (cI (he pins s σ H _ I h) fun v s1 ⟨y,H1,I1,r1,q1⟩=>?_) hs
 exact mU I1 hN hi hx r1 (fun s2 I2=>⟨_,H1,I2,q1⟩) hf
noncomputable def DJ(i:Nat)(te:TE)(ti:Pn):TS:=fun D σ H=>∃x,σ[i]?=some (some x)/\te σ H fun y H1=>ti x y H1 fun z H2=>D.nx (σ.set i (some z)) H2
theorem AK{i:Nat}{x:PH}{e:PY}{te:TE}{op:Operator}{ti:Pn}{pos':Qi}(hN:X.N.Nodup)(hi:X.N[i]?=some x)(hx:Loc X.env.scope x)(he:PE X e te)(ho:Pt X op ti)(hf:X.fn x=true\/X.env.scope.names.lookup x=some .local:=by first|exact .inl rfl|exact .inr rfl|assumption):
  PS X (.AugAssign (.Name x pos') op e pos) (DJ i te ti):=by
 intro pins s σ H D I h
 obtain⟨v,e1,h⟩:=h
 obtain⟨m,hn,hl⟩:=I.loc
 have vis:Mi X.env.scope x:=by rcases hx with k|k;exact .inl k;exact .inr (.inl k)
 obtain⟨u,r,l⟩:=hl i x v hi e1 vis
 refine wpAny_AugAssign_Name ?_
 have go:PQ (model X.prog X.w) X.A (eval e X.env) (fun w s₂=>PQ (model X.prog X.w) X.A (R6 op u w) (fun r s₃=>PQ (model X.prog X.w) X.A (storeName X.env x r) (fun _=>SP X pins D .next) X.xe s₃) X.xe s₂) X.xe s:=by
  refine cI (he pins s σ H _ I h) fun w s1 ⟨y,H1,I1,r1,q1⟩=>?_
  refine cI (ho pins s1 σ H1 v y u w _ I1 r r1 q1) fun z s2 ⟨zv,H2,I2,r2,q2⟩=>?_
  exact mU I2 hN hi hx r2 (fun s3 I3=>⟨_,H2,I3,q2⟩) hf
 rcases l with⟨hk,hm⟩|⟨hk,c,hc,hcell⟩
 ·exact wpAny_loadName_local I.ok.kind hk hn hm go
 ·rcases hk with hk|hk
  ·exact wpAny_loadName_cell I.ok.kind hk hc hcell go
  ·rcases hx with k|k
   ·have:X.env.scope.names.lookup x=some .free:=hk
    rw[k]at this;cases this
   ·have:X.env.scope.names.lookup x=some .free:=hk
    rw[k]at this;cases this
end
section
variable {X:Cx}{pos:Qi}
noncomputable def D4(c:TT)(tb:TS):TS:=fun D σ H=>∃W:Nat->St->Hp->Prop,(∃m,W m σ H)/\∀m σ H,W m σ H->
 c σ H fun b H1=>if b=true then ∃N:St->Hp->Prop,(∀σ' H',N σ' H'->∃m',m'<m/\W m' σ' H')/\tb {D with nx:=N,ct:=N,bk:=D.nx} σ H1 else D.nx σ H1
theorem CZ{c:PY}{body:List P5}{tc:TT}{tb:TS}(hp:PassesOwn (model X.prog X.w) X.A X.env X.xe)(hc:PT X c tc)(hb:xI X body tb):PS X (.While c body [] pos) (D4 tc tb):=by
 intro pins s σ H D I h
 obtain⟨W,⟨m0,w0⟩,turn⟩:=h
 refine wpAny_While (codeAny_whileLoop (fun n s'=>∃σ' H',Inv X pins σ' H' s'/\W n σ' H') ?_ m0 ⟨σ,H,I,w0⟩)
 rintro n s1 ⟨σ1,H1,I1,w1⟩
 refine S0 hp (cI (hc pins s1 σ1 H1 _ I1 (turn n σ1 H1 w1)) fun b s2 ⟨H2,I2,q2⟩=>?_)
 cases b with
 |true=>
  obtain⟨N,hN,q2⟩:=q2
  rw[if_pos rfl]
  refine S0 hp (cI (hb pins s2 σ1 H2 _ I2 q2) fun f s3 q3=>?_)
  cases f with
  |next=>
   obtain⟨σ3,H3,I3,n3⟩:=q3
   obtain⟨m',hm,w3⟩:=hN σ3 H3 n3
   exact⟨m',hm,σ3,H3,I3,w3⟩
  |cont=>
   obtain⟨σ3,H3,I3,n3⟩:=q3
   obtain⟨m',hm,w3⟩:=hN σ3 H3 n3
   exact⟨m',hm,σ3,H3,I3,w3⟩
  |brk=>exact q3
  |ret v=>exact q3
 |false=>
  rw[if_neg QM]
  exact Tg ⟨σ1,H2,I2,q2⟩
end
structure It where
 go:Nat->Hp->Prop
 yld:Nat->Hp->V->Hp->Prop
 stop:Nat->Hp->Prop
noncomputable def qu(X:Cx)(pins:List (PK×PV))(H:Hp)(b:PK):Prop:=
 H b=none/\b≠X.env.locals/\b∉X.fs/\(b∈X.ex\/X.s₀.heap.objs.size<=b)/\(∀x c,X.env.cells.lookup x=some c->c≠b)/\∀p∈X.pn++pins,p.1≠b
theorem Inv.fpOk{X:Cx}{pins:List (PK×PV)}{σ:St}{H H':Hp}{s:PN}{b:PK}(I:Inv X pins σ H s)(hb:s.heap.objs.size<=b)(hn:H' b=none):qu X pins H' b:=by
 refine⟨hn,Ro (QE I.lt hb),I.nofs hb,.inr (P6 I.sz hb),fun x c e z=>?_,fun p hp z=>?_⟩
 ·obtain⟨v,q⟩:=I.cell x c e
  exact absurd (QE q.lt (by rw[z];exact hb)) (RA _)
 ·exact absurd (QE (Qk (I.pin p hp).1) (by rw[z];exact hb)) (RA _)
structure Turn(P:Qc)(w:P8)(K:PM)(tg:PY)(J:It)(fp:List PK)(it:PK)(tn:Nat->P0->Prop):Prop where
 mem:it∈fp
 obj:∀i h,tn i h->∀b∈fp,∃o,h.get? b=some o/\∀v,o.data≠.cell v
 keep:∀i h h',tn i h->(∀b∈fp,∀o,h.get? b=some o->h'.get? b=some o)->tn i h'
 item:∀(X:Cx),X.prog=P->X.w=w->X.K=K->X.calm=true->∀(i:Nat)(pins:List (PK×PV))(s:PN)(σ:St)(H:Hp)(E:PL->PN->Prop),Inv X pins σ H s->(∀b∈fp,qu X pins H b)->tn i s.heap->J.go i H->
  PQ (model P w) X.A (Rc (.ref it)) (fun r s1=>∃u,r=some u/\
   PQ (model P w) X.A (letOwnedTupleGo tg (.ref it) u) (fun _ s2=>∃x H',Inv X pins σ H' s2/\RelV x u/\J.yld i H x H'/\tn (i+1) s2.heap/\∀b∈fp,H' b=none) E s1) E s
 done:∀(X:Cx),X.prog=P->X.w=w->X.K=K->X.calm=true->∀(i:Nat)(pins:List (PK×PV))(s:PN)(σ:St)(H:Hp)(E:PL->PN->Prop),Inv X pins σ H s->(∀b∈fp,qu X pins H b)->tn i s.heap->J.stop i H->
  PQ (model P w) X.A (Rc (.ref it)) (fun r s1=>r=none/\Inv X pins σ H s1) E s
 self:∀(A:Qg)(i:Nat)(s:PN)(Q:PL->PN->Prop)(E:PL->PN->Prop),tn i s.heap->Q (.ref it) s->PQ (model P w) A (pyIter (.ref it)) Q E s
noncomputable abbrev TI:=St->Hp->(It->Hp->Prop)->Prop
noncomputable def Py(X:Cx)(pins:List (PK×PV))(σ:St)(tg:PY)(R:It->Hp->Prop)(itv:PL)(s2:PN):Prop:=
 ∃(it:PK)(fp:List PK)(tn:Nat->P0->Prop)(J:It)(H':Hp),itv=.ref it/\Inv X pins σ H' s2/\Turn X.prog X.w X.K tg J fp it tn/\tn 0 s2.heap/\(∀b∈fp,qu X pins H' b)/\R J H'
noncomputable def PI(X:Cx)(tg iter:PY)(wi:TI):Prop:=
 ∀(pins:List (PK×PV))(s:PN)(σ:St)(H:Hp)(R:It->Hp->Prop),Inv X pins σ H s->wi σ H R->
  PQ (model X.prog X.w) X.A (eval iter X.env) (fun v s1=>PQ (model X.prog X.w) X.A (pyIter v) (Py X pins σ tg R) X.xe s1) X.xe s
theorem CP{M:Model}{A:Qg}{E:PL->PN->Prop}{s:PN}{tg:PY}{it:PK}{u:PL}{o:PV}{n:String}{vs:Array PL}{Q:Unit->PN->Prop}(ho:s.heap.get? it=some o)(hc:o.cls=.type n)(hd:o.data=.fields vs)
  (hn:["enumerate","zip","dict_itemiterator","dict_reverseitemiterator","odict_iterator","itertools.zip_longest","itertools.pairwise"].contains n=false) (hQ:Q () s):PQ M A (letOwnedTupleGo tg (.ref it) u) Q E s:=by
 unfold letOwnedTupleGo
 cases tg<;>first
  |exact Qh hQ
  |(cases u<;>first
    |exact Qh hQ
    | (refine PR (wpAny_load ho ?_)
       rw[hc,hd]
       show PQ M A (if(["enumerate","zip","dict_itemiterator","dict_reverseitemiterator","odict_iterator","itertools.zip_longest","itertools.pairwise"].contains n&&vs[0]?==some (QQ _))=true then _ else _) Q E s
       rw[if_neg (by intro h;rw[hn,S1]at h;cases h)]
       exact Qh hQ))
noncomputable def Hw(K:PM)(a:PK):It:=
 ⟨fun i H=>∃xs x,aY K H a xs/\xs[i]?=some x,fun i H x H'=>H'=H/\∀xs,aY K H a xs->xs[i]?=some x,fun i H=>∃xs,aY K H a xs/\xs.length<=i⟩
noncomputable def HA(lo:Int)(n:Nat):It:=⟨fun i _=>i<n,fun i H x H'=>H'=H/\x=.int (lo+i),fun i _=>n<=i⟩
theorem Hs{P:Qc}{w:P8}{K:PM}{tg:PY}(a it:PK):Turn P w K tg (Hw K a) [it] it (fun i h=>h.IsListIter it a i) where
 mem:=by simp
 obj:=fun i h st b hb=>by
  have e:b=it:=by simpa using hb
  subst e
  obtain⟨o,e,c,d⟩:=st
  exact⟨o,e,fun v z=>by rw[d]at z;cases z⟩
 keep:=fun i h h' st k=>st.at fun o e=>k it (by simp) o e
 item:=by
  intro X hP hw hK hc i pins s σ H E I hf st hg
  subst hP hw hK
  obtain⟨xs,x,hq,hx⟩:=hg
  obtain⟨its,rv,p,hz⟩:=I.list hq
  obtain⟨u,hu,ru⟩:=rv.get hx
  obtain⟨f0,f1,f2,f3,f4,f5⟩:=hf it (by simp)
  refine wpAny_pyNext_list_item st p.isList (x:=u) (by simpa using hu) fun h' st' sb=>?_
  have I1:Inv X pins σ H {s with heap:=h'}:=I.turned (t':=s.toks) (fun b o hb e=>(sb.2 b hb).trans e) f0 f1 f3 f4 f5
  obtain⟨o,e,c,d⟩:=id st'
  exact⟨u,rfl,CP (s:={s with heap:=h'}) e c d (by decide) ⟨x,H,I1,ru,⟨rfl,fun ys hy=>by rw[I.list_inj hy hq];exact hx⟩,st',fun b hb=>(hf b hb).1⟩⟩
 done:=by
  intro X hP hw hK hc i pins s σ H E I hf st hg
  subst hP hw hK
  obtain⟨xs,hq,hx⟩:=hg
  obtain⟨its,rv,p,hz⟩:=I.list hq
  obtain⟨f0,f1,f2,f3,f4,f5⟩:=hf it (by simp)
  have hl:=rv.length
  exact wpAny_pyNext_list_end (I.ok.hd hc) st p.isList (by simp;omega) fun h' eb=>⟨rfl,I.turned (t':=s.toks) (fun b o hb e=>eb b o hb e) f0 f1 f3 f4 f5⟩
 self:=fun _ _ _ _ _ st h=>wpAny_pyIter_listiter st h
theorem Ez{P:Qc}{w:P8}{K:PM}{tg:PY}(it:PK)(lo:Int)(n:Nat):Turn P w K tg (HA lo n) [it] it (fun i h=>IsRangeIter h it (lo+(i:Nat)*1) ((n:Int)-(i:Nat)) 1) where
 mem:=by simp
 obj:=fun i h st b hb=>by
  have e:b=it:=by simpa using hb
  subst e
  exact⟨_,st,fun v z=>by
   have z':TH _=SJ v:=z
   cases z'⟩
 keep:=fun i h h' st k=>k it (by simp) _ st
 item:=by
  intro X hP hw hK hc i pins s σ H E I hf st hg
  subst hP hw hK
  obtain⟨f0,f1,f2,f3,f4,f5⟩:=hf it (by simp)
  have W:=Walks.range (prog:=X.prog) (w:=X.w) (I.ok.hd hc) it lo 1 n
  refine W.item i s _ _ hg st fun v h' tk hv st' kk=>?_
  obtain⟨t,rfl⟩:=hv
  have I1:Inv X pins σ H {s with heap:=h',toks:=tk}:=I.turned (fun b o hb e=>kk b o (by simpa using hb) e) f0 f1 f3 f4 f5
  refine⟨_,rfl,CP (s:={s with heap:=h',toks:=tk}) (n:="range_iterator") st' rfl rfl (by decide) ⟨.int (lo+i),H,I1,⟨t,?_⟩,⟨rfl,rfl⟩,st',fun b hb=>(hf b hb).1⟩⟩
  rw[VA]
 done:=by
  intro X hP hw hK hc i pins s σ H E I hf st hg
  subst hP hw hK
  obtain⟨f0,f1,f2,f3,f4,f5⟩:=hf it (by simp)
  exact wpAny_pyNext_range_end (I.ok.hd hc) st (by have:n<=i:=hg;omega) fun h' eb=>⟨rfl,I.turned (t':=s.toks) (fun b o hb e=>eb b o hb e) f0 f1 f3 f4 f5⟩
 self:=fun _ _ _ _ _ st h=>wpAny_pyIter_rangeiter st h
section
variable {X:Cx}{tg:PY}
noncomputable def dm(K:PM)(tl:TE):TI:=fun σ H R=>tl σ H fun x H1=>∃a,x=.ref a/\(∃xs,aY K H1 a xs)/\R (Hw K a) H1
theorem bY{l:PY}{tl:TE}(hl:PE X l tl):PI X tg l (dm X.K tl):=by
 intro pins s σ H R I h
 refine cI (hl pins s σ H _ I h) fun v s1 ⟨x,H1,I1,r1,q1⟩=>?_
 obtain⟨a,e,⟨xs,hq⟩,q⟩:=q1
 subst e
 cases r1
 obtain⟨its,rv,p,hz⟩:=I1.list hq
 refine UR p.isList ?_
 refine⟨s1.heap.objs.size,[s1.heap.objs.size],_,_,H1,rfl,I1.kept (t':=s1.toks) fun b o e=>Qr _ e,Hs a _,⟨_,Qz _ rfl,rfl,rfl⟩,fun b hb=>?_,q⟩
 have e:b=s1.heap.objs.size:=by simpa using hb
 subst e
 exact I1.fpOk (Qe _) (I1.hok.fresh (Qe _))
theorem CV{pins:List (PK×PV)}{σ:St}{H:Hp}{s:PN}{R:It->Hp->Prop}{E:PL->PN->Prop}{lo hi:Int}{t u v:Tok}{tk:Nat}(I:Inv X pins σ H s)(h1:-(2 ^ 62)<=lo)(h2:lo<2 ^ 62)(h3:-(2 ^ 62)<=hi)(h4:hi<2 ^ 62)
  (q:R (HA lo (hi-lo).toNat) H):PQ (model X.prog X.w) X.A (pyIter (.ref s.heap.objs.size)) (Py X pins σ tg R) E {s with heap:=s.heap.push {cls:=.type "range",data:=.fields #[.int lo t,.int hi u,.int 1 v]},toks:=tk}:=by
 refine wpAny_pyIter_range (ZW ..) (small_one h1 h2 h3 h4) ?_
 have I1:Inv X pins σ H {s with heap:=s.heap.push {cls:=.type "range",data:=.fields #[.int lo t,.int hi u,.int 1 v]},toks:=tk}:=I.kept fun b o e=>Qr _ e
 refine⟨(s.heap.push {cls:=.type "range",data:=.fields #[.int lo t,.int hi u,.int 1 v]}).objs.size,[(s.heap.push {cls:=.type "range",data:=.fields #[.int lo t,.int hi u,.int 1 v]}).objs.size],_,_,H,rfl,
  I1.kept (t':=tk) fun b o e=>Qr _ e,Ez _ lo (hi-lo).toNat,?_,fun b hb=>?_,q⟩
 ·have e1:lo+((0:Nat):Int)*1=lo:=by simp
  have e2:(((hi-lo).toNat:Nat):Int)-((0:Nat):Int)=YU lo hi 1:=by rw[rangeSize_one];split<;>omega
  show IsRangeIter _ _ (lo+((0:Nat):Int)*1) ((((hi-lo).toNat:Nat):Int)-((0:Nat):Int)) 1
  rw[e1,e2]
  exact Qz _ rfl
 ·have e:b=(s.heap.push {cls:=.type "range",data:=.fields #[.int lo t,.int hi u,.int 1 v]}).objs.size:=by simpa using hb
  subst e
  exact I1.fpOk (Qe _) (I1.hok.fresh (Qe _))
noncomputable def nG(ta:TA):TI:=fun σ H R=>ta σ H fun vs H1=>∃j:Int,vs=[.int j]/\-(2 ^ 62)<=j/\j<2 ^ 62/\R (HA 0 j.toNat) H1
noncomputable def Fl(ta:TA):TI:=fun σ H R=>ta σ H fun vs H1=>∃i j:Int,vs=[.int i,.int j]/\(-(2 ^ 62)<=i/\i<2 ^ 62/\-(2 ^ 62)<=j/\j<2 ^ 62)/\R (HA i (j-i).toNat) H1
theorem d9{a:PY}{ta:TA}{p pos:Qi}(hg:Gl X "range")(hm:X.mg "range"=none)(ha:PA X [a] ta)(hs:Qf [a] X.env=[(false,eval a X.env)]:=by rfl):PI X tg (.Call (.Name "range" p) [a] [] pos) (nG ta):=by
 intro pins s σ H R I h
 refine Call_ (jH I hg hm boot_range (Sq (cI (ha pos pins s σ H _ I h) fun us s1 ⟨vs,H1,I1,r1,q1⟩=>?_) hs rfl))
 obtain⟨j,e,q1,q2,q⟩:=q1
 subst e
 cases r1 with
 |cons r rr=>
  cases rr
  obtain⟨t,rfl⟩:=r
  exact call_range_1 (CV I1 (by omega) (by omega) q1 q2 (by simpa using q))
theorem yZ{a b:PY}{ta:TA}{p pos:Qi}(hg:Gl X "range")(hm:X.mg "range"=none)(ha:PA X [a,b] ta)(hs:Qf [a,b] X.env=[(false,eval a X.env),(false,eval b X.env)]:=by rfl)(hs2:Qf [b] X.env=[(false,eval b X.env)]:=by rfl):
  PI X tg (.Call (.Name "range" p) [a,b] [] pos) (Fl ta):=by
 intro pins s σ H R I h
 refine Call_ (jH I hg hm boot_range (Sq (cI (ha pos pins s σ H _ I h) fun us s1 ⟨vs,H1,I1,r1,q1⟩=>?_) (by rw[hs,hs2]) (by rw[hs2];rfl)))
 obtain⟨i,j,e,⟨q1,q2,q3,q4⟩,q⟩:=q1
 subst e
 cases r1 with
 |cons r rr=>
  cases rr with
  |cons r' rr=>
   cases rr
   obtain⟨t,rfl⟩:=r
   obtain⟨t',rfl⟩:=r'
   exact call_range_2 (CV I1 q1 q2 q3 q4 q)
noncomputable def pK(wi:TI)(g:TG)(tb:TS):TS:=fun D σ H=>wi σ H fun J H1=>∃W:Nat->Nat->St->Hp->Prop,(∃m,W 0 m σ H1)/\∀i m σ H,W i m σ H->
 (J.stop i H/\D.nx σ H)\/(J.go i H/\∃N:St->Hp->Prop,(∀σ' H',N σ' H'->∃m',m'<m/\W (i+1) m' σ' H')/\∀x H',J.yld i H x H'->g x σ H' fun σ2 H2=>tb {D with nx:=N,ct:=N,bk:=D.nx} σ2 H2)
noncomputable def vI(fp:List PK)(h:P0):List (PK×PV):=fp.filterMap fun b=>(h.get? b).map fun o=>(b,o)
theorem ki{fp:List PK}{h:P0}{b:PK}{o:PV}(hb:b∈fp)(e:h.get? b=some o):(b,o)∈vI fp h:=Yd.mpr ⟨b,hb,by rw[e];rfl⟩
theorem F6{fp:List PK}{h:P0}{p:PK×PV}(hp:p∈vI fp h):p.1∈fp/\h.get? p.1=some p.2:=by
 obtain⟨b,hb,e⟩:=Yd.mp hp
 cases q:h.get? b with
 |none=>rw[q]at e;cases e
 |some o=>
  rw[q]at e
  have e':(b,o)=p:=QW e
  subst e'
  exact⟨hb,q⟩
theorem Inv.pinned{pins:List (PK×PV)}{σ:St}{H:Hp}{s:PN}{fp:List PK}(I:Inv X pins σ H s)(hf:∀b∈fp,qu X pins H b)(ho:∀b∈fp,∃o,s.heap.get? b=some o/\∀v,o.data≠.cell v):Inv X (pins++vI fp s.heap) σ H s:=
 I.pins_of fun p hp=>(QC.mp hp).elim (fun z=>I.pin p (Rh _ z)) fun z=>by
  obtain⟨hb,e⟩:=F6 z
  obtain⟨f0,f1,f2,_⟩:=hf p.1 hb
  obtain⟨o,e',d⟩:=ho p.1 hb
  rw[e]at e';cases e'
  exact⟨e,f0,f1,f2,d⟩
theorem Inv.unpinned{pins pl:List (PK×PV)}{σ:St}{H:Hp}{s:PN}(I:Inv X (pins++pl) σ H s):Inv X pins σ H s:=I.pins_of fun p hp=>I.pin p (Rh _ (SW _ hp))
theorem gF{iter:PY}{body:List P5}{wi:TI}{g:TG}{tb:TS}{pos:Qi}(hp:PassesOwn (model X.prog X.w) X.A X.env X.xe)(hc:X.calm=true)(hi:PI X tg iter wi)(hg:PG X tg g)(hb:xI X body tb)
  (hs:∀x,foldedSetIterable iter X.env x=pure x:=by intro _;rfl):PS X (.For tg iter body [] pos) (pK wi g tb):=by
 intro pins s σ H D I h
 refine wpAny_For (cI (hi pins s σ H _ I h) fun v s1 h1=>cI h1 fun itv s2 h2=>?_) hs
 obtain⟨it,fp,tn,J,H2,e,I2,T,st2,f2,W,⟨m0,w0⟩,turn⟩:=h2
 subst e
 have stat:∀{H':Hp},(∀b∈fp,H' b=none)->∀b∈fp,qu X pins H' b:=fun hn b hb=>⟨hn b hb,(f2 b hb).2⟩
 refine codeAny_forLoop_any (fun n s'=>∃i σ' H',Inv X pins σ' H' s'/\tn i s'.heap/\(∀b∈fp,H' b=none)/\W i n σ' H') ?_ m0 ⟨0,σ,H2,I2,st2,fun b hb=>(f2 b hb).1,w0⟩
 rintro n s3 ⟨i,σ3,H3,I3,st3,fr3,w3⟩
 rcases turn i n σ3 H3 w3 with⟨stop,qn⟩|⟨go,N,hN,step⟩
 ·refine S0 hp (cI (T.done X rfl rfl rfl hc i pins s3 σ3 H3 X.xe I3 (stat fr3) st3 stop) fun r s4 ⟨hr,I4⟩=>?_)
  subst hr
  exact Tg ⟨σ3,H3,I4,qn⟩
 ·refine S0 hp (cI (T.item X rfl rfl rfl hc i pins s3 σ3 H3 X.xe I3 (stat fr3) st3 go) fun r s4 ⟨u,hr,h4⟩=>?_)
  subst hr
  refine S0 hp (cI h4 fun _ s5 ⟨x,H5,I5,r5,y5,st5,fr5⟩=>?_)
  have I5':=I5.pinned (stat fr5) (T.obj _ _ st5)
  refine S0 hp (cI (hg _ s5 σ3 H5 x u _ I5' r5 (step x H5 y5)) fun _ s6 ⟨σ6,H6,I6,q6⟩=>?_)
  refine S0 hp (cI (hb _ s6 σ6 H6 _ I6 q6) fun f s7 q7=>?_)
  have again:∀{σ7:St}{H7:Hp},Inv X (pins++vI fp s5.heap) σ7 H7 s7->N σ7 H7->∃m,m<n/\∃i σ' H',Inv X pins σ' H' s7/\tn i s7.heap/\(∀b∈fp,H' b=none)/\W i m σ' H':=fun {σ7 H7} I7 n7=>by
   obtain⟨m',hm,w7⟩:=hN σ7 H7 n7
   refine⟨m',hm,i+1,σ7,H7,I7.unpinned,T.keep _ _ _ st5 fun b hb o e=>(I7.pin (b,o) (Rh _ (Rh _ (ki hb e)))).1,fun b hb=>?_,w7⟩
   obtain⟨o,e,d⟩:=T.obj _ _ st5 b hb
   exact(I7.pin (b,o) (Rh _ (Rh _ (ki hb e)))).2.1
  cases f with
  |next=>obtain⟨σ7,H7,I7,n7⟩:=q7;exact again I7 n7
  |cont=>obtain⟨σ7,H7,I7,n7⟩:=q7;exact again I7 n7
  |brk=>obtain⟨σ7,H7,I7,q7⟩:=q7;exact⟨σ7,H7,I7.unpinned,q7⟩
  |ret v=>obtain⟨x7,σ7,H7,I7,r7,q7⟩:=q7;exact⟨x7,σ7,H7,I7.unpinned,r7,q7⟩
end
theorem HP{K:PM}{a:PK}{xs:List V}{g:TG}{tb:TS}{D:Ends}{σ:St}{H:Hp}(Pv:Nat->St->Hp->Prop)(h0:Pv 0 σ H)(hl:∀i σ H,i<=xs.length->Pv i σ H->aY K H a xs)
  (hs:∀i x σ H,xs[i]?=some x->Pv i σ H->g x σ H fun σ2 H2=>tb {D with nx:=Pv (i+1),ct:=Pv (i+1),bk:=D.nx} σ2 H2) (hd:∀σ H,Pv xs.length σ H->D.nx σ H):
  ∃W:Nat->Nat->St->Hp->Prop,(∃m,W 0 m σ H)/\∀i m σ H,W i m σ H->
   ((Hw K a).stop i H/\D.nx σ H)\/((Hw K a).go i H/\∃N:St->Hp->Prop,(∀σ' H',N σ' H'->∃m',m'<m/\W (i+1) m' σ' H')/\∀x H',(Hw K a).yld i H x H'->g x σ H' fun σ2 H2=>tb {D with nx:=N,ct:=N,bk:=D.nx} σ2 H2):=by
 exists fun i m σ H=>m=xs.length-i/\i<=xs.length/\Pv i σ H,⟨xs.length,by simp,Q3 _,h0⟩
 rintro i m σ H ⟨rfl,hi,p⟩
 have q:=hl i σ H hi p
 by_cases hlt:i<xs.length
 ·refine .inr ⟨⟨xs,xs[i],q,by simp[hlt]⟩,Pv (i+1),fun σ' H' p'=>⟨xs.length-(i+1),by omega,rfl,hlt,p'⟩,fun x H' y=>?_⟩
  obtain⟨e,y⟩:=y
  subst e
  exact hs i x σ _ (y xs q) p
 ·have e:i=xs.length:=by omega
  subst e
  exact .inl ⟨⟨xs,q,Qe _⟩,hd σ H p⟩
theorem j2{lo:Int}{n:Nat}{g:TG}{tb:TS}{D:Ends}{σ:St}{H:Hp}(Pv:Nat->St->Hp->Prop)(h0:Pv 0 σ H)
  (hs:∀i σ H,i<n->Pv i σ H->g (.int (lo+i)) σ H fun σ2 H2=>tb {D with nx:=Pv (i+1),ct:=Pv (i+1),bk:=D.nx} σ2 H2) (hd:∀σ H,Pv n σ H->D.nx σ H):
  ∃W:Nat->Nat->St->Hp->Prop,(∃m,W 0 m σ H)/\∀i m σ H,W i m σ H->
   ((HA lo n).stop i H/\D.nx σ H)\/((HA lo n).go i H/\∃N:St->Hp->Prop,(∀σ' H',N σ' H'->∃m',m'<m/\W (i+1) m' σ' H')/\∀x H',(HA lo n).yld i H x H'->g x σ H' fun σ2 H2=>tb {D with nx:=N,ct:=N,bk:=D.nx} σ2 H2):=by
 exists fun i m σ H=>m=n-i/\i<=n/\Pv i σ H,⟨n,by simp,Q3 _,h0⟩
 rintro i m σ H ⟨rfl,hi,p⟩
 by_cases hlt:i<n
 ·refine .inr ⟨hlt,Pv (i+1),fun σ' H' p'=>⟨n-(i+1),by omega,rfl,hlt,p'⟩,fun x H' y=>?_⟩
  obtain⟨e,y⟩:=y
  subst e y
  exact hs i σ _ hlt p
 ·have e:i=n:=by omega
  subst e
  exact .inl ⟨Qe _,hd σ H p⟩
noncomputable abbrev R2:=V->V->Hp->VK->Prop
noncomputable def je(X:Cx)(f:PL->PL->Sem PL)(r:R2):Prop:=
 ∀(pins:List (PK×PV))(s:PN)(σ:St)(H:Hp)(x y:V)(v u:PL)(Q:VK),Inv X pins σ H s->RelV x v->RelV y u->r x y H Q->
  PQ (model X.prog X.w) X.A (f v u) (EP X pins σ Q) X.xe s
noncomputable def fJ(X:Cx)(f:PL)(r:List V->Hp->VK->Prop):Prop:=
 ∀(pins:List (PK×PV))(s:PN)(σ:St)(H:Hp)(xs:List V)(us:List PL)(Q:VK),Inv X pins σ H s->bR xs us->r xs H Q->
  PQ (model X.prog X.w) X.A (call f us) (EP X pins σ Q) X.xe s
noncomputable def aN(r:R2)(ta tb:TE):TE:=fun σ H Q=>ta σ H fun x H1=>tb σ H1 fun y H2=>r x y H2 Q
noncomputable def rI(C:Int->Int->Prop)(g:Int->Int->V):R2:=fun x y H Q=>∃i j,x=.int i/\y=.int j/\C i j/\Q (g i j) H
noncomputable def Dk(g:Int->Int->V):R2:=fun x y H Q=>∃i j,x=.int i/\y=.int j/\Q (g i j) H
section
variable {X:Cx}{a b c:PY}{ta tb tc:TE}{pos:Qi}
theorem Mv(ha:PE X a ta)(hb:PE X b tb){pins:List (PK×PV)}{s:PN}{σ:St}{H:Hp}{R:V->V->Hp->Prop}(I:Inv X pins σ H s)
  (h:ta σ H fun x H1=>tb σ H1 fun y H2=>R x y H2) {Q:PL->PN->Prop}{f:PL->PL->Sem PL}
  (hf:∀v u s2 x y H2,Inv X pins σ H2 s2->RelV x v->RelV y u->R x y H2->PQ (model X.prog X.w) X.A (f v u) Q X.xe s2):
  PQ (model X.prog X.w) X.A (eval a X.env) (fun v s₁=>PQ (model X.prog X.w) X.A (eval b X.env) (fun u s₂=>PQ (model X.prog X.w) X.A (f v u) Q X.xe s₂) X.xe s₁) X.xe s:=by
 refine cI (ha pins s σ H _ I h) fun v s1 ⟨x,H1,I1,r1,q1⟩=>?_
 refine cI (hb pins s1 σ H1 _ I1 q1) fun u s2 ⟨y,H2,I2,r2,q2⟩=>?_
 exact hf v u s2 x y H2 I2 r1 r2 q2
theorem aA{op:Operator}{r:R2}(ho:je X (Rw op) r)(ha:PE X a ta)(hb:PE X b tb):PE X (.BinOp a op b pos) (aN r ta tb):=by
 intro pins s σ H Q I h
 exact wpAny_BinOp (Mv ha hb I h fun v u s2 x y H2 I2 rx ry q=>ho pins s2 σ H2 x y v u Q I2 rx ry q)
theorem OP{f:PL->PL->Sem PL}{C:Int->Int->Prop}{g:Int->Int->Int}
  (rule:∀(i j:Int)(t u:Tok)(s:PN)(Q:PL->PN->Prop)(E:PL->PN->Prop),C i j->Q (.int (g i j) s.toks) {s with toks:=s.toks+1}->PQ (model X.prog X.w) X.A (f (.int i t) (.int j u)) Q E s):
  je X f (rI C fun i j=>.int (g i j)):=by
 intro pins s σ H x y v u Q I rx ry h
 obtain⟨i,j,rfl,rfl,hc,q⟩:=h
 obtain⟨t,rfl⟩:=rx
 obtain⟨t',rfl⟩:=ry
 exact rule i j t t' s _ _ hc ⟨.int (g i j),H,I.tok _,⟨_,rfl⟩,q⟩
theorem Kl{f:PL->PL->Sem PL}{g:Int->Int->Int}
  (rule:∀(i j:Int)(t u:Tok)(s:PN)(Q:PL->PN->Prop)(E:PL->PN->Prop),Q (.int (g i j) s.toks) {s with toks:=s.toks+1}->PQ (model X.prog X.w) X.A (f (.int i t) (.int j u)) Q E s):
  je X f (Dk fun i j=>.int (g i j)):=by
 intro pins s σ H x y v u Q I rx ry h
 obtain⟨i,j,rfl,rfl,q⟩:=h
 obtain⟨t,rfl⟩:=rx
 obtain⟨t',rfl⟩:=ry
 exact rule i j t t' s _ _ ⟨.int (g i j),H,I.tok _,⟨_,rfl⟩,q⟩
theorem Kq{f:PL->PL->Sem PL}{g:Int->Int->Bool}
  (rule:∀(i j:Int)(t u:Tok)(s:PN)(Q:PL->PN->Prop)(E:PL->PN->Prop),Q (.bool (g i j)) s->PQ (model X.prog X.w) X.A (f (.int i t) (.int j u)) Q E s):
  je X f (Dk fun i j=>.bl (g i j)):=by
 intro pins s σ H x y v u Q I rx ry h
 obtain⟨i,j,rfl,rfl,q⟩:=h
 obtain⟨t,rfl⟩:=rx
 obtain⟨t',rfl⟩:=ry
 exact rule i j t t' s _ _ ⟨.bl (g i j),H,I,rfl,q⟩
noncomputable def Ls(i j:Int):Prop:=(-(2 ^ 64)<i/\i<2 ^ 64)\/(-(2 ^ 64)<j/\j<2 ^ 64)
theorem Ls.ok{i j:Int}(h:Ls i j):IntMulOk i j:=by
 rcases h with⟨h1,h2⟩|⟨h1,h2⟩
 ·exact .of_left (intBits_le_64 h1 h2)
 ·exact .of_right (intBits_le_64 h1 h2)
theorem ML:je X (Rw .Add) (Dk fun i j=>.int (i+j)):=Kl fun _ _ _ _ _ _ _ q=>add_int q
theorem Mr:je X (Rw .Sub) (Dk fun i j=>.int (i-j)):=Kl fun _ _ _ _ _ _ _ q=>sub_int q
theorem M5:je X (Rw .Mod) (rI (fun _ j=>0<j) fun i j=>.int (i%j)):=OP fun i j _ _ _ _ _ hc q=>by
 have h1:(0:Int)<j:=hc
 exact mod_int' (by omega) (by rw[Int.fmod_eq_emod_of_nonneg i (by omega)];exact q)
theorem Ku:je X (R6 .Add) (Dk fun i j=>.int (i+j)):=Kl fun _ _ _ _ _ _ _ q=>iadd_int q
theorem Ki:je X (R6 .Sub) (Dk fun i j=>.int (i-j)):=Kl fun _ _ _ _ _ _ _ q=>isub_int q
end
noncomputable def OK:V->V->Bool
 |.non,.non=>true | .non,.int _=>true | .int _,.non=>true | .non,.bl _=>true | .bl _,.non=>true | .non,.str _=>true | .str _,.non=>true
 |.int _,.int _=>true | .bl _,.bl _=>true | .str _,.str _=>true | .byt _,.byt _=>true
 |.int _,.str _=>true | .str _,.int _=>true | .bl _,.str _=>true | .str _,.bl _=>true
 |_,_=>false
noncomputable def oA:R2:=fun x y H Q=>OK x y=true/\Q (.bl (decide (x=y))) H
noncomputable def LL:R2:=fun x y H Q=>OK x y=true/\Q (.bl (!decide (x=y))) H
theorem E7{i j:Int}:decide (V.int i=V.int j)=(i==j):=by
 rw[Ri]
 simp
theorem Jg{i j:Bool}:decide (V.bl i=V.bl j)=(i==j):=by
 rw[Ri]
 simp
theorem EU{i j:PH}:decide (V.str i=V.str j)=(i==j):=by
 rw[Ri]
 simp
theorem Fi{i j:Array UInt8}:decide (V.byt i=V.byt j)=(i.toList==j.toList):=by
 rw[Ri]
 cases i
 cases j
 simp
section
variable {X:Cx}{a b c:PY}{ta tb tc:TE}{pos:Qi}
theorem bV{pins:List (PK×PV)}{σ:St}{H:Hp}{s:PN}{Q:VK}{k k':Bool}(I:Inv X pins σ H s)(q:Q (.bl k) H)(e:k=k'):EP X pins σ Q (.bool k') s:=by
 subst e
 exact⟨.bl k,H,I,rfl,q⟩
theorem c9:je X (QP .Eq) oA:=by
 intro pins s σ H x y v u Q I rx ry h
 obtain⟨hs,q⟩:=h
 cases x with
 |non=>
  cases rx
  cases y with
  |non=>cases ry;exact aan (bV I q (by simp))
  |bl j=>cases ry;exact aav (bV I q (by simp))
  |int j=>obtain⟨t',rfl⟩:=ry;exact aay (bV I q (by simp))
  |str j=>obtain⟨t',rfl⟩:=ry;exact ZS (bV I q (by simp))
  |_=>exact absurd (show false=true from hs) QM
 |bl i=>
  cases rx
  cases y with
  |non=>cases ry;exact aah (bV I q (by simp))
  |bl j=>cases ry;exact eq_bool (bV I q Jg)
  |str j=>obtain⟨t',rfl⟩:=ry;exact aaG (bV I q (by simp))
  |_=>exact absurd (show false=true from hs) QM
 |int i=>
  obtain⟨t,rfl⟩:=rx
  cases y with
  |non=>cases ry;exact aaC (bV I q (by simp))
  |int j=>obtain⟨t',rfl⟩:=ry;exact eq_int (bV I q E7)
  |str j=>obtain⟨t',rfl⟩:=ry;exact aaA (bV I q (by simp))
  |_=>exact absurd (show false=true from hs) QM
 |str i=>
  obtain⟨t,rfl⟩:=rx
  cases y with
  |non=>cases ry;exact Zv (bV I q (by simp))
  |bl j=>cases ry;exact Zf (bV I q (by simp))
  |int j=>obtain⟨t',rfl⟩:=ry;exact Y9 (bV I q (by simp))
  |str j=>obtain⟨t',rfl⟩:=ry;exact eq_str (bV I q EU)
  |_=>exact absurd (show false=true from hs) QM
 |byt i=>
  obtain⟨t,rfl⟩:=rx
  cases y with
  |byt j=>obtain⟨t',rfl⟩:=ry;exact ZX (bV I q Fi)
  |_=>exact absurd (show false=true from hs) QM
 |_=>cases y<;>exact absurd (show false=true from hs) QM
theorem Fy:je X (QP .NotEq) LL:=by
 intro pins s σ H x y v u Q I rx ry h
 obtain⟨hs,q⟩:=h
 cases x with
 |non=>
  cases rx
  cases y with
  |non=>cases ry;exact aae (bV I q (by simp))
  |bl j=>cases ry;exact ZP (bV I q (by simp))
  |int j=>obtain⟨t',rfl⟩:=ry;exact aaJ (bV I q (by simp))
  |str j=>obtain⟨t',rfl⟩:=ry;exact YY (bV I q (by simp))
  |_=>exact absurd (show false=true from hs) QM
 |bl i=>
  cases rx
  cases y with
  |non=>cases ry;exact ZA (bV I q (by simp))
  |bl j=>cases ry;exact ne_bool (bV I q (congrArg not Jg))
  |str j=>obtain⟨t',rfl⟩:=ry;exact ZK (bV I q (by simp))
  |_=>exact absurd (show false=true from hs) QM
 |int i=>
  obtain⟨t,rfl⟩:=rx
  cases y with
  |non=>cases ry;exact Y5 (bV I q (by simp))
  |int j=>obtain⟨t',rfl⟩:=ry;exact ne_int (bV I q (congrArg not E7))
  |str j=>obtain⟨t',rfl⟩:=ry;exact aaF (bV I q (by simp))
  |_=>exact absurd (show false=true from hs) QM
 |str i=>
  obtain⟨t,rfl⟩:=rx
  cases y with
  |non=>cases ry;exact Zp (bV I q (by simp))
  |bl j=>cases ry;exact YS (bV I q (by simp))
  |int j=>obtain⟨t',rfl⟩:=ry;exact aaa (bV I q (by simp))
  |str j=>obtain⟨t',rfl⟩:=ry;exact ne_str (bV I q (congrArg not EU))
  |_=>exact absurd (show false=true from hs) QM
 |byt i=>
  obtain⟨t,rfl⟩:=rx
  cases y with
  |byt j=>obtain⟨t',rfl⟩:=ry;exact Zk (bV I q (congrArg not Fi))
  |_=>exact absurd (show false=true from hs) QM
 |_=>cases y<;>exact absurd (show false=true from hs) QM
theorem Oc:je X (QP .Lt) (Dk fun i j=>.bl (decide (i<j))):=Kq fun _ _ _ _ _ _ _ q=>lt_int q
theorem Om:je X (QP .LtE) (Dk fun i j=>.bl (decide (i<=j))):=Kq fun _ _ _ _ _ _ _ q=>le_int q
theorem OE:je X (QP .Gt) (Dk fun i j=>.bl (decide (j<i))):=Kq fun _ _ _ _ _ _ _ q=>gt_int q
theorem NX:je X (QP .GtE) (Dk fun i j=>.bl (decide (j<=i))):=Kq fun _ _ _ _ _ _ _ q=>ge_int q
theorem F9:je X (QP .In) (fun x y H Q=>∃i j,x=.str i/\y=.str j/\Q (.bl (!(TQ j i 0 j.length 1).isEmpty)) H):=by
 intro pins s σ H x y v u Q I rx ry h
 obtain⟨i,j,rfl,rfl,q⟩:=h
 obtain⟨t,rfl⟩:=rx
 obtain⟨t',rfl⟩:=ry
 exact in_str (bV I q rfl)
theorem DP:je X (QP .Is) (fun x y H Q=>y=.non/\Q (.bl (decide (x=.non))) H):=by
 intro pins s σ H x y v u Q I rx ry h
 obtain⟨rfl,q⟩:=h
 cases ry
 refine is_none_gen (bV I q ?_)
 cases x<;>first
  |(cases rx;rfl)
  |(obtain⟨t,rfl⟩:=rx;rfl)
theorem Fz:je X (QP .IsNot) (fun x y H Q=>y=.non/\Q (.bl (!decide (x=.non))) H):=by
 intro pins s σ H x y v u Q I rx ry h
 obtain⟨rfl,q⟩:=h
 cases ry
 refine isnot_none_gen (bV I q ?_)
 cases x<;>first
  |(cases rx;rfl)
  |(obtain⟨t,rfl⟩:=rx;rfl)
theorem bg(b:PY){op:CmpOp}(h:op≠.In:=by decide)(h2:op≠.NotIn:=by decide):TL op b=false:=by
 have e1:(op==CmpOp.In)=false:=by cases op<;>first|rfl|exact absurd rfl h
 have e2:(op==CmpOp.NotIn)=false:=by cases op<;>first|rfl|exact absurd rfl h2
 cases b<;>simp[TL,e1,e2]
theorem qp{op:CmpOp}{r:R2}(ho:je X (QP op) r)(ha:PE X a ta)(hb:PE X b tb)(hm:TL op b=false):PE X (.Compare a [op] [b] pos) (aN r ta tb):=by
 intro pins s σ H Q I h
 exact wpAny_Compare1 (Mv ha hb I h fun v u s2 x y H2 I2 rx ry q=>ho pins s2 σ H2 x y v u Q I2 rx ry q) hm
noncomputable def bA(t:TE):TT:=fun σ H Q=>t σ H fun x H'=>∃k,x=.bl k/\Q k H'
theorem aI{op:CmpOp}{r:R2}(ho:je X (QP op) r)(ha:PE X a ta)(hb:PE X b tb)(hm:TL op b=false):PT X (.Compare a [op] [b] pos) (bA (aN r ta tb)):=by
 intro pins s σ H Q I h
 refine wpAny_isTrue_Compare1 (cI (ha pins s σ H _ I h) fun v s1 ⟨x,H1,I1,r1,q1⟩=>cI (hb pins s1 σ H1 _ I1 q1) fun u s2 ⟨y,H2,I2,r2,q2⟩=>
  cI (ho pins s2 σ H2 x y v u _ I2 r1 r2 q2) fun c s3 ⟨z,H3,I3,r3,k,e,q3⟩=>?_) hm
 subst e
 cases r3
 exact Tn ⟨H3,I3,q3⟩
noncomputable def AB(r r':R2)(ta tb tc:TE):TE:=fun σ H Q=>ta σ H fun x H1=>tb σ H1 fun y H2=>r x y H2 fun z H3=>∃k,z=.bl k/\
 (if k=true then tc σ H3 fun w' H4=>r' y w' H4 Q else Q (.bl false) H3)
theorem Cw{op op':CmpOp}{r r':R2}(ho:je X (QP op) r)(ho':je X (QP op') r')(ha:PE X a ta)(hb:PE X b tb)(hc:PE X c tc)
  (hm:lastMarks [op,op'] [b,c]=false:=by with_unfolding_all rfl):PE X (.Compare a [op,op'] [b,c] pos) (AB r r' ta tb tc):=by
 intro pins s σ H Q I h
 refine Compare_chain (cI (ha pins s σ H _ I h) fun v s1 ⟨x,H1,I1,r1,q1⟩=>chain_link (cI (hb pins s1 σ H1 _ I1 q1) fun u s2 ⟨y,H2,I2,r2,q2⟩=>
  cI (ho pins s2 σ H2 x y v u _ I2 r1 r2 q2) fun d s3 ⟨z,H3,I3,r3,k,e,q3⟩=>?_)) hm
 subst e
 cases r3
 refine Tn ?_
 cases k with
 |false=>exact ite_ff ⟨.bl false,H3,I3,rfl,q3⟩
 |true=>exact ite_tt (chain_last (cI (hc pins s3 σ H3 _ I3 q3) fun w' s4 ⟨z',H4,I4,r4,q4⟩=>ho' pins s4 σ H4 y z' u w' Q I4 r2 r4 q4))
theorem wC:(PZ:Nat)<2 ^ 63:=by rw[sizeLine_eq];decide
theorem D6:je X (Rw .Add) (fun x y H Q=>∃i j,x=.str i/\y=.str j/\i.length+j.length<=PZ/\Q (.str (i++j)) H):=by
 intro pins s σ H x y v u Q I rx ry h
 obtain⟨i,j,rfl,rfl,hz,q⟩:=h
 obtain⟨t,rfl⟩:=rx
 obtain⟨t',rfl⟩:=ry
 exact add_str (fun t' tk=>⟨.str (i++j),H,I.tok _,⟨_,rfl⟩,q⟩) hz
theorem vals1{x:V}{us:List PL}(r:bR [x] us):∃u,us=[u]/\RelV x u:=by
 cases r with
 |cons r1 r2=>cases r2;exact⟨_,rfl,r1⟩
theorem vals2{x y:V}{us:List PL}(r:bR [x,y] us):∃u w',us=[u,w']/\RelV x u/\RelV y w':=by
 cases r with
 |cons r1 r2=>
  cases r2 with
  |cons r3 r4=>cases r4;exact⟨_,_,rfl,r1,r3⟩
theorem GV(hc:X.calm=true):fJ X (.builtin "min") (fun xs H Q=>∃i j,xs=[.int i,.int j]/\Q (.int (if j<i then j else i)) H):=by
 intro pins s σ H xs us Q I r h
 obtain⟨i,j,rfl,q⟩:=h
 obtain⟨u,w',rfl,⟨t,rfl⟩,⟨t',rfl⟩⟩:=vals2 r
 refine min_two_ints (I.ok.hd hc) fun h' tk k=>⟨_,H,I.kept k,?_,q⟩
 by_cases hj:j<i
 ·rw[if_pos hj,if_pos hj];exact⟨_,rfl⟩
 ·rw[if_neg hj,if_neg hj];exact⟨_,rfl⟩
theorem zO:fJ X (.type "str") (fun xs H Q=>∃i,xs=[.int i]/\i.natAbs.log2<1920/\Q (.str (toString i)) H):=by
 intro pins s σ H xs us Q I r h
 obtain⟨i,rfl,hz,q⟩:=h
 obtain⟨u,rfl,t,rfl⟩:=vals1 r
 exact Zs hz ⟨.str _,H,I.tok _,⟨_,rfl⟩,q⟩
end
structure DD(h:P0)(x dx C:PK)(mA:PH->Option PL):Prop where
 obj:h.get? x=some (Sn C dx)
 ns:h.Ns1 dx mA
 ne:dx≠x
theorem Gw{h:P0}{dx:PK}{mA:PH->Option PL}(n:h.Ns1 dx mA):∃od,h.get? dx=some od/\∀name,Vb name od=some (mA name):=by
 obtain⟨o,es,ep,ho,hd,hk,_,hm⟩:=n
 refine⟨o,ho,fun name=>?_⟩
 have e:=hm name
 unfold nsFind findBy at e
 rw[<-Array.find?_toList]at e
 unfold Vb
 rw[hd]
 dsimp only
 split
 ·rename_i y q
  rw[q]at e
  exact congrArg some e
 ·rename_i q
  rw[q]at e
  have a:es.toList.any (·.refKey)=false:=by
   rw[List.any_eq_false]
   intro y hy
   obtain⟨z,t,hkey⟩:=hk y (Xi.mp hy)
   simp[YX,hkey]
  have a':¬es.toList.any (·.refKey)=true:=by rw[a];exact QM
  rw[if_neg a']
  exact congrArg some e
theorem DD.look{h:P0}{x dx C:PK}{mA:PH->Option PL}(I:DD h x dx C mA):∃od,SY h x (Sn C dx) C (some od)/\∀name,Vb name od=some (mA name):=
 let ⟨od,ho,hl⟩:=Gw I.ns
 ⟨od,⟨I.obj,rfl,rfl,ho⟩,hl⟩
section
variable {prog:Qc}{w:P8}{A:Qg}{E:PL->PN->Prop}{s:PN}{K:PM}{x dx C f:PK}{mA:PH->Option PL}{name:PH}{v:PL}
theorem get_map{expr:Bool}{Q:PL->PN->Prop}(X:K.In s.heap)(I:DD s.heap x dx C mA)(hg:Ub K C name=true)(hh:U4 K C=true)
  (ha:Q9 K (.ref C) name=some none) (hv:mA name=some v) (hv':Wu v=true) (h:Q v {s with toks:=s.toks+1}):
  PQ (model prog w) A (getAttr (.ref x) name expr) Q E s:=by
 obtain⟨od,J,hl⟩:=I.look
 exact aab X J (Vy hg).1 (Zj hh ha rfl (by rw[hl,hv])) hv' h
theorem HF{pl:Sem Bool}{Q:PL×List PL->PN->Prop}(X:K.In s.heap)(I:DD s.heap x dx C mA)(hg:Ub K C name=true)
  (hf:Q9 K (.ref C) name=some (some (.ref f))) (ht:UJ K (.ref f)=true) (hv:mA name=none) (h:Q (.ref f,[.ref x]) s):
  PQ (model prog w) A (R0 (.ref x) name pl) Q E s:=by
 obtain⟨od,J,hl⟩:=I.look
 exact Za X J (Vy hg).1 (Vy hg).2 hf (beq_iff_eq.mp ht) (by show(Vb name od).map (·.isSome)=some false;rw[hl,hv];rfl) h
theorem Lm{ns:List PH}{Q:Unit->PN->Prop}(X:K.In s.heap)(I:DD s.heap x dx C mA)
  (hs:Q9 K (.ref C) "__setattr__"=some (some (.builtin "object.__setattr__"))) (hp:VM K C=true) (ht:Wk K C name=some none) (hh:U4 K C=true)
  (hw:Vm mA ns) (hsz:ns.length<=PZ)
  (h:∀h',DD h' x dx C (fun y=>if y=name then some v else mA y)->RT dx s.heap h'->Q () {s with heap:=h',toks:=s.toks+2}):
  PQ (model prog w) A (setAttr (.ref x) name v) Q E s:=by
 obtain⟨od,J,hl⟩:=I.look
 refine aaE X J hs (Z9 (s:={s with toks:=s.toks+1}) (r:=none) X J hp ht fun b=>?_)
 obtain⟨cd,hc,hd'⟩:=aap hh
 have hx:s.heap.get? x=some ⟨.ref C,some dx,.plain,#[]⟩:=I.obj
 refine PR (Qh (PR (PR (wpAny_loadPart hx (PR (Z5 (s:={s with toks:=s.toks+1}) (aak X hc) ?_))))))
 rw[hd']
 refine Qh (a:=some dx) (PR (Qh (PR ?_)))
 refine wpAny_nsSet1 (s:={s with toks:=s.toks+1}) I.ns fun h' hn2 hs2=>?_
 obtain⟨oD,esD,epD,hoD,hdD,hcD⟩:=hn2.count (Zg name v hw)
 refine PR (wpAny_lookBehind hoD (by rw[hdD];exact pastItsLine_dict (P6 hcD (by rw[QV];omega))) ?_)
 exact Qh (h _ ⟨(hs2.2 _ (Qy I.ne)).trans I.obj,hn2,I.ne⟩ hs2)
theorem Kd{R:Result->PN->Prop}{vs:List PL}{kw:List (PH×PL)}(X:K.In s.heap)(hm:UU K C=true)
  (hi:Q9 K (.ref C) "__init__"=some (some (.ref f))) (hf:V0 K (.ref f)=some (.type "function"))
  (h:RP (model prog w) (A.under (.builtin "type.__call__" ⟨.ref C::vs,kw⟩)) (.call (.ref f) ⟨.ref (s.heap.objs.size+1)::vs,kw⟩) (Z0 (s.heap.objs.size+1) R)
   {s with heap:=(s.heap.push Sa).push (Sn C s.heap.objs.size)}):
  RP (model prog w) A (.call (.ref C) ⟨vs,kw⟩) R s:=by
 obtain⟨hh,g,d,t,os⟩:=s
 exact aaL (ZL X hm) (aac X hi) (fun self=>aaN X self hf) (.inl rfl) h
end
noncomputable def b9(f:PH)(v:V):List (PH×V)->List (PH×V)
 |[]=>[(f,v)]
 |(g,x)::r=>if g=f then(g,v)::r else(g,x)::b9 f v r
theorem sY(f g:PH)(v:V):∀fs:List (PH×V),(b9 f v fs).lookup g=if g=f then some v else fs.lookup g
 |[]=>by
  show Rj g [(f,v)]=_
  by_cases h:g=f
  ·have hb:(g==f)=true:=beq_iff_eq.mpr h
   simp only[Rj,hb,if_pos h]
  ·have hb:(g==f)=false:=beq_eq_false_iff_ne.mpr h
   simp only[Rj,hb,if_neg h]
 |(k,x)::r=>by
  have ih:=sY f g v r
  rw[show b9 f v ((k,x)::r)=(if k=f then(k,v)::r else(k,x)::b9 f v r)from rfl]
  by_cases hk:k=f
  ·rw[if_pos hk]
   by_cases h:g=k
   ·have hb:(g==k)=true:=beq_iff_eq.mpr h
    simp only[Rj,hb,if_pos (h.trans hk)]
   ·have hb:(g==k)=false:=beq_eq_false_iff_ne.mpr h
    simp only[Rj,hb,if_neg (fun e:g=f=>h (e.trans hk.symm))]
  ·rw[if_neg hk]
   by_cases h:g=k
   ·have hb:(g==k)=true:=beq_iff_eq.mpr h
    simp only[Rj,hb,if_neg (fun e:g=f=>hk (h.symm.trans e))]
   ·have hb:(g==k)=false:=beq_eq_false_iff_ne.mpr h
    simp only[Rj,hb]
    exact ih
theorem sH(f:PH)(v:V):∀fs:List (PH×V),f∈(b9 f v fs).map (·.1)/\∀g,g∈fs.map (·.1)->g∈(b9 f v fs).map (·.1)
 |[]=>⟨by simp[b9],fun g h=>by simp at h⟩
 |(k,x)::r=>by
  obtain⟨i1,i2⟩:=sH f v r
  rw[show b9 f v ((k,x)::r)=(if k=f then(k,v)::r else(k,x)::b9 f v r)from rfl]
  by_cases hk:k=f
  ·rw[if_pos hk]
   subst hk
   exact⟨by simp,fun g h=>by simpa using h⟩
  ·rw[if_neg hk]
   refine⟨?_,fun g h=>?_⟩
   ·rw[Qu]
    exact Qs _ i1
   ·rw[Qu]at h ⊢
    rcases Qa.mp h with e|e
    ·exact Qa.mpr (.inl e)
    ·exact Qs _ (i2 g e)
theorem tL(f:PH)(v:V):∀fs:List (PH×V),(b9 f v fs).length<=fs.length+1
 |[]=>by simp[b9]
 |(k,x)::r=>by
  have ih:=tL f v r
  rw[show b9 f v ((k,x)::r)=(if k=f then(k,v)::r else(k,x)::b9 f v r)from rfl]
  by_cases hk:k=f
  ·rw[if_pos hk,QV,QV];omega
  ·rw[if_neg hk,QV,QV];omega
theorem ni.some_of{v:V}{o:Option PL}(r:ni (some v) o):∃u,o=some u/\RelV v u:=by
 cases o with
 |none=>exact(show False from r).elim
 |some u=>exact⟨u,rfl,r⟩
theorem ni.none_of{o:Option PL}(r:ni none o):o=none:=by
 cases o with
 |none=>rfl
 |some u=>exact(show False from r).elim
theorem F5{v:V}{u:PL}(r:RelV v u):Wu u=true:=by
 cases v with
 |non=>cases(show u=Rg from r);rfl
 |bl b=>cases(show u=Sk b from r);rfl
 |int i=>obtain⟨t,e⟩:=(show ∃t,u=RZ i t from r);cases e;rfl
 |str x=>obtain⟨t,e⟩:=(show ∃t,u=SU x t from r);cases e;rfl
 |byt b=>obtain⟨t,e⟩:=(show ∃t,u=X0 b t from r);cases e;rfl
 |flt b=>obtain⟨t,e⟩:=(show ∃t,u=WS b t from r);cases e;rfl
 |ref a=>cases(show u=Qo a from r);rfl
 |ty n=>cases(show u=Vv n from r);rfl
section
variable {P:Qc}{w:P8}{H H':Hp}{h h':P0}{a C dx:PK}{fs fs':List (PH×V)}
theorem Av(hok:oj P w H h)(e:H a=some (.ins C dx fs)):∃mA,DD h a dx C mA/\(∀f,ni (fs.lookup f) (mA f))/\Vm mA (fs.map (·.1))/\fs.length<=1000/\H dx=some (.own a):=by
 obtain⟨d,z,ne,ob,mA,n,r,q⟩:=(show dc P w H h a (.ins C dx fs)from hok a _ e)
 exact⟨mA,⟨ob,n,ne⟩,r,q,z,d⟩
end
structure gY(K:PM)(C:PK):Prop where
 pg:Ub K C Qp=true
 hd:U4 K C=true
 po:VM K C=true
 sa:Q9 K (.ref C) "__setattr__"=some (some (.builtin "object.__setattr__"))
theorem gY.get{K:PM}{C:PK}(c:gY K C)(f:PH):Ub K C f=true:=c.pg
noncomputable def dg(K:PM)(C:PK)(f:PH):Prop:=Q9 K (.ref C) f=some none
theorem dg.taker{K:PM}{C:PK}{f:PH}(n:dg K C f):Wk K C f=some none:=by
 unfold Wk
 rw[show Q9 K (.ref C) f=some none from n]
 rfl
structure F0(K:PM)(C:PK)(m:PH)(f:PK):Prop where
 at_:Q9 K (.ref C) m=some (some (.ref f))
 fn:UJ K (.ref f)=true
 kp:RN K (.ref f)=true
section
variable {X:Cx}{pins:List (PK×PV)}{σ:St}{H:Hp}{s:PN}{a C dx:PK}{fs:List (PH×V)}{f:PH}{v:V}{A:Qg}{E:PL->PN->Prop}
theorem u4{b:Bool}{Q:PL->PN->Prop}(I:Inv X pins σ H s)(e:H a=some (.ins C dx fs))(c:gY X.K C)(n:dg X.K C f)(l:fs.lookup f=some v)
  (h:∀u s',Inv X pins σ H s'->RelV v u->Q u s'):PQ (model X.prog X.w) A (getAttr (.ref a) f b) Q E s:=by
 obtain⟨mA,O,r,_,_,_⟩:=Av I.hok e
 obtain⟨u,hu,ru⟩:=ni.some_of (v:=v) (o:=mA f) (by rw[<-l];exact r f)
 exact get_map I.kIn O (c.get f) c.hd n hu (F5 ru) (h u _ (I.tok _) ru)
theorem lK{m:PH}{g:PK}{pl:Sem Bool}{Q:PL×List PL->PN->Prop}(I:Inv X pins σ H s)(e:H a=some (.ins C dx fs))(c:gY X.K C)(k:F0 X.K C m g)(l:fs.lookup m=none)
  (h:Q (.ref g,[.ref a]) s):PQ (model X.prog X.w) A (R0 (.ref a) m pl) Q E s:=by
 obtain⟨mA,O,r,_,_,_⟩:=Av I.hok e
 have hn:mA m=none:=ni.none_of (by rw[<-l];exact r m)
 exact HF I.kIn O (c.get m) k.at_ k.fn hn h
theorem wc{y:V}{u:PL}{Q:Unit->PN->Prop}(I:Inv X pins σ H s)(e:H a=some (.ins C dx fs))(c:gY X.K C)(n:dg X.K C f)(hl:fs.length<1000)(ry:RelV y u)
  (h:∀s',Inv X pins σ (upd H a (.ins C dx (b9 f y fs))) s'->Q () s'):PQ (model X.prog X.w) A (setAttr (.ref a) f u) Q E s:=by
 obtain⟨mA,O,r,wi,_,ho⟩:=Av I.hok e
 have hz:(fs.map (·.1)).length<=PZ:=by rw[P7,sizeLine_eq];omega
 refine Lm I.kIn O c.sa c.po n.taker c.hd wi hz fun h' O' sb=>h _ ?_
 have hd:∃o,h'.get? dx=some o:=let ⟨o,_,_,e',_⟩:=O'.ns;⟨o,e'⟩
 refine I.write (x:=a) (e:=dx) (by rw[e];exact SF) (.inr ho) (fun b q hb z=>(sb.2 b hb).trans z) hd ?_
 refine⟨by rw[ak O.ne];exact ho,?_,O.ne,O'.obj,_,O'.ns,fun g=>?_,fun g hg=>?_⟩
 ·have:=tL f y fs;omega
 ·show ni ((b9 f y fs).lookup g) (if g=f then some u else mA g)
  rw[sY]
  by_cases q:g=f
  ·rw[if_pos q,if_pos q];exact ry
  ·rw[if_neg q,if_neg q];exact r g
 ·by_cases q:g=f
  ·rw[q];exact(sH f y fs).1
  ·refine(sH f y fs).2 g (wi g fun z=>hg ?_)
   show(if g=f then some u else mA g)=none
   rw[if_neg q];exact z
theorem Inv.made(I:Inv X pins σ H s):Inv X pins σ (upd (upd H s.heap.objs.size (.own (s.heap.objs.size+1))) (s.heap.objs.size+1) (.ins C s.heap.objs.size []))
  {s with heap:=(s.heap.push Sa).push (Sn C s.heap.objs.size)}:=by
 have e1:(s.heap.push Sa).get? s.heap.objs.size=some Sa:=Qz s.heap rfl
 have e2:((s.heap.push Sa).push (Sn C s.heap.objs.size)).get? (s.heap.objs.size+1)=some (Sn C s.heap.objs.size):=by
  have:=Qz (s.heap.push Sa) (o:=Sn C s.heap.objs.size) rfl
  rwa [Rx]at this
 have e3:(s.heap.push Sa).Ns s.heap.objs.size (fun _=>none):=⟨Sa,#[],_,e1,rfl,(fun e he=>absurd he (by simp)),fun _=>rfl⟩
 have I1:=I.laid (a:=s.heap.objs.size) (o:=.own (s.heap.objs.size+1)) (h':=s.heap.push Sa) (t':=s.toks) (fun b u q=>Qr _ q) (Qe _) ⟨_,e1⟩
 refine I1.laid (a:=s.heap.objs.size+1) (o:=.ins C s.heap.objs.size []) (t':=s.toks) (fun b u q=>Qr _ q) (Ts (Rx _ _)) ?_
 have ne:s.heap.objs.size≠s.heap.objs.size+1:=Qt (UL _)
 refine⟨by rw[ak ne,ax],Q3 _,ne,e2,fun _=>none,(aaS e3).at fun o q=>Qr _ q,fun _=>SF,fun y hy=>absurd rfl hy⟩
theorem Lb{prog:Qc}{w:P8}{env:Qq}{e:PY}{f:PH}{pos:Qi}{s:PN}{Q:PL->PN->Prop}(hb:SK e f env (eval e env)=eval e env)
  (h:PQ (model prog w) A (eval e env) (fun o s₁=>PQ (model prog w) A (getAttr o f true) Q E s₁) E s):PQ (model prog w) A (eval (.Attribute e f pos) env) Q E s:=
 Attribute_any_ h (by rw[arm_eval_Attribute,hb])
end
noncomputable def c7(K:PM)(ta:TE)(f:PH):TE:=fun σ H Q=>ta σ H fun x H1=>∃a C dx fs v,x=.ref a/\H1 a=some (.ins C dx fs)/\gY K C/\dg K C f/\fs.lookup f=some v/\Q v H1
noncomputable def qT(K:PM)(ta tv:TE)(f:PH):TS:=fun D σ H=>tv σ H fun y H1=>ta σ H1 fun x H2=>∃a C dx fs,x=.ref a/\H2 a=some (.ins C dx fs)/\gY K C/\dg K C f/\fs.length<1000/\
 D.nx σ (upd H2 a (.ins C dx (b9 f y fs)))
noncomputable def Ng(X:Cx)(op:Operator)(rd:V->V->Hp->VK->Prop):Prop:=
 ∀(pins:List (PK×PV))(s:PN)(σ:St)(H:Hp)(x y:V)(u v:PL)(Q:VK),Inv X pins σ H s->RelV x u->RelV y v->rd x y H Q->PQ (model X.prog X.w) X.A (R6 op u v) (EP X pins σ Q) X.xe s
noncomputable def jr(K:PM)(ta tv:TE)(rd:V->V->Hp->VK->Prop)(f:PH):TS:=fun D σ H=>ta σ H fun x H1=>∃a C dx fs v,x=.ref a/\H1 a=some (.ins C dx fs)/\gY K C/\dg K C f/\fs.lookup f=some v/\
 tv σ H1 fun y H2=>rd v y H2 fun z H3=>∃dx' fs',H3 a=some (.ins C dx' fs')/\fs'.length<1000/\D.nx σ (upd H3 a (.ins C dx' (b9 f z fs')))
section
variable {X:Cx}{o e value:PY}{f:PH}{pos pos' tpos:Qi}{ta tv:TE}
theorem bC(he:PE X e ta)(hb:SK e f X.env (eval e X.env)=eval e X.env):PE X (.Attribute e f pos) (c7 X.K ta f):=by
 intro pins s σ H Q I h
 refine Lb hb (cI (he pins s σ H _ I h) fun u s1 ⟨x,H1,I1,rx,a,C,dx,fs,v,ex,ea,c,n,l,q⟩=>?_)
 subst ex
 obtain rfl:u=Qo a:=rx
 exact u4 I1 ea c n l fun u' s2 I2 ru=>⟨v,H1,I2,ru,q⟩
theorem gG(ha:PE X o ta)(hv:PE X value tv)(hs:swapsWith value (some (.Attribute o f pos')) pos.line X.env=pure false):PS X (.Assign [.Attribute o f pos'] value pos) (qT X.K ta tv f):=by
 intro pins s σ H D I h
 refine plainObj_wpAny_Assign_Attribute (cI (hv pins s σ H _ I h) fun u s1 ⟨y,H1,I1,ry,q⟩=>cI (ha pins s1 σ H1 _ I1 q) fun ov s2 ⟨x,H2,I2,rx,a,C,dx,fs,ex,ea,c,n,l,q2⟩=>?_) hs
 subst ex
 obtain rfl:ov=Qo a:=rx
 exact wc I2 ea c n l ry fun s3 I3=>⟨σ,_,I3,q2⟩
theorem ic{op:Operator}{rd:V->V->Hp->VK->Prop}(ha:PE X o ta)(hv:PE X value tv)(hop:Ng X op rd):PS X (.AugAssign (.Attribute o f tpos) op value pos) (jr X.K ta tv rd f):=by
 intro pins s σ H D I h
 refine wpAny_AugAssign_AttributeAny (cI (ha pins s σ H _ I h) fun ov s1 ⟨x,H1,I1,rx,a,C,dx,fs,v,ex,ea,c,n,l,q⟩=>?_)
 subst ex
 obtain rfl:ov=Qo a:=rx
 refine u4 I1 ea c n l fun u s2 I2 ru=>cI (hv pins s2 σ H1 _ I2 q) fun w3 s3 ⟨y,H2,I3,ry,q3⟩=>cI (hop pins s3 σ H2 v y u w3 _ I3 ru ry q3) fun w4 s4 ⟨z,H3,I4,rz,dx',fs',ea',l',q4⟩=>?_
 exact wc I4 ea' c n l' rz fun s5 I5=>⟨σ,_,I5,q4⟩
noncomputable def Gb:V->V->Hp->VK->Prop:=fun x y H Q=>∃i j,x=.int i/\y=.int j/\Q (.int (i+j)) H
noncomputable def Oa:V->V->Hp->VK->Prop:=fun x y H Q=>∃i j,x=.int i/\y=.int j/\Q (.int (i-j)) H
theorem vz:Ng X .Add Gb:=by
 rintro pins s σ H x y u v Q I rx ry ⟨i,j,rfl,rfl,q⟩
 obtain⟨t,rfl⟩:=(show ∃t,u=RZ i t from rx)
 obtain⟨t',rfl⟩:=(show ∃t',v=RZ j t' from ry)
 exact Z2 ⟨.int (i+j),H,I.tok _,⟨_,rfl⟩,q⟩
theorem MW:Ng X .Sub Oa:=by
 rintro pins s σ H x y u v Q I rx ry ⟨i,j,rfl,rfl,q⟩
 obtain⟨t,rfl⟩:=(show ∃t,u=RZ i t from rx)
 obtain⟨t',rfl⟩:=(show ∃t',v=RZ j t' from ry)
 exact aaM ⟨.int (i-j),H,I.tok _,⟨_,rfl⟩,q⟩
theorem LV{pl:Sem Bool}{m:PH}{apos:Qi}{args:List PY}{pins:List (PK×PV)}{s:PN}{σ:St}{H:Hp}{Q:PL->PN->Prop}{te:TE}(he:PE X e te)(I:Inv X pins σ H s)
  (h:te σ H fun x H1=>∃a C dx fs g,x=.ref a/\H1 a=some (.ins C dx fs)/\gY X.K C/\F0 X.K C m g/\fs.lookup m=none/\
   ∀s1,Inv X pins σ H1 s1->PQ (model X.prog X.w) X.A (callWith pos (.ref g) [.ref a] (QF pos (Qf args X.env)) (RW pos (RO [] X.env))) Q X.xe s1)
  (ht:eval (.Call (.Attribute e m apos) args [] pos) X.env=(do
   let ov <-eval e X.env
   standAt apos.atName
   let (f,first) <-holding [ov] (R0 ov m pl)
   callWith pos f first (QF pos (Qf args X.env)) (RW pos (RO [] X.env)))):
  PQ (model X.prog X.w) X.A (eval (.Call (.Attribute e m apos) args [] pos) X.env) Q X.xe s:=by
 refine U9 (pl:=pl) (cI (he pins s σ H _ I h) fun u s1 ⟨x,H1,I1,rx,a,C,dx,fs,g,ex,ea,c,k,l,q⟩=>?_) ht
 subst ex
 obtain rfl:u=Qo a:=rx
 exact lK I1 ea c k l (q s1 I1)
end
section
variable {X:Cx}{pins:List (PK×PV)}{σ:St}{H:Hp}{s:PN}{A:Qg}{E:PL->PN->Prop}{Q:PL->PN->Prop}{c:PL}{b:Bool}
end
structure di(k:Nat)(A:Qg):Prop where
 hd:A.handled=none
 dp:A.depth+3*k+5<recursionLimit
 un:A.units+16*k+200<cLine
theorem di.mono{j k:Nat}{A:Qg}(r:di k A)(h:j<=k):di j A:=⟨r.hd,by have:=r.dp;omega,by have:=r.un;omega⟩
theorem di.deeper{k:Nat}{A:Qg}(r:di (k+1) A)(env:Qq):di k (A.deeper env):=
 ⟨r.hd,by have:=r.dp;show A.depth+1+3*k+5<_;omega,by have:=r.un;show A.units+3+16*k+200<_;omega⟩
theorem DE{A:Qg}{C:PK}{us:List PL}{kw:List (PH×PL)}:(A.under (.builtin "type.__call__" ⟨.ref C::us,kw⟩)).depth=A.depth+1:=by
 first|rfl|simp[V8,Code.weight,Code.isCreation,Code.isGuard,Code.isCaller,Xx,Vq,guardIds]
theorem Ei{A:Qg}{C:PK}{us:List PL}{kw:List (PH×PL)}:(A.under (.builtin "type.__call__" ⟨.ref C::us,kw⟩)).units=A.units+1:=by
 first|rfl|simp[V8,Code.cUnits,Xx,Vq]
theorem di.make{k:Nat}{A:Qg}(r:di (k+1) A)(C:PK)(us:List PL)(kw:List (PH×PL)):di k (A.under (.builtin "type.__call__" ⟨.ref C::us,kw⟩)):=
 ⟨r.hd,by have:=r.dp;rw[DE];omega,by have:=r.un;rw[Ei];omega⟩
theorem di.depth{k:Nat}{A:Qg}(r:di k A):A.depth<recursionLimit:=by have:=r.dp;omega
theorem di.units{k:Nat}{A:Qg}(r:di k A):A.units+64<cLine:=by have:=r.un;omega
noncomputable def az:TA:=fun _ H Q=>Q [] H
noncomputable def ae(ta:TE)(tr:TA):TA:=fun σ H Q=>ta σ H fun x H1=>tr σ H1 fun xs H2=>Q (x::xs) H2
section
variable {X:Cx}{e:PY}{es:List PY}{te:TE}{t:TA}{pos:Qi}
theorem ag:PA X [] az:=fun _ _ _ _ H Q I h=>V4 ⟨[],H,I,.nil,h⟩
theorem aa(ha:PE X e te)(hr:PA X es t)(hs:Qf (e::es) X.env=(false,eval e X.env)::Qf es X.env:=by rfl):PA X (e::es) (ae te t):=by
 intro pos pins s σ H Q I h
 rw[hs]
 show PQ _ _ (spliced ((false,eval e X.env)::QF pos (Qf es X.env))) _ _ s
 refine We (cI (ha pins s σ H _ I h) fun u s1 ⟨x,H1,I1,r1,q1⟩=>?_)
 exact cI (hr pos pins s1 σ H1 _ I1 q1) fun us s2 ⟨xs,H2,I2,r2,q2⟩=>⟨x::xs,H2,I2,.cons r1 r2,q2⟩
noncomputable def oz(t:TA):TE:=fun σ H Q=>t σ H fun xs H1=>xs.length<=PZ/\∀p,H1 p=none->Q (.ref p) (upd H1 p (.tup xs))
noncomputable def cH(t:TA):TE:=fun σ H Q=>t σ H fun xs H1=>xs.length<=PZ/\∀p,H1 p=none->Q (.ref p) (upd H1 p (.lst xs))
theorem fF{x1}(h:PA X es t):PE X (.Tuple es x1 pos) (oz t):=by
 intro pins s σ H Q I hq
 refine wpAny_Tuple_spliced (cI (h pos pins s σ H _ I hq) fun us s1 ⟨xs,H1,I1,r,z,q⟩=>⟨by rw[<-r.length];exact z,?_⟩)
 have hf:H1 s1.heap.objs.size=none:=I1.hok.fresh (Qe _)
 refine⟨.ref s1.heap.objs.size,upd H1 s1.heap.objs.size (.tup xs),I1.laid (t':=s1.toks) (fun b u e=>Qr _ e) (Qe _) ?_,rfl,q _ hf⟩
 exact⟨z,us,r,⟨_,Qz _ rfl,rfl,_,rfl⟩⟩
theorem bj(h:PA X es t):PE X (.List es pos) (cH t):=by
 intro pins s σ H Q I hq
 refine wpAny_List_spliced (cI (h pos pins s σ H _ I hq) fun us s1 ⟨xs,H1,I1,r,z,q⟩=>⟨by rw[<-r.length];exact z,?_⟩)
 have hf:H1 s1.heap.objs.size=none:=I1.hok.fresh (Qe _)
 refine⟨.ref s1.heap.objs.size,upd H1 s1.heap.objs.size (.lst xs),I1.laid (t':=s1.toks) (fun b u e=>Qr _ e) (Qe _) ?_,rfl,q _ hf⟩
 exact⟨z,us,0,r,Qz _ rfl⟩
end
noncomputable abbrev Sp:=List V->Hp->VK->XK->Prop
noncomputable abbrev FT:=List Qq->Hp->PN->XK->PL->PN->Prop
structure DQ(P:Qc)(w:P8)(K:PM)(mg:PH->Option PL)(base:P0)(A:Qg)(outer:List Qq)(s:PN)(H:Hp):Prop where
 frames:A.frames=some outer
 mod:Mod K mg base
 bs:∀b o,base.get? b=some o->s.heap.get? b=some o/\H b=none
 bsz:base.objs.size<=s.heap.objs.size
 funs:s.heap.FunFrames base outer
 frf:∀b∈Ao outer,H b=none
 hok:oj P w H s.heap
 bare:R3 s.gens
noncomputable def CE(outer:List Qq)(P:Qc)(w:P8)(H:Hp)(s:PN)(Q:VK)(u:PL)(s':PN):Prop:=
 ∃v H',s'.os=s.os/\R3 s'.gens/\Un (Ao outer) [] H H' s.heap s'.heap/\oj P w H' s'.heap/\RelV v u/\Q v H'
noncomputable def CR(CX:FT)(outer:List Qq)(P:Qc)(w:P8)(H:Hp)(s:PN)(Q:VK)(E:XK)(r:Result)(s':PN):Prop:=
 match r with
 |.ok (.ret u)=>CE outer P w H s Q u s'
 |.ok _=>False
 |.error e=>CX outer H s E e s'
structure mG(P:Qc)(w:P8)(K:PM)(mg:PH->Option PL)(base:P0)(CX:FT)(k:Nat)(f:PK)(fd:RF)(ps:List PH)(sp:Sp):Prop where
 len:∀vs H Q E,sp vs H Q E->vs.length=ps.length
 run:∀(A:Qg)(outer:List Qq)(s:PN)(H:Hp)(args:Args)(us:List PL)(vs:List V)(Q:VK)(E:XK),di k A->DQ P w K mg base A outer s H->BindsTo s fd args (ps.zip us)->bR vs us->sp vs H Q E->
  RP (model P w) A (.call (.ref f) args) (CR CX outer P w H s Q E) s
theorem DQ.make{P:Qc}{w:P8}{K:PM}{mg:PH->Option PL}{base:P0}{A:Qg}{outer:List Qq}{s:PN}{H:Hp}(e:DQ P w K mg base A outer s H)(C:PK)(us:List PL)(kw:List (PH×PL)):
  DQ P w K mg base (A.under (.builtin "type.__call__" ⟨.ref C::us,kw⟩)) outer s H:=⟨by first|exact e.frames|(simpa[V8,Code.envs,Vq,pushEnvs]using e.frames),e.mod,e.bs,e.bsz,e.funs,e.frf,e.hok,e.bare⟩
section
variable {X:Cx}{pins:List (PK×PV)}{σ:St}{H:Hp}{s s':PN}
theorem Inv.env0(I:Inv X pins σ H s):DQ X.prog X.w X.K X.mg X.base X.A X.stack s H:=
 ⟨I.ok.frames,I.ok.mod,I.bs,P6 I.ok.bsz I.sz,I.stack,I.stkFree,I.hok,I.bare⟩
theorem Inv.after{Q:VK}{u:PL}(I:Inv X pins σ H s)(h:CE X.stack X.prog X.w H s Q u s'):EP X pins σ Q u s':=by
 obtain⟨v,H',os,bare,un,hok,r,q⟩:=h
 obtain⟨hh,g,d,t,os'⟩:=s'
 obtain rfl:os'=s.os:=os
 exact⟨v,H',I.call (h':=hh) (g':=g) (d':=d) (t':=t) (ch:=[]) un hok bare (fun b z=>absurd z (by simp)),r,q⟩
end
noncomputable def bf(sp:Sp)(dvs:List V)(E:XK)(t:TA):TE:=fun σ H Q=>t σ H fun vs H1=>sp (vs++dvs) H1 Q E
noncomputable def cD(C:PK)(m:PH)(sp:Sp)(dvs:List V)(E:XK)(ta:TE)(t:TA):TE:=fun σ H Q=>ta σ H fun x H1=>∃a dx fs,x=.ref a/\H1 a=some (.ins C dx fs)/\fs.lookup m=none/\
 t σ H1 fun vs H2=>sp (x::(vs++dvs)) H2 Q E
noncomputable def yP(C:PK)(sp:Sp)(dvs:List V)(E:XK)(t:TA):TE:=fun σ H Q=>t σ H fun vs H1=>∀x dx,H1 x=none->H1 dx=none->dx≠x->
 sp (.ref x::(vs++dvs)) (upd (upd H1 dx (.own x)) x (.ins C dx [])) (fun v H2=>v=.non/\Q (.ref x) H2) E
noncomputable def Binds(K:PM)(fd:RF)(ps:List PH)(ds:List PL):Prop:=
 ∀(s:PN)(us:List PL),K.In s.heap->(us++ds).length=ps.length->BindsTo s fd ⟨us,[]⟩ (ps.zip (us++ds))
theorem Binds.all{K:PM}{fd:RF}{ps:List PH}(h:∀us:List PL,us.length=ps.length->bindArgs fd ⟨us,[]⟩=pure (ps.zip us)):Binds K fd ps []:=fun s us _ hl=>by
 rw[TR]at hl ⊢
 exact .of_eq (h us hl)
noncomputable def lF(CX:FT)(X:Cx)(E:XK):Prop:=∀(pins:List (PK×PV))(σ:St)(H:Hp)(s:PN)(e:PL)(s':PN),Inv X pins σ H s->CX X.stack H s E e s'->X.xe e s'
section
variable {X:Cx}{CX:FT}{k:Nat}{f C:PK}{fd:RF}{ps:List PH}{sp:Sp}{dvs:List V}{ds:List PL}{E:XK}{x m:PH}{p pos apos:Qi}{e o:PY}{es:List PY}{ta:TE}{t:TA}
theorem EH{pins:List (PK×PV)}{σ:St}{H:Hp}{s:PN}{Q:VK}{us:List PL}{vs:List V}(F:mG X.prog X.w X.K X.mg X.base CX k f fd ps sp)(hr:di k X.A)(hb:Binds X.K fd ps ds)(hd:bR dvs ds)(hx:lF CX X E)
  (I:Inv X pins σ H s) (r:bR vs us) (h:sp (vs++dvs) H Q E):PQ (model X.prog X.w) X.A (call (.ref f) us) (EP X pins σ Q) X.xe s:=by
 have r2:bR (vs++dvs) (us++ds):=r.append hd
 have hl:(us++ds).length=ps.length:=by rw[<-r2.length];exact F.len _ _ _ _ h
 refine wpAny_call (codeAny_mono (F.run X.A X.stack s H ⟨us,[]⟩ (us++ds) (vs++dvs) Q E hr I.env0 (hb s us I.kIn hl) r2 h) fun r s' hq=>?_)
 cases r with
 |error e=>exact hx pins σ H s e s' I hq
 |ok fl=>
  cases fl with
  |ret u=>exact I.after hq
  |next=>exact Rn hq
  |brk=>exact Rn hq
  |cont=>exact Rn hq
theorem E5(F:mG X.prog X.w X.K X.mg X.base CX k f fd ps sp)(hr:di k X.A)(hg:Gl X x)(hm:X.mg x=some (.ref f))(hk:RN X.K (.ref f)=true)(hb:Binds X.K fd ps ds)(hd:bR dvs ds)(hx:lF CX X E)
  (ha:PA X (e::es) t) (hdb:(x==("__debug__":PH))=false:=by decide) (he:Qf (e::es) X.env=(false,eval e X.env)::Qf es X.env:=by rfl) (hpl:(QF pos (Qf es X.env)).any (·.1)=false:=by rfl):
  PE X (.Call (.Name x p) (e::es) [] pos) (bf sp dvs E t):=by
 intro pins s σ H Q I h
 refine UK (rb I hg hm ?_ hdb)
 refine VZ (h₀:=X.base) I.ok.mod.kin hk (cI (ha pos pins s σ H _ I h) fun us s1 ⟨vs,H1,I1,r,q⟩=>⟨I1.kIn,?_⟩) he hpl
 exact EH F hr hb hd hx I1 r q
theorem AN{pl:Sem Bool}(he:PE X o ta)(c:gY X.K C)(hm:F0 X.K C m f)(F:mG X.prog X.w X.K X.mg X.base CX k f fd ps sp)(hr:di k X.A)(hb:Binds X.K fd ps ds)(hd:bR dvs ds)(hx:lF CX X E)(ha:PA X (e::es) t)
  (hst:Qf (e::es) X.env=(false,eval e X.env)::Qf es X.env:=by rfl) (hpl:(QF pos (Qf es X.env)).any (·.1)=false:=by rfl)
  (ht:eval (.Call (.Attribute o m apos) (e::es) [] pos) X.env=(do
   let ov <-eval o X.env
   standAt apos.atName
   let (f,first) <-holding [ov] (R0 ov m pl)
   callWith pos f first (QF pos (Qf (e::es) X.env)) (RW pos (RO [] X.env))):=by rfl):
  PE X (.Call (.Attribute o m apos) (e::es) [] pos) (cD C m sp dvs E ta t):=by
 intro pins s σ H Q I h
 refine U9 (pl:=pl) (cI (he pins s σ H _ I h) fun u s1 ⟨x,H1,I1,rx,a,dx,fs,ex,ea,l,q⟩=>?_) ht
 subst ex
 obtain rfl:u=Qo a:=rx
 refine lK I1 ea c hm l ?_
 refine VZ (first:=[.ref a]) (h₀:=X.base) I.ok.mod.kin hm.kp (cI (ha pos pins s1 σ H1 _ I1 q) fun us s2 ⟨vs,H2,I2,r,q2⟩=>⟨I2.kIn,?_⟩) hst hpl
 exact EH (us:=.ref a::us) (vs:=.ref a::vs) F hr hb hd hx I2 (.cons rfl r) q2
theorem HM{pl:Sem Bool}(he:PE X o ta)(c:gY X.K C)(hm:F0 X.K C m f)(F:mG X.prog X.w X.K X.mg X.base CX k f fd ps sp)(hr:di k X.A)(hb:Binds X.K fd ps ds)(hd:bR dvs ds)(hx:lF CX X E)
  (ht:eval (.Call (.Attribute o m apos) [] [] pos) X.env=(do
   let ov <-eval o X.env
   standAt apos.atName
   let (f,first) <-holding [ov] (R0 ov m pl)
   callWith pos f first (QF pos (Qf [] X.env)) (RW pos (RO [] X.env))):=by rfl):
  PE X (.Call (.Attribute o m apos) [] [] pos) (cD C m sp dvs E ta az):=by
 intro pins s σ H Q I h
 refine U9 (pl:=pl) (cI (he pins s σ H _ I h) fun u s1 ⟨x,H1,I1,rx,a,dx,fs,ex,ea,l,q⟩=>?_) ht
 subst ex
 obtain rfl:u=Qo a:=rx
 refine lK I1 ea c hm l ?_
 exact Xq (first:=[.ref a]) I1.kIn hm.kp (EH (us:=[.ref a]) (vs:=[.ref a]) F hr hb hd hx I1 (.cons rfl .nil) q)
structure Mk(K:PM)(C f:PK):Prop where
 makes:UU K C=true
 init:Q9 K (.ref C) "__init__"=some (some (.ref f))
 fn:UJ K (.ref f)=true
 kp:RN K (.ref C)=true
theorem JF{pins:List (PK×PV)}{σ:St}{H:Hp}{s:PN}{Q:VK}{us:List PL}{vs:List V}(M:Mk X.K C f)(F:mG X.prog X.w X.K X.mg X.base CX k f fd ps sp)(hr:di (k+1) X.A)(hb:Binds X.K fd ps ds)(hd:bR dvs ds)
  (hx:lF CX X E) (I:Inv X pins σ H s) (r:bR vs us)
  (h:∀x dx,H x=none->H dx=none->dx≠x->sp (.ref x::(vs++dvs)) (upd (upd H dx (.own x)) x (.ins C dx [])) (fun v H2=>v=.non/\Q (.ref x) H2) E):
  PQ (model X.prog X.w) X.A (call (.ref C) us) (EP X pins σ Q) X.xe s:=by
 have hq:=h (s.heap.objs.size+1) s.heap.objs.size (I.hok.fresh (Rz _)) (I.hok.fresh (Qe _)) (Qt (UL _))
 have I2:=Inv.made (C:=C) I
 have r2:bR (V.ref (s.heap.objs.size+1)::(vs++dvs)) (Qo (s.heap.objs.size+1)::(us++ds)):=.cons rfl (r.append hd)
 have hl:(Qo (s.heap.objs.size+1)::us++ds).length=ps.length:=by
  have e:=r2.length
  rw[F.len _ _ _ _ hq]at e
  exact e.symm
 refine wpAny_call (Kd (f:=f) I.kIn M.makes M.init (beq_iff_eq.mp M.fn) (codeAny_mono (F.run _ X.stack _ _ ⟨Qo (s.heap.objs.size+1)::us,[]⟩ (Qo (s.heap.objs.size+1)::(us++ds)) _ _ E (hr.make C us [])
  (I2.env0.make C us []) (hb _ (Qo (s.heap.objs.size+1)::us) I2.kIn hl) r2 hq) fun r s' hq'=>?_))
 cases r with
 |error e=>exact hx pins σ _ _ e s' I2 hq'
 |ok fl=>
  cases fl with
  |ret u=>
   obtain⟨v,H',I3,rv,ev,q3⟩:=I2.after hq'
   subst ev
   exact⟨rv,⟨V.ref (s.heap.objs.size+1),H',I3,rfl,q3⟩⟩
  |next=>exact Rn hq'
  |brk=>exact Rn hq'
  |cont=>exact Rn hq'
theorem IC(M:Mk X.K C f)(F:mG X.prog X.w X.K X.mg X.base CX k f fd ps sp)(hr:di (k+1) X.A)(hg:Gl X x)(hm:X.mg x=some (.ref C))(hb:Binds X.K fd ps ds)(hd:bR dvs ds)(hx:lF CX X E)
  (hdb:(x==("__debug__":PH))=false:=by decide):PE X (.Call (.Name x p) [] [] pos) (yP C sp dvs E az):=by
 intro pins s σ H Q I h
 refine UK (rb I hg hm ?_ hdb)
 exact Xq I.kIn M.kp (JF (us:=[]) M F hr hb hd hx I .nil h)
end
section
variable {X:Cx}{CX:FT}{k:Nat}{f C:PK}{fd:RF}{ps ks:List PH}{sp:Sp}{E:XK}{x m:PH}{p pos apos kpos:Qi}{e o:PY}{es:List PY}{kws:List Keyword}{te ta:TE}{t tk:TA}{nm:Option PH}
variable {g:List PL->List PL->List PL}{gV:List V->List V->List V}
end
structure aB(N P:List PH)(sc:QT):Prop where
 kind:sc.kind=.function
 co:sc.isCoroutine=false
 gen:sc.isGenerator=false
 nd:N.Nodup
 pre:N.take P.length=P
 par:∀x∈P,sc.names.lookup x=some .local\/sc.names.lookup x=some .cell
 nofree:∀y∈sc.names,y.2≠.free
theorem zk{Rr:PH->Option Q8}{x:PH}:∀{binds:List (PH×PL)}{m:PH->Option PL},(∀v,(x,v)∉binds)->bindL Rr binds m x=m x
 |[],_,_=>rfl
 |(n,v)::r,m,h=>by
  unfold bindL
  rw[zk fun w hw=>h w (Qs _ hw)]
  split
  ·have:x≠n:=by rintro rfl;exact h v QI
   simp[this]
  ·rfl
theorem zp{Rr:PH->Option Q8}{x:PH}:∀{binds:List (PH×PL)}{m:PH->Option PL},(∀v,(x,v)∉binds)->bindC Rr binds m x=m x
 |[],_,_=>rfl
 |(n,v)::r,m,h=>by
  unfold bindC
  rw[zp fun w hw=>h w (Qs _ hw)]
  split
  ·rfl
  ·have:x≠n:=by rintro rfl;exact h v QI
   simp[this]
theorem zA{Rr:PH->Option Q8}{x:PH}{v:PL}:∀{P:List PH}{vs:List PL}{i:Nat}{m:PH->Option PL},P.Nodup->P[i]?=some x->vs[i]?=some v->Rr x=some .local->
  bindL Rr (P.zip vs) m x=some v
 |[],_,_,_,_,h,_,_=>by simp at h
 |_::_,[],_,_,_,_,h,_=>by simp at h
 |p::P,w::vs,0,m,nd,h1,h2,hk=>by
  simp at h1 h2;subst h1;subst h2
  show bindL Rr ((p,w)::P.zip vs) m p=_
  unfold bindL
  rw[zk fun v hv=>(RX.mp nd).1 (TK hv).1,if_pos hk]
  simp
 |p::P,w::vs,i+1,m,nd,h1,h2,hk=>by
  show bindL Rr ((p,w)::P.zip vs) m x=_
  unfold bindL
  exact zA (i:=i) (RX.mp nd).2 (by simpa using h1) (by simpa using h2) hk
theorem zB{Rr:PH->Option Q8}{x:PH}{v:PL}:∀{P:List PH}{vs:List PL}{i:Nat}{m:PH->Option PL},P.Nodup->P[i]?=some x->vs[i]?=some v->Rr x≠some .local->
  bindC Rr (P.zip vs) m x=some v
 |[],_,_,_,_,h,_,_=>by simp at h
 |_::_,[],_,_,_,_,h,_=>by simp at h
 |p::P,w::vs,0,m,nd,h1,h2,hk=>by
  simp at h1 h2;subst h1;subst h2
  show bindC Rr ((p,w)::P.zip vs) m p=_
  unfold bindC
  rw[zp fun v hv=>(RX.mp nd).1 (TK hv).1,if_neg hk]
  simp
 |p::P,w::vs,i+1,m,nd,h1,h2,hk=>by
  show bindC Rr ((p,w)::P.zip vs) m x=_
  unfold bindC
  exact zB (i:=i) (RX.mp nd).2 (by simpa using h1) (by simpa using h2) hk
noncomputable def start(N:List PH)(vs:List V):St:=vs.map some++QS (N.length-vs.length) none
noncomputable def cv(CX:FT)(P:Qc)(w:P8)(K:PM)(mg:PH->Option PL)(base:P0)(N:List PH)(qual:PH)(scope:QT)(f:PK)(cd:PL)(A:Qg)(outer:List Qq)(s:PN)(H:Hp)(E:XK):Cx where
 prog:=P
 w:=w
 K:=K
 mg:=mg
 base:=base
 A:=A.deeper (Q7 qual scope s.heap.objs.size f cd)
 N:=N
 s₀:=s
 H₀:=H
 env:=Q7 qual scope s.heap.objs.size f cd
 outer:=outer
 stack:=Q7 qual scope s.heap.objs.size f cd::outer
 ex:=[]
 calm:=true
 fn:=fun _=>true
 pn:=[]
 xe:=fun e s'=>PQ (model P w) (A.deeper (Q7 qual scope s.heap.objs.size f cd)) (leaving (Q7 qual scope s.heap.objs.size f cd) e) (fun _ s''=>CX outer H s E e s'') (fun e' s''=>CX outer H s E e' s'') s'
theorem CU{sc:QT}{n:Nat}{x:PH}(h:sc.names.lookup x=some .cell):∃c,(Q4 n sc.names []).lookup x=some c:=by
 have q:=Yx sc.names n [] (.inl h)
 exact Vw.mp q
theorem Gs{CX:FT}{P:Qc}{w:P8}{K:PM}{mg:PH->Option PL}{base:P0}{N ps:List PH}{qual:PH}{scope:QT}{f:PK}{cd:PL}{A:Qg}{outer:List Qq}{s s1:PN}{H:Hp}{E:XK}{us:List PL}{vs:List V}
  (S:aB N ps scope) (hd:A.handled=none) (e0:DQ P w K mg base A outer s H) (hl:vs.length=ps.length) (r:bR vs us)
  (x:InCallC s s.heap.objs.size (bindL (Q7 qual scope s.heap.objs.size f cd).kindOf (ps.zip us) fun _=>none) (Q4 (s.heap.objs.size+1) scope.names []) (bindC (Q7 qual scope s.heap.objs.size f cd).kindOf (ps.zip us) fun _=>none) s1):
  Inv (cv CX P w K mg base N qual scope f cd A outer s H E) [] (start N vs) H s1:=by
 have hpl:ps.length<=N.length:=by have:=congrArg Tz S.pre;rw[QY]at this;omega
 obtain⟨h1,tk,rfl,hk⟩:=x.done
 have noA:∀b:PK,b∉(cv CX P w K mg base N qual scope f cd A outer s H E).ex:=fun b z=>absurd (show b∈([]:List PK)from z) (by simp)
 refine⟨⟨e0.mod,S.kind,rfl,rfl,Qe _,fun y z c h1 h2=>?_,fun y hy=>?_,fun y c _ h=>?_,fun _=>hd,Around.frames_deeper e0.frames,.inr ⟨rfl,rfl⟩,fun b z=>absurd z (noA b),e0.bs,e0.bsz,fun b _ _=>noA b,fun b z=>absurd z (noA b),e0.funs,e0.frf⟩,
  rfl,e0.bare,Un.kept hk,⟨_,x.toInCall.ns,fun i y v h1 h2 h3=>?_⟩,fun y c h=>⟨_,x.cell y c h⟩,e0.hok.fresh (Qe _),fun y c h=>?_,fun p hp=>absurd (show p∈([]:List (PK×PV))from hp) (by simp),e0.hok.kept hk,?_⟩
 ·exact name_of_addr x.apart (Ua h1) (Ua h2)
 ·have hy:scope.names.lookup y=some .cell\/scope.names.lookup y=some .free:=hy
  rcases hy with hy|hy
  ·exact CU hy
  ·exact absurd rfl (S.nofree _ (Ua hy))
 ·exact SN (x.above y c (Ua h))
 ·have hi:i<vs.length:=by
   unfold start at h2
   by_cases hi:i<vs.length
   ·exact hi
   ·rw[S8 (by simpa using hi)]at h2
    rw[List.getElem?_replicate]at h2
    split at h2<;>cases h2
  have ha:vs[i]?=some v:=by
   unfold start at h2
   rw[Sh (by simpa using hi),Se]at h2
   cases e:vs[i]? with
   |none=>rw[e]at h2;cases h2
   |some a=>rw[e]at h2;cases h2;rfl
  obtain⟨u,hu,rv⟩:=r.get ha
  have hp:ps[i]?=some y:=by
   rw[<-S.pre,List.getElem?_take_of_lt (by omega)];exact h1
  have ndP:ps.Nodup:=by rw[<-S.pre];exact S.nd.sublist (List.take_sublist _ _)
  exists u,rv
  rcases S.par y (Tv hp)with k|k
  ·exact .inl ⟨k,zA ndP hp hu k⟩
  ·obtain⟨c,e⟩:=CU (n:=s.heap.objs.size+1) k
   refine .inr ⟨.inl k,c,e,?_⟩
   have q:=x.cell y c e
   rw[zB ndP hp hu (by show scope.names.lookup y≠_;rw[k];decide)]at q
   exact q
 ·exact e0.hok.fresh (SN (x.above y c (Ua h)))
 ·unfold start
  show _=N.length
  rw[QU,P7,WE]
  omega
theorem LP{CX:FT}{P:Qc}{w:P8}{K:PM}{mg:PH->Option PL}{base:P0}{k:Nat}{f:PK}{name qual:PH}{params:Arguments}{body:List P5}{scope:QT}{dV kV doc pm cdv ct oc:PL}{an od:Option PK}
  {osl:Array (Option PL)}{N ps:List PH}{sp:Sp} (lk:K.lookup f=some ⟨oc,od,.func (Sf name qual params body scope dV kV doc pm an cdv ct),osl⟩) (hcd:T8 K cdv qual=true) (S:aB N ps scope)
  (len:∀vs H Q E,sp vs H Q E->vs.length=ps.length)
  (hbody:∀(A:Qg)(outer:List Qq)(s:PN)(H:Hp)(vs:List V)(Q:VK)(E:XK),di k (A.deeper (Q7 qual scope s.heap.objs.size f cdv))->sp vs H Q E->
   ∃t,xI (cv CX P w K mg base N qual scope f cdv A outer s H E) body t/\t {nx:=fun _ H'=>Q .non H',rt:=Q} (start N vs) H):
  mG P w K mg base CX (k+1) f (Sf name qual params body scope dV kV doc pm an cdv ct) ps sp:=by
 refine⟨len,fun A outer s H args us vs Q E hr e0 hb r hsp=>?_⟩
 have hl:=len _ _ _ _ hsp
 have KX:K.In s.heap:=e0.mod.kin.keeps fun b o e=>(e0.bs b o e).1
 have lim:s.heap.NoLimit:=e0.mod.nolimit.keeps fun b o e=>(e0.bs b o e).1
 have hkind:∀y∈ps.zip us,scope.names.lookup y.1=some .local\/(scope.names.lookup y.1=some .cell/\((Q4 (s.heap.objs.size+1) scope.names []).lookup y.1).isSome=true):=fun ⟨n,v⟩ hy=>by
  rcases S.par n (TK hy).1 with q|q
  ·exact .inl q
  ·exact .inr ⟨q,Yx _ _ _ (.inl q)⟩
 refine codeAny_call_function hr.depth (KX _ _ lk) rfl S.co S.gen rfl (ZD KX hcd) (hb _ _ _ _ ?_)
 refine wpAny_newFunctionEnv_cells S.kind hkind fun env he s1 x=>?_
 subst he
 refine⟨lim.keeps x.toInCall.keep,codeAny_func ?_⟩
 obtain⟨t,ht,hq⟩:=hbody A outer s H vs Q E (hr.deeper _) hsp
 have I:Inv (cv CX P w K mg base N qual scope f cdv A outer s H E) [] (start N vs) H s1:=Gs S hr.hd e0 hl r x
 refine Q5 (ht [] s1 (start N vs) H _ I hq) (fun fl s' hs=>?_) fun e s' hs=>hs
 have fin:∀{σ':St}{H':Hp}{v:V}{u:PL},Inv (cv CX P w K mg base N qual scope f cdv A outer s H E) [] σ' H' s'->RelV v u->Q v H'->CE outer P w H s Q u s':=
  fun {σ' H' v u} J rv q=>⟨v,H',J.os,J.bare,J.base,J.hok,rv,q⟩
 cases fl with
 |ret u=>
  obtain⟨v,σ',H',J,rv,q⟩:=hs
  exact fin J rv q
 |next=>
  obtain⟨σ',H',J,q⟩:=hs
  exact fin (v:=V.non) (u:=Rg) J rfl q
 |brk=>
  obtain⟨_,_,_,q⟩:=hs
  exact Rn q
 |cont=>
  obtain⟨_,_,_,q⟩:=hs
  exact Rn q
section
variable {X:Cx}{x:PH}{p pos:Qi}{e:PY}{es:List PY}{t:TA}{id T:String}{r:List V->Hp->VK->Prop}
noncomputable def gr(r:List V->Hp->VK->Prop)(t:TA):TE:=fun σ H Q=>t σ H fun vs H1=>r vs H1 Q
theorem aU(hc:fJ X (.builtin id) r)(hg:Gl X x)(hm:X.mg x=none)(hv:To x=some (.builtin id))(ha:PA X (e::es) t)(hn:x≠"__name__":=by decide)(hdb:(x==("__debug__":PH))=false:=by decide)
  (he:Qf (e::es) X.env=(false,eval e X.env)::Qf es X.env:=by rfl) (hpl:(QF pos (Qf es X.env)).any (·.1)=false:=by rfl):PE X (.Call (.Name x p) (e::es) [] pos) (gr r t):=by
 intro pins s σ H Q I h
 refine UK (jH I hg hm hv ?_ hn hdb)
 exact aar (cI (ha pos pins s σ H _ I h) fun us s1 ⟨vs,H1,I1,r1,q1⟩=>hc pins s1 σ H1 vs us Q I1 r1 q1) he hpl
theorem dN(hc:fJ X (.type T) r)(hg:Gl X x)(hm:X.mg x=none)(hv:To x=some (.type T))(ha:PA X (e::es) t)(hn:x≠"__name__":=by decide)(hdb:(x==("__debug__":PH))=false:=by decide)
  (he:Qf (e::es) X.env=(false,eval e X.env)::Qf es X.env:=by rfl) (hpl:(QF pos (Qf es X.env)).any (·.1)=false:=by rfl):PE X (.Call (.Name x p) (e::es) [] pos) (gr r t):=by
 intro pins s σ H Q I h
 refine UK (jH I hg hm hv ?_ hn hdb)
 exact Sq (cI (ha pos pins s σ H _ I h) fun us s1 ⟨vs,H1,I1,r1,q1⟩=>hc pins s1 σ H1 vs us Q I1 r1 q1) he hpl
end
end L2
namespace HT
open PySem PyProof.Rows
section
open PySem.SeqAt
open PySem.AutoSeq1 (wpAny_loadPart')
open PySem.MeetsSeq PySem.MeetsSeq2 PySem.MeetsSeq3
end
section
variable {prog:Qc}{w:P8}{A:Qg}{E:PL->PN->Prop}{s:PN}
noncomputable def yQ(n d:Nat):Option Int->Nat
 |none=>d
 |some v=>if v<0 then(v+(n:Int)).toNat else min v.toNat n
theorem qv(n d:Nat):yQ n d none=d:=rfl
theorem oh(n d k:Nat):yQ n d (some (k:Int))=min k n:=by
 show(if(k:Int)<0 then((k:Int)+(n:Int)).toNat else min (k:Int).toNat n)=min k n
 rw[if_neg (by omega),VD]
end
end HT
namespace L2
open PySem PySem.Spec PyProof.Rows
noncomputable abbrev TO:=St->Hp->(Option Int->Hp->Prop)->Prop
noncomputable def PO(X:Cx)(e:Option PY)(t:TO):Prop:=
 ∀(pins:List (PK×PV))(s:PN)(σ:St)(H:Hp)(Q:Option Int->Hp->Prop),Inv X pins σ H s->t σ H Q->
  PQ (model X.prog X.w) X.A (evalPart e X.env) (fun u s'=>∃o H',Inv X pins σ H' s'/\IsPart u o/\Q o H') X.xe s
noncomputable def cy:TO:=fun _ H Q=>Q none H
noncomputable def dA(t:TE):TO:=fun σ H Q=>t σ H fun x H1=>∃i,x=.int i/\Q (some i) H1
theorem intsAre_of{ns:List Int}:∀{us:List PL},bR (ns.map V.int) us->SE us ns:=by
 induction ns with
 |nil=>intro us r;rw[S7]at r;cases r;exact .nil
 |cons n ns ih=>
  intro us r
  rw[Qu]at r
  cases r with
  |cons r1 r2=>
   obtain⟨t,e⟩:=r1
   subst e
   exact .cons n t (ih r2)
section
variable {X:Cx}{e:PY}{te:TE}{lo hi:Option PY}{tl th:TO}{pos p2:Qi}
theorem cK:PO X none cy:=by
 intro pins s σ H Q I h
 rw[evalPart_none]
 exact Qh ⟨none,H,I,.none,h⟩
theorem ck(h:PE X e te):PO X (some e) (dA te):=by
 intro pins s σ H Q I hw
 rw[evalPart_some]
 refine cI (h pins s σ H _ I hw) fun u s1 ⟨x,H1,I1,r1,q1⟩=>?_
 obtain⟨i,rfl,q⟩:=q1
 obtain⟨t,rfl⟩:=r1
 exact⟨some i,H1,I1,.int i t,q⟩
noncomputable def OZ(X:Cx)(r:V->Option Int->Option Int->Hp->VK->Prop):Prop:=
 ∀(pins:List (PK×PV))(s:PN)(σ:St)(H:Hp)(x:V)(v vl vu:PL)(lo hi:Option Int)(sl:PK)(Q:VK),Inv X pins σ H s->RelV x v->s.heap.IsSliceOf sl vl vu .none->IsPart vl lo->IsPart vu hi->r x lo hi H Q->
  ∃T id,Ut (.type T) "__getitem__"=pure (some (.builtin id))/\s.TypeIs v T/\PQ (model X.prog X.w) X.A (getItem v (.ref sl)) (EP X pins σ Q) X.xe s
noncomputable def u1(r:V->Option Int->Option Int->Hp->VK->Prop)(te:TE)(tl th:TO):TE:=fun σ H Q=>te σ H fun x H1=>tl σ H1 fun l H2=>th σ H2 fun u H3=>r x l u H3 Q
theorem bU{r:V->Option Int->Option Int->Hp->VK->Prop}(hr:OZ X r)(he:PE X e te)(hl:PO X lo tl)(hu:PO X hi th):PE X (.Subscript e (.Slice lo hi none p2) pos) (u1 r te tl th):=by
 intro pins s σ H Q I h
 refine Subscript_ (cI (he pins s σ H _ I h) fun v s1 ⟨x,H1,I1,r1,q1⟩=>?_)
 refine wpAny_Slice (cI (hl pins s1 σ H1 _ I1 q1) fun vl s2 ⟨l,H2,I2,pl,q2⟩=>cI (hu pins s2 σ H2 _ I2 q2) fun vu s3 ⟨u,H3,I3,pu,q3⟩=>?_)
 rw[evalPart_none]
 refine Qh ?_
 have I4:Inv X pins σ H3 {s3 with heap:=s3.heap.push {cls:=.type "slice",data:=.fields #[vl,vu,.none]}}:=I3.kept (t':=s3.toks) fun b ob q=>Qr _ q
 obtain⟨T,id,hT,ht,hg⟩:=hr pins {s3 with heap:=s3.heap.push {cls:=.type "slice",data:=.fields #[vl,vu,.none]}} σ H3 x v vl vu l u s3.heap.objs.size Q I4 r1 (Z1 ..) pl pu q3
 show PQ (model X.prog X.w) X.A (subscriptTail e (.Slice lo hi none p2) v (.ref s3.heap.objs.size)) (EP X pins σ Q) X.xe {s3 with heap:=s3.heap.push {cls:=.type "slice",data:=.fields #[vl,vu,.none]}}
 exact tail_any (ops:=[.ref s3.heap.objs.size,v]) ht hT hg (by with_unfolding_all rfl)
noncomputable def iw(xs:List V)(lo hi:Option Int):List V:=(xs.drop (HT.yQ xs.length 0 lo)).take (HT.yQ xs.length xs.length hi-HT.yQ xs.length 0 lo)
theorem Bt(xs:List V)(lo hi:Option Int):(iw xs lo hi).length<=xs.length:=by
 unfold iw
 rw[QY,Rq]
 omega
end
noncomputable def NH(n:Nat)(i:Int):Option Nat:=if 0<=i then(if i<n then some i.toNat else none)else if -(n:Int)<=i then some (i+n).toNat else none
noncomputable def xU{α:Type}(xs:List α)(i:Int):Option α:=(NH xs.length i).bind fun j=>xs[j]?
theorem LI{n:Nat}{i:Int}{j:Nat}(h:NH n i=some j):seqIndex? i n=some j/\j<n/\-(n:Int)<=i/\i<n:=by
 unfold NH at h
 by_cases h0:0<=i
 ·rw[if_pos h0]at h
  by_cases h1:i<n
  ·rw[if_pos h1]at h
   have e:i.toNat=j:=QW h
   exact⟨by rw[seqIndex_of h0 h1,e],by omega,by omega,h1⟩
  ·rw[if_neg h1]at h;cases h
 ·rw[if_neg h0]at h
  by_cases h1:-(n:Int)<=i
  ·rw[if_pos h1]at h
   have e:(i+n).toNat=j:=QW h
   exact⟨by rw[seqIndex_neg (by omega) h1,e],by omega,h1,by omega⟩
  ·rw[if_neg h1]at h;cases h
theorem Ah{α:Type}{xs:List α}{i:Int}{v:α}(h:xU xs i=some v):∃j,seqIndex? i xs.length=some j/\xs[j]?=some v/\j<xs.length/\-(xs.length:Int)<=i/\i<xs.length:=by
 unfold xU at h
 cases e:NH xs.length i with
 |none=>rw[e]at h;cases h
 |some j=>
  rw[e]at h
  obtain⟨h1,h2,h3,h4⟩:=LI e
  exact⟨j,h1,h,h2,h3,h4⟩
theorem bM{α:Type}{xs:List α}{j:Nat}{v:α}(h:xs[j]?=some v):xU xs (j:Int)=some v:=by
 have hj:j<xs.length:=(QN.mp h).1
 have e:NH xs.length (j:Int)=some j:=by
  unfold NH
  rw[if_pos (by omega),if_pos (by omega)];simp
 unfold xU;rw[e];exact h
noncomputable def KP(b:PY):Prop:=∀o i,subscripted b false o i=operate [o,i] (getItem o i)
noncomputable def OO(X:Cx)(r:R2):Prop:=
 ∀(value slice:PY)(pins:List (PK×PV))(s:PN)(σ:St)(H:Hp)(x y:V)(v u:PL)(Q:VK),Inv X pins σ H s->RelV x v->RelV y u->r x y H Q->
  subscripted slice false v u=operate [v,u] (getItem v u)->PQ (model X.prog X.w) X.A (subscriptTail value slice v u) (EP X pins σ Q) X.xe s
noncomputable def O8(X:Cx)(id:String)(r:V->List V->Hp->VK->Prop):Prop:=
 ∀(pins:List (PK×PV))(s:PN)(σ:St)(H:Hp)(x:V)(xs:List V)(v:PL)(us:List PL)(Q:VK),Inv X pins σ H s->RelV x v->bR xs us->r x xs H Q->
  PQ (model X.prog X.w) X.A (call (.builtin id) (v::us)) (EP X pins σ Q) X.xe s
section
variable {X:Cx}{a b:PY}{ta tb:TE}{pos:Qi}
theorem bh{r:R2}(hr:OO X r)(ha:PE X a ta)(hb:PE X b tb)(hs:KP b):PE X (.Subscript a b pos) (aN r ta tb):=by
 intro pins s σ H Q I h
 exact Subscript_ (Mv ha hb I h fun v u s2 x y H2 I2 rx ry q=>hr a b pins s2 σ H2 x y v u Q I2 rx ry q (hs _ _))
noncomputable def cu(K:PM):R2:=fun x y H Q=>∃p xs i v,x=.ref p/\y=.int i/\aY K H p xs/\xU xs i=some v/\Q v H
noncomputable def Lc(K:PM):R2:=fun x y H Q=>∃p xs i v,x=.ref p/\y=.int i/\kN K H p xs/\xU xs i=some v/\Q v H
noncomputable def uQ:R2:=fun x y H Q=>∃z i c,x=.str z/\y=.int i/\z.length<=PZ/\xU z.cps.toList i=some c/\Q (.str ⟨#[c]⟩) H
theorem aL:OO X (cu X.K):=by
 intro value slice pins s σ H x y v u Q I rx ry h hs
 obtain⟨p,xs,i,z,rfl,rfl,hq,he,q⟩:=h
 cases rx
 obtain⟨t,rfl⟩:=ry
 obtain⟨its,r,pl,hz⟩:=I.list hq
 obtain⟨j,h1,h2,h3,h4,h5⟩:=Ah he
 obtain⟨w,ew,rw'⟩:=r.get h2
 have hl:=r.length
 have hn:=wC
 have fin:EP X pins σ Q w s:=⟨z,H,I,rw',q⟩
 by_cases h0:0<=i
 ·have hj:i.toNat=j:=by
   rw[seqIndex_of h0 h5]at h1
   exact QW h1
  exact item_listR pl.isList h0 (by omega) (by rw[hj];simpa using ew) fin hs
 ·have hj:(i+(its.toArray.size:Int)).toNat=j:=by
   rw[seqIndex_neg (by omega) h4]at h1
   rw[Q0,<-hl]
   exact QW h1
  exact subscriptTail_builtinR (x:=w) pl.isList.typeIs slot_list_getitem.lookup
   (wpAny_getItem_list_neg (Q:=fun r s'=>r=w/\EP X pins σ Q r s') pl.isList (by omega) (by rw[Q0]<;>omega) (by omega) (by rw[hj];simpa using ew) ⟨rfl,fin⟩) hs
theorem Ij:OO X (Lc X.K):=by
 intro value slice pins s σ H x y v u Q I rx ry h hs
 obtain⟨p,xs,i,z,rfl,rfl,hq,he,q⟩:=h
 cases rx
 obtain⟨t,rfl⟩:=ry
 obtain⟨its,r,pl,hz⟩:=I.tuple hq
 obtain⟨j,h1,h2,h3,h4,h5⟩:=Ah he
 obtain⟨w,ew,rw'⟩:=r.get h2
 have hl:=r.length
 have hn:=wC
 have fin:EP X pins σ Q w s:=⟨z,H,I,rw',q⟩
 exact subscriptTail_builtinR (x:=w) pl.typeIs slot_tuple_getitem.lookup
  (getItem_tuple (j:=j) (Q:=fun r s'=>r=w/\EP X pins σ Q r s') pl (by omega) (by omega) (by rw[Q0,<-hl];exact h1) (by simpa using ew) ⟨rfl,fin⟩) hs
theorem kg:OO X uQ:=by
 intro value slice pins s σ H x y v u Q I rx ry h hs
 obtain⟨z,i,c,rfl,rfl,hz,he,q⟩:=h
 obtain⟨t,rfl⟩:=rx
 obtain⟨t',rfl⟩:=ry
 obtain⟨j,h1,h2,h3,h4,h5⟩:=Ah he
 have hl:z.cps.toList.length=z.length:=by simp[UC]
 rw[hl]at h1 h4 h5
 have hn:=wC
 exact tail_any (typeIs_str s z t) slot_str_getitem.lookup (getItem_str (c:=c) (by
  have e1:decide (i < -(2 ^ 63:Int))=false:=decide_eq_false (by omega)
  have e2:decide (i≥2 ^ 63)=false:=decide_eq_false (by omega)
  rw[e1,e2,Bool.or_false]) (by rw[h1];simpa using h2) ⟨.str ⟨#[c]⟩,H,I.tok _,⟨_,rfl⟩,q⟩) hs
theorem Bo(lo hi:Option Int)(n:Nat):(SM lo hi none n).1=((HT.yQ n 0 lo:Nat):Int)/\(SM lo hi none n).2.1=((HT.yQ n n hi:Nat):Int)/\(SM lo hi none n).2.2=1:=by
 refine⟨?_,?_,rfl⟩
 ·cases lo with
  |none=>simp[SM,HT.yQ]
  |some i=>
   simp only[SM,HT.yQ,WN,show(1:Int)>0 by decide,if_true]
   by_cases h:i<0
   ·simp only[h,if_true]<;>omega
   ·simp only[h,if_false]<;>omega
 ·cases hi with
  |none=>simp[SM,HT.yQ]
  |some i=>
   simp only[SM,HT.yQ,WN,show(1:Int)>0 by decide,if_true]
   by_cases h:i<0
   ·simp only[h,if_true]<;>omega
   ·simp only[h,if_false]<;>omega
theorem yg(its:List PL)(lo hi:Option Int):slicePick its.toArray lo hi none=((its.drop (HT.yQ its.length 0 lo)).take (HT.yQ its.length its.length hi-HT.yQ its.length 0 lo)).toArray:=by
 obtain⟨h1,h2,h3⟩:=Bo lo hi its.toArray.size
 unfold slicePick
 rw[h1,h2,h3]
 simp only[sliceRange_one,pick_run,Q0]<;>rfl
noncomputable def qM(K:PM):V->Option Int->Option Int->Hp->VK->Prop:=fun x lo hi H Q=>∃a xs,x=.ref a/\aY K H a xs/\∀p,H p=none->Q (.ref p) (upd H p (.lst (iw xs lo hi)))
theorem fi:OZ X (qM X.K):=by
 intro pins s σ H x v vl vu lo hi sl Q I rx hs pl pu h
 obtain⟨a,xs,rfl,hx,q⟩:=h
 cases rx
 obtain⟨its,r,ht,hz⟩:=I.list hx
 have hlen:=r.length
 refine⟨"list",_,slot_list_getitem.lookup,ht.isList.typeIs,?_⟩
 refine wpAny_getItem_list_slice ht.isList hs pl pu .none (by simp) ?_ (by rw[Q0]<;>omega)
 rw[yg,<-hlen]
 refine⟨.ref s.heap.objs.size,_,I.laid (t':=s.toks) (o:=.lst (iw xs lo hi)) (fun b ob q=>Qr _ q) (Qe _) ?_,rfl,q _ (I.hok.fresh (Qe _))⟩
 exact⟨P6 (Bt xs lo hi) hz,_,0,(r.drop (HT.yQ xs.length 0 lo)).take (HT.yQ xs.length xs.length hi-HT.yQ xs.length 0 lo),Qz _ rfl⟩
noncomputable def oS:V->Bool
 |.non=>true
 |.bl _=>true
 |.int _=>true
 |.str _=>true
 |_=>false
noncomputable def LW:V->V->Bool
 |.non,.non=>true
 |.bl a,.bl b=>a==b
 |.bl a,.int b=>(if a then 1 else 0)==b
 |.int a,.bl b=>a==(if b then 1 else 0)
 |.int a,.int b=>a==b
 |.str a,.str b=>a==b
 |_,_=>false
theorem Mj{A:Qg}{s:PN}{y x:V}{u v:PL}(ry:RelV y u)(rx:RelV x v)(fy:oS y=true)(fx:oS x=true):W5 A s u v (LW y x):=by
 cases y with
 |non=>
  cases ry
  cases x with
  |non=>cases rx;exact ZJ _
  |bl b=>cases rx;exact Zr b
  |int b=>obtain⟨t,rfl⟩:=rx;exact YT b t
  |str b=>obtain⟨t,rfl⟩:=rx;exact aat b t
  |_=>exact absurd (show false=true from fx) QM
 |bl a=>
  cases ry
  cases x with
  |non=>cases rx;exact aaf a
  |bl b=>cases rx;exact aaO a b
  |int b=>obtain⟨t,rfl⟩:=rx;exact Zn a b t
  |str b=>obtain⟨t,rfl⟩:=rx;exact Z3 a b t
  |_=>exact absurd (show false=true from fx) QM
 |int a=>
  obtain⟨t',rfl⟩:=ry
  cases x with
  |non=>cases rx;exact ZF a t'
  |bl b=>cases rx;exact Z4 a t' b
  |int b=>obtain⟨t,rfl⟩:=rx;exact ZU a t' b t
  |str b=>obtain⟨t,rfl⟩:=rx;exact Yj a t' b t
  |_=>exact absurd (show false=true from fx) QM
 |str a=>
  obtain⟨t',rfl⟩:=ry
  cases x with
  |non=>cases rx;exact ZH a t'
  |bl b=>cases rx;exact Zx a t' b
  |int b=>obtain⟨t,rfl⟩:=rx;exact Xk a t' b t
  |str b=>obtain⟨t,rfl⟩:=rx;exact Y6 a t' b t
  |_=>exact absurd (show false=true from fx) QM
 |_=>exact absurd (show false=true from fy) QM
noncomputable def DF(x:V)(u:PL):Bool:=match u with
 |.none=>LW .non x
 |.bool b=>LW (.bl b) x
 |.int i _=>LW (.int i) x
 |.str z _=>LW (.str z) x
 |_=>false
theorem JZ{x y:V}{u:PL}(r:RelV y u)(f:oS y=true):DF x u=LW y x:=by
 cases y with
 |non=>cases r;rfl
 |bl b=>cases r;rfl
 |int i=>obtain⟨t,rfl⟩:=r;rfl
 |str z=>obtain⟨t,rfl⟩:=r;rfl
 |_=>exact absurd (show false=true from f) QM
theorem rm{x:V}:∀{xs:List V}{us:List PL},bR xs us->xs.all oS=true->us.any (DF x)=xs.any fun y=>LW y x
 |_,_,.nil,_=>rfl
 |y::xs,u::us,.cons r t,f=>by
  rw[Yt,QX]at f
  rw[R7,R7,JZ r f.1,rm t f.2]
theorem mV{A:Qg}{s:PN}{x:V}{v:PL}(rx:RelV x v)(fx:oS x=true):∀{xs:List V}{us:List PL},bR xs us->xs.all oS=true->∀u∈us,W5 A s u v (DF x u)
 |_,_,.nil,_=>fun u hu=>by cases hu
 |y::xs,u::us,.cons r t,f=>fun u' hu=>by
  rw[Yt,QX]at f
  rcases Qa.mp hu with rfl|hu
  ·rw[JZ r f.1];exact Mj r rx f.1 fx
  ·exact mV rx fx t f.2 u' hu
noncomputable def NG(x:V)(xs:List V):Bool:=xs.any fun y=>LW y x
noncomputable def Hz(K:PM)(neg:Bool):R2:=fun x y H Q=>∃p xs,y=.ref p/\(aY K H p xs\/kN K H p xs)/\oS x=true/\xs.all oS=true/\Q (.bl (if neg then !NG x xs else NG x xs)) H
theorem jX:je X (QP .In) (Hz X.K false):=by
 intro pins s σ H x y v u Q I rx ry h
 obtain⟨p,xs,rfl,hq,fx,fs,q⟩:=h
 cases ry
 rcases hq with hq|hq
 ·obtain⟨its,r,pl,hz⟩:=I.list hq
  refine SeqAt.in_listAt (DF x) pl.isList (fun w hw=>mV rx fx r fs w (by simpa using hw)) ⟨.bl _,H,I,rfl,?_⟩
  rw[show its.toArray.any (DF x)=its.any (DF x) by simp,rm r fs]
  exact q
 ·obtain⟨its,r,pl,hz⟩:=I.tuple hq
  refine SeqAt.in_tupleAt (DF x) pl (fun w hw=>mV rx fx r fs w (by simpa using hw)) ⟨.bl _,H,I,rfl,?_⟩
  rw[show its.toArray.any (DF x)=its.any (DF x) by simp,rm r fs]
  exact q
theorem zY:je X (QP .NotIn) (Hz X.K true):=by
 intro pins s σ H x y v u Q I rx ry h
 obtain⟨p,xs,rfl,hq,fx,fs,q⟩:=h
 cases ry
 rcases hq with hq|hq
 ·obtain⟨its,r,pl,hz⟩:=I.list hq
  refine SeqAt.notIn_listAt (DF x) pl.isList (fun w hw=>mV rx fx r fs w (by simpa using hw)) ⟨.bl _,H,I,rfl,?_⟩
  rw[show its.toArray.any (DF x)=its.any (DF x) by simp,rm r fs]
  exact q
 ·obtain⟨its,r,pl,hz⟩:=I.tuple hq
  refine SeqAt.notIn_tupleAt (DF x) pl (fun w hw=>mV rx fx r fs w (by simpa using hw)) ⟨.bl _,H,I,rfl,?_⟩
  rw[show its.toArray.any (DF x)=its.any (DF x) by simp,rm r fs]
  exact q
theorem bT:fJ X (.builtin "len") (fun xs H Q=>∃p ys,xs=[.ref p]/\(aY X.K H p ys\/kN X.K H p ys)/\Q (.int ys.length) H):=by
 intro pins s σ H xs us Q I r h
 obtain⟨p,ys,rfl,hq,q⟩:=h
 obtain⟨u,rfl,rx⟩:=vals1 r
 cases rx
 have hn:=wC
 rcases hq with hq|hq
 ·obtain⟨its,r',pl,hz⟩:=I.list hq
  have hlen:=r'.length
  exact Calls.call_len_list pl.isList (by simp only[Q0]<;>omega) ⟨.int ys.length,H,I.tok _,⟨s.toks+1,by rw[Q0,hlen]⟩,q⟩
 ·obtain⟨its,r',pl,hz⟩:=I.tuple hq
  have hlen:=r'.length
  exact len_tuple pl (by simp only[Q0]<;>omega) ⟨.int ys.length,H,I.tok _,⟨s.toks+1,by rw[Q0,hlen]⟩,q⟩
theorem AG:fJ X (.builtin "len") (fun xs H Q=>∃z,xs=[.str z]/\z.length<=PZ/\Q (.int z.length) H):=by
 intro pins s σ H xs us Q I r h
 obtain⟨z,rfl,hz,q⟩:=h
 obtain⟨u,rfl,t,rfl⟩:=vals1 r
 have hn:=wC
 exact len_str (by omega) ⟨.int z.length,H,I.tok _,⟨_,rfl⟩,q⟩
noncomputable def LS(K:PM)(T:String)(x:V)(H:Hp):Prop:=match x with
 |.str _=>T="str"
 |.int _=>T="int"
 |.ref p=>(T="list"/\∃xs,aY K H p xs)\/(T="tuple"/\∃o,K.lookup p=some o/\o.cls=.type "tuple"/\o.dict=none)\/
   (T="dict"/\((∃kvs,H p=some (.dK kvs))\/∃kvs,H p=some (.dT kvs)))\/(T="set"/\∃S n,H p=some (.set S n))
 |_=>False
theorem Kb{pins:List (PK×PV)}{σ:St}{H:Hp}{s:PN}{T:String}{x:V}{v:PL}(I:Inv X pins σ H s)(r:RelV x v)(ty:LS X.K T x H):
  s.TypeIs v T/\∀a,v=.ref a->∃ob,s.heap.get? a=some ob/\ob.dict=none:=by
 cases x with
 |str z=>
  obtain⟨t,rfl⟩:=r
  cases(show T="str" from ty)
  exact⟨typeIs_str s z t,fun _ e=>nomatch e⟩
 |int i=>
  obtain⟨t,rfl⟩:=r
  cases(show T="int" from ty)
  exact⟨typeIs_int s i t,fun _ e=>nomatch e⟩
 |ref p=>
  cases r
  rcases ty with⟨rfl,xs,hq⟩|⟨rfl,o,hk,hc,hd⟩|⟨rfl,hk⟩|⟨rfl,S,n,hk⟩
  ·obtain⟨its,_,pl,_⟩:=I.list hq
   refine⟨pl.isList.typeIs,fun a e=>?_⟩
   cases e
   obtain⟨o,n,e,c,hd,_⟩:=pl
   exact⟨o,e,hd⟩
  ·refine⟨⟨o,I.kIn p o hk,hc⟩,fun a e=>?_⟩
   cases e
   exact⟨o,I.kIn _ o hk,hd⟩
  ·have z:∃o,s.heap.get? p=some o/\o.ExactDict:=by
    rcases hk with⟨kvs,hk⟩|⟨kvs,hk⟩
    ·obtain⟨_,_,_,_,o,_,_,e,ex,_⟩:=I.hok p _ hk
     exact⟨o,e,ex⟩
    ·obtain⟨_,_,_,_,o,_,_,e,ex,_⟩:=I.hok p _ hk
     exact⟨o,e,ex⟩
   obtain⟨o,e,ex⟩:=z
   refine⟨⟨o,e,ex.1⟩,fun a e2=>?_⟩
   cases e2
   exact⟨o,e,ex.2.1⟩
  ·obtain⟨o,_,_,_,e,ex,_⟩:=I.hok p _ hk
   refine⟨⟨o,e,ex.1⟩,fun a e2=>?_⟩
   cases e2
   exact⟨o,e,ex.2.1⟩
 |_=>exact Rn ty
noncomputable def Ik(K:PM)(T:String)(r:V->List V->Hp->VK->Prop)(to:TE):TE:=fun σ H Q=>to σ H fun x H1=>LS K T x H1/\r x [] H1 Q
noncomputable def Dl(K:PM)(T:String)(r:V->List V->Hp->VK->Prop)(to:TE)(t:TA):TE:=fun σ H Q=>to σ H fun x H1=>LS K T x H1/\t σ H1 fun xs H2=>r x xs H2 Q
variable {o e:PY}{es:List PY}{to:TE}{t:TA}{name:PH}{apos cpos:Qi}{T id:String}{r:V->List V->Hp->VK->Prop}
theorem DT(pa:PlainAttrs T)(slot:Slot T name id)(hty:typeOf (.builtin id)=pure (.type "method_descriptor"))(hm:O8 X id r)(ho:PE X o to)
  (hbase:SK o name X.env (eval o X.env)=eval o X.env:=by rfl) (hline:(apos.endLine==cpos.line)=true:=by rfl):PE X (.Call (.Attribute o name apos) [] [] cpos) (Ik X.K T r to):=by
 intro pins s σ H Q I h
 refine wpAny_Call_method0_late hbase hline (cI (ho pins s σ H _ I h) fun v s1 ⟨x,H1,I1,r1,ty,q1⟩=>?_)
 obtain⟨h1,h2⟩:=Kb I1 r1 ty
 exact⟨T,id,pa,slot,hty,h1,h2,Um rfl (Vt (hm pins s1 σ H1 x [] v [] Q I1 r1 .nil q1))⟩
theorem jB(pa:PlainAttrs T)(slot:Slot T name id)(hty:typeOf (.builtin id)=pure (.type "method_descriptor"))(hm:O8 X id r)(ho:PE X o to)(ha:PA X (e::es) t)
  (hbase:SK o name X.env (eval o X.env)=eval o X.env:=by rfl)
  (hfew:((QF cpos (Qf (e::es) X.env)).all (fun x=>!x.1)&&(RW cpos (RO [] X.env)).all (fun x=>x.1.isSome)
   && decide ((e::es).length+([]:List Keyword).length+(if([]:List Keyword).isEmpty then 0 else 1)<30))=true:=by rfl)
  (hline:(apos.endLine==cpos.line)=true:=by rfl) (hs:Qf (e::es) X.env=(false,eval e X.env)::Qf es X.env:=by rfl) (hplain:(QF cpos (Qf es X.env)).any (·.1)=false:=by rfl):
  PE X (.Call (.Attribute o name apos) (e::es) [] cpos) (Dl X.K T r to t):=by
 intro pins s σ H Q I h
 refine wpAny_Call_method_late hbase hfew hline rfl (cI (ho pins s σ H _ I h) fun v s1 ⟨x,H1,I1,r1,ty,q1⟩=>?_)
 obtain⟨h1,h2⟩:=Kb I1 r1 ty
 exists T,id,pa,slot,hty,h1,h2
 have hA:=ha cpos pins s1 σ H1 _ I1 q1
 rw[hs]at hA ⊢
 refine Um (by show(false || (QF cpos (Qf es X.env)).any (·.1))=false;rw[hplain]<;>rfl) (Vg ?_)
 exact cI hA fun us s2 ⟨vs,H2,I2,r2,q2⟩=>hm pins s2 σ H2 x vs v us Q I2 r1 r2 q2
end
noncomputable def NF(X:Cx)(id:String)(r:V->List V->Hp->VK->Prop):Prop:=
 ∀(pins:List (PK×PV))(s:PN)(σ:St)(H:Hp)(x:V)(xs:List V)(v:PL)(us:List PL)(Q:VK),Inv X pins σ H s->RelV x v->bR xs us->r x xs H Q->
  PQ (model X.prog X.w) X.A (call (.builtin id) (v::us)) (EP X pins σ Q) X.xe s
theorem bR.one:∀{x:V}{us:List PL},bR [x] us->∃u,us=[u]/\RelV x u
 |_,_,.cons r .nil=>⟨_,rfl,r⟩
theorem bR.rep{xs:List V}{us:List PL}(h:bR xs us):∀k:Nat,bR (QS k xs).flatten (QS k us).flatten
 |0=>.nil
 |k+1=>by
  rw[S3,S3,Tw,Tw]
  exact bR.append h (bR.rep h k)
theorem foldl_rep(its:List PL):∀(k:Nat)(acc:List PL),
  V1 (fun x1 x2=>x1++x2) acc.toArray (QS k its.toArray)=(acc++(QS k its).flatten).toArray
 |0,acc=>by simp
 |k+1,acc=>by
  have e:acc.toArray++its.toArray=(acc++its).toArray:=by simp
  have e2:(acc++its)++(QS k its).flatten=acc++(QS (k+1) its).flatten:=by
   rw[S3,Tw,Wg]
  rw[<-e2,<-foldl_rep its k (acc++its),<-e,S3,Yq]
section
variable {X:Cx}{pins:List (PK×PV)}{σ:St}{H:Hp}{s:PN}{l b:PK}{xs ys zs:List V}
theorem Inv.lset{its its':List PL}{n:Nat}{f:Array PL->Array PL}{t':Nat}(I:Inv X pins σ H s)(hH:H l=some (.lst xs))
  (e:s.heap.get? l=some {cls:=.type "list",data:=.seq its.toArray n}) (hf:f its.toArray=its'.toArray) (hv:bR ys its') (hz:ys.length<=PZ):
  Inv X pins σ (upd H l (.lst ys)) {s with heap:=s.heap.update l (WJ f),toks:=t'}:=by
 have q:=Zo e f
 rw[hf]at q
 refine I.write (x:=l) (e:=l) (by rw[hH];exact trivial) (.inl rfl) (fun b' u hb hu=>(SA s.heap (WJ f) (Qy hb)).trans hu) ⟨_,q⟩ ?_
 exact⟨hz,its',_,hv,q⟩
theorem Inv.lnew{its:List PL}{t':Nat}(I:Inv X pins σ H s)(hv:bR ys its)(hz:ys.length<=PZ):
  Inv X pins σ (upd H s.heap.objs.size (.lst ys)) {s with heap:=s.heap.push {cls:=.type "list",data:=.seq its.toArray},toks:=t'}:=
 I.laid (fun _ _ q=>Qr _ q) (Qe _) ⟨hz,its,0,hv,Qz _ rfl⟩
theorem Inv.fresh(I:Inv X pins σ H s):H s.heap.objs.size=none:=I.hok.fresh (Qe _)
theorem Inv.lstM(I:Inv X pins σ H s)(hH:H l=some (.lst xs)):xs.length<=PZ/\∃(its:List PL)(n:Nat),bR xs its/\xs.length=its.length/\s.heap.get? l=some {cls:=.type "list",data:=.seq its.toArray n}:=by
 obtain⟨z,its,n,r,e⟩:=I.hok l _ hH
 exact⟨z,its,n,r,r.length,e⟩
theorem CD{n:Nat}(h:n<=PZ):UG n=false:=by
 unfold UG
 exact decide_eq_false (by omega)
end
section
variable {X:Cx}
noncomputable def ke:V->List V->Hp->VK->Prop:=fun x vs H Q=>∃l xs y,x=.ref l/\vs=[y]/\H l=some (.lst xs)/\xs.length<PZ/\Q .non (upd H l (.lst (xs++[y])))
theorem ig:NF X "list.append" ke:=by
 intro pins s σ H x vs v us Q I rx rv h
 obtain⟨l,xs,y,rfl,rfl,hH,hz,q⟩:=h
 cases rx
 obtain⟨u,rfl,ru⟩:=rv.one
 obtain⟨z,its,n,r,hl,e⟩:=I.lstM hH
 refine RJ Th ⟨_,e,rfl⟩ F.entry_list_append (F.args_list_append_2 _ _) (PySem.list_append l its.toArray n u (by rw[Q0];omega)) ⟨e,?_⟩
 refine⟨.non,_,I.lset (its':=its++[u]) hH e (by simp) (r.append (.cons ru .nil)) ?_,rfl,q⟩
 rw[QU,R9]
 omega
noncomputable def Kw:V->List V->Hp->VK->Prop:=fun x vs H Q=>∃l b xs zs,x=.ref l/\vs=[.ref b]/\H l=some (.lst xs)/\H b=some (.lst zs)/\xs.length+zs.length<=PZ/\Q .non (upd H l (.lst (xs++zs)))
theorem NC:NF X "list.extend" Kw:=by
 intro pins s σ H x vs v us Q I rx rv h
 obtain⟨l,b,xs,zs,rfl,rfl,hH,hB,hz,q⟩:=h
 cases rx
 obtain⟨u,rfl,ru⟩:=rv.one
 cases ru
 obtain⟨z,its,n,r,hl,e⟩:=I.lstM hH
 obtain⟨z2,its2,n2,r2,hl2,e2⟩:=I.lstM hB
 have hsz:its.toArray.size+its2.toArray.size<=PZ:=by rw[Q0,Q0];omega
 have hlong:¬(!its.toArray.isEmpty&&UG (its.toArray.size+its2.toArray.size))=true:=by
  rw[CD hsz,VW]
  exact QM
 refine RJ F.slot_list_extend ⟨_,e,rfl⟩ F.entry_list_extend (F.args_list_extend_2 _ _)
  (Y1 l its.toArray n b its2.toArray n2 hlong (by rw[Q0];omega) (by omega)) ⟨e,e2,?_⟩
 refine⟨.non,_,I.lset (its':=its++its2) hH e (by simp) (r.append r2) ?_,rfl,q⟩
 rw[QU]
 omega
noncomputable def hV:R2:=fun x y H Q=>∃l b xs zs,x=.ref l/\y=.ref b/\H l=some (.lst xs)/\H b=some (.lst zs)/\xs.length+zs.length<=PZ/\∀p,H p=none->Q (.ref p) (upd H p (.lst (xs++zs)))
theorem c5:je X (Rw .Add) hV:=by
 intro pins s σ H x y v u Q I rx ry h
 obtain⟨l,b,xs,zs,rfl,rfl,hH,hB,hz,q⟩:=h
 cases rx
 cases ry
 obtain⟨z,its,n,r,hl,e⟩:=I.lstM hH
 obtain⟨z2,its2,n2,r2,hl2,e2⟩:=I.lstM hB
 refine Zc e e2 ?_ (by rw[Q0,Q0];omega)
 have ea:its.toArray++its2.toArray=(its++its2).toArray:=by simp
 rw[ea]
 exact⟨.ref _,_,I.lnew (t':=s.toks) (r.append r2) (by rw[QU];omega),rfl,q _ I.fresh⟩
noncomputable def Ia:R2:=fun x y H Q=>∃l k xs,x=.ref l/\y=.int k/\H l=some (.lst xs)/\-(2 ^ 63)<=k/\k<2 ^ 63/\xs.length*k.toNat<=PZ/\
 ∀p,H p=none->Q (.ref p) (upd H p (.lst (QS k.toNat xs).flatten))
theorem len_rep{α:Type}(xs:List α)(k:Nat):(QS k xs).flatten.length=k*xs.length:=by
 induction k with
 |zero=>simp
 |succ k ih=>rw[S3,Tw,QU,ih,Nat.succ_mul,Nat.add_comm]
theorem ET:je X (Rw .Mult) Ia:=by
 intro pins s σ H x y v u Q I rx ry h
 obtain⟨l,k,xs,rfl,rfl,hH,h1,h2,hz,q⟩:=h
 cases rx
 obtain⟨t,rfl⟩:=ry
 obtain⟨z,its,n,r,hl,e⟩:=I.lstM hH
 have hlen:its.toArray.size*k.toNat<=PZ:=by rw[Q0,<-hl];exact hz
 have hcap:¬its.toArray.size*k.toNat>(2 ^ 63-1)/8:=by
  have:(PZ:Nat)<=(2 ^ 63-1)/8:=by decide
  omega
 have hfit:¬(!Builtin.List.listFitsIndex k)=true:=by
  rw[fitsIndex_both h1 h2]
  exact QM
 have hlong:¬UG (its.toArray.size*k.toNat)=true:=by
  rw[CD hlen]
  exact QM
 have hnew:V1 (fun x1 x2=>x1++x2) #[] (QS (if its.toArray.isEmpty=true then 0 else k.toNat) its.toArray)=(QS k.toNat its).flatten.toArray:=by
  have f0:∀m:Nat,V1 (fun x1 x2=>x1++x2) #[] (QS m its.toArray)=(QS m its).flatten.toArray:=fun m=>by
   have:=foldl_rep its m []
   rw[List.nil_append]at this
   exact this
  rw[f0]
  cases its with
  |nil=>simp
  |cons a r'=>rw[if_neg (by simp)]
 refine wpAny_binaryOp_repeat_ref (T:="list") (U:="int") (by decide) ⟨_,e,rfl⟩ (fun s'=>typeIs_int s' k t) noFill_list_mul F.fills_int_mul XJ repeat_list F.slot_int_index.lookup
  (RJ XJ (typeIs_int s k t) F.entry_int_rmul (F.args_int_rmul_2 _ _) (int___rmul___int_list k t l its.toArray n)
   ⟨e,rfl,⟨_,e,rfl⟩,RJ F.slot_list_mul ⟨_,e,rfl⟩ F.entry_list_mul (F.args_list_mul_2 _ _) (aaV l its.toArray n k t hfit hcap hlong) ⟨e,?_⟩⟩)
 rw[hnew]
 exact⟨.ref _,_,I.lnew (t':=s.toks) (r.rep k.toNat) (by rw[len_rep,Xl];exact hz),rfl,q _ I.fresh⟩
end
section
variable {prog:Qc}{w:P8}{A:Qg}{E:PL->PN->Prop}{s:PN}
end
section
variable {X:Cx}
end
end L2
namespace Att
open PySem PySem.W PySem.Calls PyProof.Rows
theorem uH{P:Params}{h:P0}:∀(ns:List Int)(vs:List PL),WellAll P h vs (ns.map XM)->SE vs ns:=by
 intro ns
 induction ns with
 |nil=>
  intro vs w
  rw[S7]at w
  cases w
  exact .nil
 |cons n ns ih=>
  intro vs w
  rw[Qu]at w
  cases w with
  |cons a b=>
   cases a
   exact .cons _ _ (ih _ b)
theorem GW{l:OpenLaw}{n:Nat}(hn:l.most=some n){P:Params}{h:P0}{args:List WData}{vals:List PL}
  (hpre:l.row.toRowW.claim.pre args=true) (hwl:WellAll P h vals args):
  ∃a vs ns,vals=[Qo a]/\args=[WData.list (ns.map XM)]/\h.get? a=some {cls:=.type "list",data:=.seq vs.toArray}/\SE vs ns/\ns.length<=n:=by
 have hsh:WShape.hasAll [] args [.list .int]=true:=(pre_splitW hpre).1
 have hc:l.pre.holds [] {args:=args}=true:=(pre_splitW hpre).2
 obtain⟨d,r,rfl,h1,h2⟩:=hasAllW_cons hsh
 obtain rfl:=hasAllW_nil h2
 obtain⟨xs,rfl,h3⟩:=hasW_list h1
 obtain⟨ns,rfl⟩:=items_int h3
 have hlen:ns.length<=n:=by
  unfold Zh at hc
  have h4:(WTm.not (.lt (.lit (.int (n:Int))) (.len (.arg 0)))).holds [] {args:=[.list (ns.map .int)]}=true:=by
   have h4:=(holds_andW hc).1
   rw[hn]at h4
   exact h4
  have h5:=condW_of h4 (w_not (w_lt w_lit (w_len_list (w_arg rfl))))
  rw[P7]at h5
  refine VV fun q=>?_
  have q':(n:Int)<((ns.length:Nat):Int):=by omega
  first
   |(rw[decide_eq_true q']at h5;exact absurd h5 (by decide))
   |(simp at h5;omega)
 cases hwl with
 |cons w1 w2=>
  cases w2
  cases w1 with
  |list ho hall=>exact⟨_,_,ns,rfl,rfl,ho,uH ns _ hall,hlen⟩
theorem F1(l:OpenLaw)(args:List WData):l.row.toRowW.claim.post args (.bool true) args=true:=
 postW_of (r:=l.row.toRowW) (X:=(true==true))
  (show Wo [] (.bool true) .bool=true by first|rfl|decide|simp[Wo,WShape.arms,WShape.armsAll])
  (show(WTm.eq .res (.lit (.bool true))).value [] {args:=args,res:=some (.bool true),after:=args}=some (.bool (true==true))from w_eq_bool (w_res rfl) w_lit) rfl
theorem BV{l:OpenLaw}{n:Nat}{q:Qc}{loose:List PH}{XP:(PH->Option PL)->P0->Prop}{YP:P8->P0->Prop}{d:DefRec}
  (hn:l.most=some n) (hdf:d.params.defaults=[])
  (call:∀(w:P8)(s₀ s₁:PN)(mg mb:PH->Option PL)(fa:PK)(o:PV)(pm cd doc:PL)(a:PK)(vs:List PL)(ns:List Int),
   Ground q loose [] XP w s₀ mg mb s₁.heap->YP w s₁.heap->
   s₁.heap.get? fa=some o->o.data=.func (docDef d.name d.params d.body d.scope pm cd doc)->s₁.heap.CodeRec cd d.name->mg d.name=some (.ref fa)->
   s₁.heap.get? a=some {cls:=.type "list",data:=.seq vs.toArray}->SE vs ns->ns.length<=n->s₁.gens=#[]->
   RP (model l.prog w) callerA (.call (.ref fa) ⟨[.ref a],[]⟩) (fun r s'=>r=.ok (.ret (.bool true))/\OldK s₁.heap s'.heap/\s'.os=s₁.os/\R3 s'.gens) s₁):
  WalkO q loose XP YP l.row.toRowW d [] (fun f vs=>VX f vs):=by
 intro w s₀ s₁ mg mb G Y fa o pm cd doc dV kV ho hd hcd hD hmg hg args vals as hpre hlay hrd hwl hlo
 obtain rfl:dV=.none:=Dflts.none hD hdf
 obtain rfl:kV=.none:=Dflts.noKw hD
 obtain⟨a,vs,ns,rfl,rfl,hobj,hints,hlen⟩:=GW hn hpre hwl
 refine enter_call (codeAny_mono (call w s₀ s₁ mg mb fa o pm cd doc a vs ns G Y ho (fd_plain hd) hcd hmg hobj hints hlen hg) fun r s' hq=>?_)
 obtain⟨rfl,h2,h3,h4⟩:=hq
 exact⟨.inl ⟨.bool true,.bool true,[],rfl,fun _=>rfl,.bool true,F1 l _,fun _=>⟨aao,fun _ hm=>(nomatch hm)⟩⟩,h2,h3,h4⟩
section
variable {prog:Qc}{w:P8}{A:Qg}{E:PL->PN->Prop}{s:PN}{K:Frag}
end
end Att
namespace L2
open PySem PySem.Spec PyProof.Rows
theorem rY:∀{vs:List PL}{ns:List Int},SE vs ns->bR (ns.map V.int) vs
 |_,_,.nil=>.nil
 |_,_,.cons n t h=>.cons ⟨t,rfl⟩ (rY h)
noncomputable def Mw(H:Hp):Prop:=∀b,H b=none\/∃o xs,H b=some (.frz o (.lst xs))
theorem HJ{P:Qc}{w:P8}{K:PM}{mg mb:PH->Option PL}{CX:FT}{k:Nat}{fa a:PK}{fd:RF}{x:PH}{sp:Sp}{s₁:PN}{vs:List PL}{ns:List Int}
  (KX:K.In s₁.heap) (hns:s₁.heap.Ns QH mg) (hb:s₁.heap.Ns builtinsNs mb) (hbb:∀x:PH,x≠"__name__"->mb x=To x) (hlim:s₁.heap.NoLimit) (hg:s₁.gens=#[])
  (ha:s₁.heap.get? a=some {cls:=.type "list",data:=.seq vs.toArray}) (hi:SE vs ns) (hl:ns.length<=PZ) (hr:di k callerA)
  (F:∀base:P0,K.In base->base.Ns QH mg->mG P w K mg base CX k fa fd [x] sp) (hbind:∀(s:PN)(u:PL),BindsTo s fd ⟨[u],[]⟩ [(x,u)])
  (hsp:∀H:Hp,Mw H->aY K H a (ns.map V.int)->sp [.ref a] H (fun v _=>v=.bl true) fun _ _ _=>False)
  (hCX:∀H e s',CX [] H s₁ (fun _ _ _=>False) e s'->False):
  RP (model P w) callerA (.call (.ref fa) ⟨[.ref a],[]⟩) (fun r s'=>r=.ok (.ret (.bool true))/\OldK s₁.heap s'.heap/\s'.os=s₁.os/\R3 s'.gens) s₁:=by
 have rv:=rY hi
 have lenV:=hi.length
 have core:∀H:Hp,Mw H->aY K H a (ns.map V.int)->oj P w H s₁.heap->(∀b,H b≠none->b=a)->(H a≠none->K.lookup a=none)->
   RP (model P w) callerA (.call (.ref fa) ⟨[.ref a],[]⟩) (fun r s'=>r=.ok (.ret (.bool true))/\OldK s₁.heap s'.heap/\s'.os=s₁.os/\R3 s'.gens) s₁:=by
  intro H hO hS hok hA hK
  have base_of:∀{b:PK}{o:PV},s₁.heap.get? b=some o->H b=none->(Bf s₁.heap H).get? b=some o:=fun e n=>J1 e n
  have noA:∀{b:PK}{o:PV}{es:Array RM}{ep:Nat},s₁.heap.get? b=some o->o.data=.dict es ep->H b=none:=fun {b o es ep} e d=>by
   cases q:H b with
   |none=>rfl
   |some u=>
    have e':b=a:=hA b (by rw[q];simp)
    subst e'
    rw[ha]at e;cases e
    have d':V6 vs.toArray _=Data.dict es ep:=d
    cases d'
  have nsK:∀{b:PK}{m:PH->Option PL},s₁.heap.Ns b m->(Bf s₁.heap H).Ns b m:=fun {b m} ⟨o,es,ep,e,d,r⟩=>⟨o,es,ep,base_of e (noA e d),d,r⟩
  have hKb:K.In (Bf s₁.heap H):=fun b o e=>base_of (KX b o e) (by
   cases q:H b with
   |none=>rfl
   |some u=>
    have e':b=a:=hA b (by rw[q];simp)
    subst e'
    rw[hK (by rw[q];simp)]at e;cases e)
  have hM:Mod K mg (Bf s₁.heap H):=⟨hKb,nsK hns,⟨mb,nsK hb,hbb⟩,let ⟨mc,h1,h2⟩:=hlim;⟨mc,nsK h1,h2⟩⟩
  have e0:DQ P w K mg (Bf s₁.heap H) callerA [] s₁ H:=⟨rfl,hM,fun b o e=>Li e,Ts (Gx _ _),trivial,fun b hb=>absurd (show b∈([]:List PK)from hb) (by simp),hok,.of_eq hg⟩
  refine codeAny_mono ((F _ hKb (nsK hns)).run callerA [] s₁ H ⟨[.ref a],[]⟩ [.ref a] [.ref a] _ _ hr e0 (hbind s₁ (.ref a)) (.cons rfl .nil) (hsp H hO hS)) fun r s' h=>?_
  cases r with
  |error e=>exact(hCX H e s' h).elim
  |ok fl=>
   cases fl with
   |next=>exact Rn h
   |brk=>exact Rn h
   |cont=>exact Rn h
   |ret u=>
    obtain⟨v,H',os,bare,un,hok',r',q⟩:=h
    have q':v=.bl true:=q
    subst q'
    obtain rfl:u=Sk true:=r'
    refine⟨rfl,OldK.of_keep fun b o e=>?_,os,bare⟩
    cases q:H b with
    |none=>exact un.keep b o e q (by intro z;exact absurd (show b∈([]:List PK)from z) (by simp)) (by simp)
    |some u=>
     rcases hO b with z|⟨ob,xs,z⟩
     ·rw[q]at z;cases z
     ·have z2:=un.frzs b ob _ z
      obtain⟨e1,_⟩:=hok b _ z
      obtain⟨e2,_⟩:=hok' b _ z2
      rw[e]at e1;cases e1
      exact e2
 cases hk:K.lookup a with
 |some o=>
  have e:=KX a o hk
  rw[ha]at e
  cases e
  refine core (fun _=>none) (fun _=>.inl rfl) (.inr ⟨_,vs.toArray,_,hk,rfl,rfl,rfl,by rw[Q0,lenV];exact hl,by simpa using rv⟩) (fun b u z=>by have z':(none:Option HO)=some u:=z;cases z') (fun b z=>absurd rfl z) fun z=>absurd rfl z
 |none=>
  refine core (fun b=>if b=a then some (.frz {cls:=.type "list",data:=.seq vs.toArray} (.lst (ns.map V.int)))else none) (fun b=>?_) (.inl (.inr ⟨{cls:=.type "list",data:=.seq vs.toArray},if_pos rfl⟩)) (fun b u z=>?_) (fun b z=>?_) fun _=>hk
  ·by_cases hb:b=a
   ·exact .inr ⟨_,_,if_pos hb⟩
   ·exact .inl (if_neg hb)
  ·by_cases hb:b=a
   ·have z':=(if_pos hb).symm.trans z
    cases z'
    subst hb
    exact⟨ha,by rw[P7];exact hl,vs,_,rv,ha⟩
   ·have z':=(if_neg hb).symm.trans z
    cases z'
  ·by_cases hb:b=a
   ·exact hb
   ·exact absurd (if_neg hb) z
noncomputable abbrev yt{K:PM}{h:P0}(_:K.In h):PM:=K
theorem KG{l:WM}{n k:Nat}{q:Qc}{loose:List PH}{XP:(PH->Option PL)->P0->Prop}{YP:P8->P0->Prop}{d:DefRec}{K:Params->PM}{CX:P8->FT}{sp:P8->Sp}{x:PH}
  (hn:l.most=some n) (hn2:n<=PZ) (hdf:d.params.defaults=[]) (hr:di k callerA)
  (hY:∀(w:P8)(h:P0),YP w h->(K w.params).In h)
  (F:∀(w:P8)(mg:PH->Option PL)(fa:PK)(h:P0),(K w.params).In h->h.Ns QH mg->mg d.name=some (.ref fa)->
   ∃fd:RF,(∀(s:PN)(u:PL),BindsTo s fd ⟨[u],[]⟩ [(x,u)])/\
    ∀base:P0,(K w.params).In base->base.Ns QH mg->mG l.prog w (K w.params) mg base (CX w) k fa fd [x] (sp w))
  (hsp:∀(w:P8)(H:Hp)(a:PK)(ns:List Int),ns.length<=n->Mw H->aY (K w.params) H a (ns.map V.int)->sp w [.ref a] H (fun v _=>v=.bl true) fun _ _ _=>False)
  (hCX:∀(w:P8)(H:Hp)(s:PN)(e:PL)(s':PN),CX w [] H s (fun _ _ _=>False) e s'->False):
  YG q loose XP YP l.row.toRowW d [] (fun f vs=>VX f vs):=by
 refine Att.BV hn hdf fun w s₀ s₁ mg mb fa o pm cd doc a vs ns G Y ho hd hcd hmg hobj hints hlen hg=>?_
 have KX:=hY w _ Y
 obtain⟨fd,hb,hF⟩:=F w mg fa _ KX G.T.g hmg
 exact HJ KX G.T.g G.T.b G.T.builtins G.T.nolimit hg hobj hints (P6 hlen hn2) hr hF hb (fun H hO hS=>hsp w H a ns hlen hO hS) fun H e s'=>hCX w H s₁ e s'
noncomputable def inClass(s:P5)(j:Nat):P5:=match s with
 |.ClassDef _ _ _ body _ _ _ _ _ _ _=>body.getD j (.Pass ⟨0,0,0,0⟩)
 |_=>.Pass ⟨0,0,0,0⟩
noncomputable def lE(s:P5):Arguments:=match s with
 |.FunctionDef _ a _ _ _ _ _ _ _ _=>a
 |_=>{posonlyargs:=[],args:=[],vararg:=none,kwonlyargs:=[],kw_defaults:=[],kwarg:=none,defaults:=[]}
noncomputable def dI(s:P5):List P5:=match s with
 |.FunctionDef _ _ b _ _ _ _ _ _ _=>b
 |_=>[]
noncomputable def aq(s:P5):QT:=match s with
 |.FunctionDef _ _ _ _ _ _ sc _ _ _=>sc
 |_=>{kind:=.function,names:=[],isGenerator:=false,isCoroutine:=false}
noncomputable abbrev sD:FT:=fun _ _ _ _ _ _=>False
noncomputable abbrev E0:XK:=fun _ _ _=>False
theorem Fo{X:Cx}:lF sD X E0:=fun _ _ _ _ _ _ _ h=>h.elim
structure MC(K:PM)(x qual:PH)(st:P5)(f:PK)(fd:RF):Prop where
 ex:∃(oc:PL)(od:Option PK)(kV doc pm:PL)(an:Option PK)(cdv ct:PL)(osl:Array (Option PL)),
  fd=Sf x qual (lE st) (dI st) (aq st) .none kV doc pm an cdv ct/\K.lookup f=some ⟨oc,od,.func fd,osl⟩/\T8 K cdv qual=true
 kp:RN K (.ref f)=true
section
variable {P:Qc}{w:P8}{K:PM}{mg:PH->Option PL}{base:P0}
theorem MC.ok{x qual:PH}{st:P5}{f:PK}{fd:RF}{N ps:List PH}{k:Nat}{sp:Sp}(F:MC K x qual st f fd)(S:aB N ps (aq st))(len:∀vs H Q E,sp vs H Q E->vs.length=ps.length)
  (hbody:∀(cdv:PL)(A:Qg)(outer:List Qq)(s:PN)(H:Hp)(vs:List V)(Q:VK)(E:XK),di k (A.deeper (Q7 qual (aq st) s.heap.objs.size f cdv))->sp vs H Q E->
   ∃t,xI (cv sD P w K mg base N qual (aq st) f cdv A outer s H E).nox (dI st) t/\t {nx:=fun _ H'=>Q .non H',rt:=Q} (start N vs) H):mG P w K mg base sD (k+1) f fd ps sp:=by
 obtain⟨oc,od,kV,doc,pm,an,cdv,ct,osl,rfl,lk,hcd⟩:=F.ex
 refine LP lk hcd S len fun A outer s H vs Q E hr hsp=>?_
 obtain⟨t,h,q⟩:=hbody cdv A outer s H vs Q E hr hsp
 exact⟨t,h.nox,q⟩
theorem JC{x qual:PH}{st:P5}{f:PK}{oc:PL}{od an:Option PK}{osl:Array (Option PL)}{kV doc pm cdv ct:PL}(l:K.lookup f=some ⟨oc,od,.func (Sf x qual (lE st) (dI st) (aq st) .none kV doc pm an cdv ct),osl⟩)
  (c:T8 K cdv qual=true) (k:RN K (.ref f)=true):MC K x qual st f (Sf x qual (lE st) (dI st) (aq st) .none kV doc pm an cdv ct):=⟨⟨oc,od,kV,doc,pm,an,cdv,ct,osl,rfl,l,c⟩,k⟩
end
theorem ve{A:Qg}{k:Nat}(hr:di k A):A.units+1<cLine:=VP (Nat.add_le_add_left (by decide:1<=64) _) hr.units
theorem Gn{n:Nat}(h:n<=1000):n<PZ:=VP h (by decide)
section
variable {X:Cx}
theorem pv(i:Nat){x:PH}{pos:Qi}(hN:X.N[i]?=some x:=by rfl)(hv:Mi X.env.scope x:=by first|exact PU rfl|exact RQ (PU rfl)|exact RQ (RQ rfl))(hd:(x==("__debug__":PH))=false:=by decide)
  (hcd:(x==("__classdict__":PH))=false:=by decide):PE X (.Name x pos) (af i):=MH hN hv hd hcd
end
theorem JH{A B:Prop}(h:B):if false=true then A else B:=by
 rw[if_neg QM]
 exact h
theorem FZ{A B:Prop}(h:A):if true=true then A else B:=by
 rw[if_pos rfl]
 exact h
theorem KJ{c A B:Prop}[Decidable c](h1:c->A)(h2:¬c->B):if c then A else B:=by
 by_cases h:c
 ·rw[if_pos h]
  exact h1 h
 ·rw[if_neg h]
  exact h2 h
theorem HB{c A B:Prop}[Decidable c](hc:c)(h:B):if(!decide c)=true then A else B:=by
 rw[decide_eq_true hc]
 exact JH h
noncomputable def av(H H':Hp):Prop:=∀b o,H b=some o->H' b=some o
theorem av.refl(H:Hp):av H H:=fun _ _ h=>h
theorem av.trans{H H1 H2:Hp}(a:av H H1)(b:av H1 H2):av H H2:=fun c o h=>b c o (a c o h)
theorem av.free{H H':Hp}(e:av H H'){l:PK}(h:H' l=Xz):H l=Xz:=by
 cases q:H l with
 |none=>rfl
 |some o=>
  rw[e l o q]at h
  cases h
theorem av.seq{K:PM}{H H':Hp}{a:PK}{xs:List V}(e:av H H')(h:aY K H a xs):aY K H' a xs:=by
 rcases h with(h|⟨o,h⟩)|h
 ·exact .inl (.inl (e _ _ h))
 ·exact .inl (.inr ⟨o,e _ _ h⟩)
 ·exact .inr h
section
variable {prog:Qc}{w:P8}{A:Qg}{R:Result->PN->Prop}{s:PN}
theorem Bc{elt target iter:PY}{ifs:List PY}{scope:QT}{pos:Qi}{it acc:PL}{env:Qq}(I:Nat->PN->Prop)
  (turn:∀n s,I n s->PQ (model prog w) A (Rc it) (fun r s₁=>match r with
   |none=>R (.ok .next) s₁
   |some v=>PQ (model prog w) A (letOwnedTupleGo target it v) (fun _ s₀=>PQ (model prog w) A (assign target env v) (fun _ s₂=>
     PQ (model prog w) A (forIn ifs true fun c r=>if r=true then do let ok <-isTrue c env (eval c env);pure (Tu ok)else pure (Tu r)) (fun ok s₃=>
      if ok=true then PQ (model prog w) A (eval elt env) (fun x s₄=>
       PQ (model prog w) A (call (.builtin "list.append") [acc,x]) (fun _ s₅=>∃m,m<n/\I m s₅) (fun _ _=>False) s₄) (fun _ _=>False) s₃
      else ∃m,m<n/\I m s₃) (fun _ _=>False) s₂) (fun _ _=>False) s₀) (fun _ _=>False) s₁) (fun _ _=>False) s)
  (n:Nat) (h:I n s):
  RP (model prog w) A (.compLoop (.ListComp elt [⟨target,iter,ifs,0⟩] scope pos) 0 it acc env) R s:=by
 refine codeAny_loop rfl I (fun n s hI=>?_) n h
 show PQ _ A ((compTurn (.ListComp elt [⟨target,iter,ifs,0⟩] scope pos) 0 it acc env).onRaise (fun x=>do noteFrame x env;theTreesLotGoes x)) _ _ s
 refine wpAny_noted ?_
 rw[compTurn_list]
 refine PR (wpAny_standAt (PR (Q5 (turn n s hI) (fun r s₁ h₁=>?_) fun _ _ h'=>h'.elim)))
 cases r with
 |none=>exact Qh h₁
 |some v=>
  refine PR (Q5 h₁ (fun _ s₀ h₀=>?_) fun _ _ h'=>h'.elim)
  refine PR (Q5 h₀ (fun _ s₂ h₂=>PR (Q5 h₂ (fun ok s₃ h₃=>?_) fun _ _ h'=>h'.elim)) fun _ _ h'=>h'.elim)
  cases ok with
  |false=>exact Qh ⟨rfl,h₃⟩
  |true=>
   exact PR (PR (Q5 h₃ (fun x s₄ h₄=>PR (Q5 h₄ (fun _ s₅ h₅=>Qh (Qh ⟨rfl,h₅⟩)) fun _ _ h'=>h'.elim)) fun _ _ h'=>h'.elim))
end
noncomputable def bp(env:Qq):List (PH×Q8)->List (PH×PK)->List (PH×PK)
 |[],acc=>acc
 |(x,k)::r,acc=>if k==.free then bp env r ((x,(env.cells.lookup x).getD 0)::acc)else bp env r acc
theorem lN{scope:QT}{env:Qq}(h:∀x∈scope.names,x.2=.free->∃c,env.cells.lookup x.1=some c):closureFor scope env=pure (bp env scope.names []):=by
 have all:∀(names:List (PH×Q8))(acc:List (PH×PK)),(∀x∈names,x.2=.free->∃c,env.cells.lookup x.1=some c)->
   (forIn names acc fun (x:PH×Q8) (r:List (PH×PK))=>(if(x.2==RH)=true then do let a <-cellOf env x.1;pure (Tu ((x.1,a)::r))else pure (Tu r):Sem (ForInStep (List (PH×PK)))))=pure (bp env names acc):=by
  intro names
  induction names with
  |nil=>intro acc _;rfl
  |cons x r ih=>
   intro acc hx
   obtain⟨n,k⟩:=x
   have hr:=fun y hy=>hx y (Qs _ hy)
   rw[TX]
   unfold bp
   by_cases hk:(k==RH)=true
   ·obtain⟨c,hc⟩:=hx (n,k) QI (by simpa using hk)
    have hc':env.cells.lookup n=some c:=hc
    have e1:cellOf env n=pure c:=by unfold cellOf;rw[hc']
    simp only[hk,if_true,e1,pure_bind,hc',Option.getD_some]
    exact ih _ hr
   ·simp only[hk,Ss,if_false,pure_bind]
    exact ih _ hr
 have:=all scope.names [] h
 simp only[closureFor]
 first
  |exact this
  |(refine Uk ?_ (this);rfl)
  |(rw[show(forIn scope.names ([]:List (PH×PK)) _:Sem _)=_ from this];rfl)
theorem kS{env:Qq}:∀(names:List (PH×Q8))(acc:List (PH×PK))(x:PH)(c:PK),(x,c)∈bp env names acc->((x,RH)∈names/\c=(env.cells.lookup x).getD 0)\/(x,c)∈acc
 |[],_,_,_,h=>.inr h
 |(y,k)::r,acc,x,c,h=>by
  unfold bp at h
  split at h
  ·rename_i hk
   have hk:k=.free:=by simpa using hk
   rcases kS r _ x c h with⟨h1,h2⟩|h1
   ·exact .inl ⟨Qs _ h1,h2⟩
   ·rcases Qa.mp h1 with e|h1
    ·cases e;subst hk;exact .inl ⟨QI,rfl⟩
    ·exact .inr h1
  ·rcases kS r _ x c h with⟨h1,h2⟩|h1
   ·exact .inl ⟨Qs _ h1,h2⟩
   ·exact .inr h1
theorem kZ{env:Qq}:∀(names:List (PH×Q8))(acc:List (PH×PK))(p:PH×PK),p∈acc->p∈bp env names acc
 |[],_,_,h=>h
 |(y,k)::r,acc,p,h=>by
  unfold bp
  split
  ·exact kZ r _ p (Qs _ h)
  ·exact kZ r _ p h
theorem kh{env:Qq}:∀(names:List (PH×Q8))(acc:List (PH×PK))(x:PH),(x,RH)∈names->(x,(env.cells.lookup x).getD 0)∈bp env names acc
 |[],_,_,h=>nomatch h
 |(y,k)::r,acc,x,h=>by
  unfold bp
  rcases Qa.mp h with e|h
  ·cases e
   rw[if_pos (by rfl)]
   exact kZ r _ _ QI
  ·split
   ·exact kh r _ x h
   ·exact kh r _ x h
theorem mem_lookup{α:Type}:∀{l:List (PH×α)}{x:PH}{c:α},(x,c)∈l->∃d,l.lookup x=some d
 |(k,v)::r,x,c,h=>by
  rw[RL]
  cases hb:x==k with
  |true=>exact⟨v,rfl⟩
  |false=>
   rcases Qa.mp h with e|h
   ·cases e;simp at hb
   ·exact mem_lookup h
theorem lZ{env:Qq}{names:List (PH×Q8)}{x:PH}{c:PK}(h:(bp env names []).lookup x=some c)(hh:∀y∈names,y.2=.free->∃c,env.cells.lookup y.1=some c):
  (x,RH)∈names/\env.cells.lookup x=some c:=by
 rcases kS names [] x c (mem_of_lookup h)with⟨h1,h2⟩|h1
 ·obtain⟨d,hd⟩:=hh _ h1 rfl
  have hd':env.cells.lookup x=some d:=hd
  rw[hd']at h2
  exact⟨h1,by rw[h2];exact hd'⟩
 ·exact nomatch h1
theorem pb{env:Qq}{names:List (PH×Q8)}{x:PH}(hx:(x,RH)∈names)(hh:∀y∈names,y.2=.free->∃c,env.cells.lookup y.1=some c):
  ∃c,(bp env names []).lookup x=some c/\env.cells.lookup x=some c:=by
 obtain⟨d,hd⟩:=mem_lookup (kh names [] x hx)
 exact⟨d,hd,(lZ hd hh).2⟩
theorem sS:∀(names:List (PH×Q8))(n:Nat)(acc:List (PH×PK))(x:PH),(x,Rv)∉names->(Q4 n names acc).lookup x=acc.lookup x
 |[],_,_,_,_=>rfl
 |(y,k)::r,n,acc,x,h=>by
  unfold Q4
  have hr:(x,Rv)∉r:=fun z=>h (Qs _ z)
  split
  ·rename_i hk
   have hk:k=.cell:=by simpa using hk
   rw[sS r _ _ x hr,RL]
   cases hb:x==y with
   |true=>
    have e:x=y:=by simpa using hb
    exact absurd QI (by subst e;subst hk;exact h)
   |false=>rfl
  ·exact sS r n acc x hr
theorem AY:∀(names:List (PH×Q8))(n:Nat)(acc:List (PH×PK))(x:PH),(x,Rv)∈names->∃c,n<=c/\(Q4 n names acc).lookup x=some c
 |[],_,_,_,h=>nomatch h
 |(y,k)::r,n,acc,x,h=>by
  unfold Q4
  by_cases hr:(x,Rv)∈r
  ·split
   ·obtain⟨c,h1,h2⟩:=AY r (n+1) ((y,n)::acc) x hr
    exact⟨c,by omega,h2⟩
   ·exact AY r n acc x hr
  ·have e:(x,Rv)=(y,k):=(Qa.mp h).resolve_right hr
   injection e with e1 e2
   subst e1
   subst e2
   rw[if_pos (by rfl),sS r _ _ x hr,RL]
   simp
theorem ID:∀(names:List (PH×Q8))(h:P0)(acc:List (PH×PK))(x:PH)(c:PK),(Q4 h.objs.size names acc).lookup x=some c->(SH h names).IsCell c none\/acc.lookup x=some c
 |[],_,_,_,_,h=>.inr h
 |(y,k)::r,h,acc,x,c,e=>by
  unfold Q4 at e
  unfold SH
  by_cases hk:(k==Rv)=true
  ·rw[if_pos hk]at e ⊢
   have e':(Q4 (h.push {cls:=.type "cell",data:=.cell none}).objs.size r ((y,h.objs.size)::acc)).lookup x=some c:=by rw[Rx];exact e
   rcases ID r _ _ x c e' with q|q
   ·exact .inl q
   ·rw[RL]at q
    cases hb:x==y with
    |true=>
     rw[hb]at q
     have q':h.objs.size=c:=QW q
     subst q'
     exact .inl ((show(h.push {cls:=.type "cell",data:=.cell none}).IsCell h.objs.size none from⟨_,Qz _ rfl,rfl⟩).keeps (pushCells_keeps _ _))
    |false=>rw[hb]at q;exact .inr q
  ·rw[if_neg hk]at e ⊢
   exact ID r h acc x c e
theorem EN:∀(names:List (PH×Q8))(n:Nat)(acc:List (PH×PK)),(∀x c,acc.lookup x=some c->c<n)->(∀x y c,acc.lookup x=some c->acc.lookup y=some c->x=y)->
  ∀x y c,(Q4 n names acc).lookup x=some c->(Q4 n names acc).lookup y=some c->x=y
 |[],_,_,_,h=>h
 |(z,k)::r,n,acc,h1,h2=>by
  unfold Q4
  split
  ·refine EN r (n+1) _ (fun x c e=>?_) fun x y c e e'=>?_
   ·rw[RL]at e
    cases hb:x==z with
    |true=>rw[hb]at e;exact(QW e)▸UL n
    |false=>rw[hb]at e;exact UD (h1 x c e)
   ·rw[RL]at e e'
    cases hb:x==z with
    |true=>
     rw[hb]at e
     have ec:n=c:=QW e
     cases hb':y==z with
     | true => have a : x = z := by simpa using hb
               have b:y=z:=by simpa using hb'
               rw[a,b]
     |false=>rw[hb']at e';exact absurd (h1 y c e') (by rw[<-ec];exact RA n)
    |false=>
     rw[hb]at e
     cases hb':y==z with
     |true=>
      rw[hb']at e'
      have ec:n=c:=QW e'
      exact absurd (h1 x c e) (by rw[<-ec];exact RA n)
     |false=>rw[hb']at e';exact h2 x y c e e'
  ·exact EN r n acc h1 h2
structure tV(N0:List PH)(sc:QT)(N:List PH)(scope:QT)(mp:List (Option Nat)):Prop where
 kind:scope.kind=.function
 nd:(scope.names.map (·.1)).Nodup
 freeB:(scope.names.all fun x=>!decide (x.2=.free) || (decide (sc.names.lookup x.1=some .cell) || decide (sc.names.lookup x.1=some .free)))=true
 len:mp.length=N.length
 map:((P4 mp.length).all fun i=>match mp[i]? with
  |some (some j)=>(match N[i]?,N0[j]? with
   |some x,some y=>decide (x=y)&&decide (scope.names.lookup x=some .free)
   |_,_=>false)
  |_=>true)=true
theorem tV.free{N0:List PH}{sc:QT}{N:List PH}{scope:QT}{mp:List (Option Nat)}(S:tV N0 sc N scope mp):∀x∈scope.names,x.2=.free->sc.names.lookup x.1=some .cell\/sc.names.lookup x.1=some .free:=fun x hx e=>by
 have q:=Ru.mp S.freeB x hx
 rw[decide_eq_true e]at q
 simpa using q
theorem tV.at{N0:List PH}{sc:QT}{N:List PH}{scope:QT}{mp:List (Option Nat)}(S:tV N0 sc N scope mp){i j:Nat}(h:mp[i]?=some (some j)):
  ∃x,N[i]?=some x/\N0[j]?=some x/\scope.names.lookup x=some .free:=by
 have hi:i<mp.length:=(QN.mp h).1
 have q:=Ru.mp S.map i (Q6.mpr hi)
 rw[h]at q
 simp only at q
 cases e1:N[i]? with
 |none=>rw[e1]at q;simp at q
 |some x=>
  cases e2:N0[j]? with
  |none=>rw[e1,e2]at q;simp at q
  |some y=>
   rw[e1,e2]at q
   simp only[QX,decide_eq_true_eq]at q
   obtain⟨q1,q2⟩:=q
   subst q1
   exact⟨x,rfl,rfl,q2⟩
theorem ed{α:Type}:∀{l:List (PH×α)}{x:PH}{a:α},(l.map (·.1)).Nodup->(x,a)∈l->l.lookup x=some a
 |(k,v)::r,x,a,nd,h=>by
  have nd:(k::r.map (·.1)).Nodup:=nd
  obtain⟨n1,n2⟩:=RX.mp nd
  rw[RL]
  rcases Qa.mp h with e|h'
  ·cases e;simp
  ·have ne:(x==k)=false:=by
    cases hb:x==k with
    |false=>rfl
    |true=>
     have e:x=k:=by simpa using hb
     subst e
     exact(n1 (P9.mpr ⟨(x,a),h',rfl⟩)).elim
   rw[ne]
   exact ed n2 h'
noncomputable def c6(mp:List (Option Nat))(σ:St):St:=mp.map fun o=>o.bind fun j=>(σ[j]?).join
noncomputable def fk(X:Cx)(N:List PH)(scope:QT)(C:PK)(cl:List (PH×PK))(s:PN)(H:Hp)(fp:List PK)(pins:List (PK×PV)):Cx where
 prog:=X.prog
 w:=X.w
 K:=X.K
 mg:=X.mg
 base:=X.base
 A:=X.A
 N:=N
 s₀:=s
 H₀:=H
 env:=compEnvC scope (Q4 (C+1) scope.names cl) C X.env
 outer:=X.stack
 stack:=X.stack
 ex:=fp
 fn:=fun x=>decide (scope.names.lookup x=some .cell)
 calm:=X.calm
 pn:=X.pn++pins
 xe:=fun _ _=>False
theorem fM{env:Qq}:∀{names:List (PH×Q8)}{x:PH}{k:Q8},(names.map fun (n,k)=>if(k==RH&&env.scope.kind==.function&&env.kindOf n==some .cell)then(n,Rv)else(n,k)).lookup x=some k->
  names.lookup x=some k\/(names.lookup x=some .free/\k=.cell/\env.kindOf x=some .cell)
 |[],_,_,h=>by simp at h
 |(n,k')::r,x,k,h=>by
  have ih:=@fM env r x k
  rw[Qu]at h
  rw[RL]
  cases hx:x==n with
  |true=>
   have e:x=n:=by simpa using hx
   subst e
   by_cases hc:(k'==RH&&env.scope.kind==.function&&env.kindOf x==some .cell)=true
   ·simp only[hc,if_true,RL,beq_self_eq_true,W9]at h
    rw[QX,QX]at hc
    obtain⟨⟨c1,_⟩,c3⟩:=hc
    exact .inr ⟨by rw[show k'=.free by simpa using c1],h.symm,by simpa using c3⟩
   ·simp only[hc,Ss,if_false,RL,beq_self_eq_true,W9]at h
    exact .inl (by rw[h])
  |false=>
   refine ih ?_
   by_cases hc:(k'==RH&&env.scope.kind==.function&&env.kindOf n==some .cell)=true
   ·simpa only[hc,if_true,RL,hx]using h
   ·simpa only[hc,Ss,if_false,RL,hx]using h
theorem Ms{M:Model}{A:Qg}{E:PL->PN->Prop}{s:PN}{scope:QT}{globals:PK}{cl:List (PH×PK)}{qual:PH}{env:Qq}{Q:Qq->PN->Prop}
  (h:Q {scope:=scope,locals:=s.heap.objs.size,globals:=globals,cells:=Q4 (s.heap.objs.size+1) scope.names cl,qual:=qual,func:=none,code:=env.code,frame:=env.frame,builtins:=env.builtins}
   {s with heap:=SH (s.heap.push {cls:=.type "dict",data:=.dict #[]}) scope.names}):
  PQ M A (newFunctionEnv scope globals cl [] qual none .none (some env)) Q E s:=by
 simp only[newFunctionEnv,Yv,if_true]
 refine PR (wpAny_alloc ?_)
 refine PR (wpAny_layCells _ (fun name kind cells=>by cases hkc:kind==Rv<;>simp[hkc]) _ _ _ _ ?_)
 rw[show({s with heap:=s.heap.push {cls:=.type "dict",data:=.dict #[]}}:PN).heap.objs.size=s.heap.objs.size+1 from Rx ..]
 first
  |exact PR (Qh (Qh h))
  |exact Qh h
  |(rw[TJ];exact PR (Qh (Qh h)))
section
variable {X:Cx}{pins:List (PK×PV)}{σ:St}{H:Hp}{s:PN}
theorem Hk{N:List PH}{scope:QT}{mp:List (Option Nat)}{fp:List PK}(S:tV X.N X.env.scope N scope mp)(I:Inv X pins σ H s)(f:∀b∈fp,qu X pins H b)(fo:∀b∈fp,b<s.heap.objs.size):
  Inv (fk X N scope s.heap.objs.size (bp X.env scope.names []) s H fp pins) [] (c6 mp σ) H {s with heap:=SH (s.heap.push {cls:=.type "dict",data:=.dict #[]}) scope.names}:=by
 have hk:∀b o,s.heap.get? b=some o->(SH (s.heap.push {cls:=.type "dict",data:=.dict #[]}) scope.names).get? b=some o:=fun b o e=>pushCells_keeps _ _ b o (Qr _ e)
 have hfree:∀y∈scope.names,y.2=.free->∃c,X.env.cells.lookup y.1=some c:=fun y hy hf=>I.ok.has y.1 (S.free y hy hf)
 have clo:∀x c,(bp X.env scope.names []).lookup x=some c->(x,RH)∈scope.names/\X.env.cells.lookup x=some c:=fun x c e=>lZ e hfree
 have old:∀x c,X.env.cells.lookup x=some c->c<s.heap.objs.size:=fun x c e=>by
  obtain⟨v,q⟩:=I.cell x c e
  exact q.lt
 have cell_of:∀x c,(Q4 (s.heap.objs.size+1) scope.names (bp X.env scope.names [])).lookup x=some c->(s.heap.objs.size+1<=c/\(x,Rv)∈scope.names)\/((x,RH)∈scope.names/\X.env.cells.lookup x=some c):=fun x c e=>by
  by_cases hx:(x,Rv)∈scope.names
  ·obtain⟨d,h1,h2⟩:=AY scope.names (s.heap.objs.size+1) (bp X.env scope.names []) x hx
   rw[h2]at e
   cases e
   exact .inl ⟨h1,hx⟩
  ·rw[sS _ _ _ x hx]at e
   exact .inr (clo x c e)
 have isCell:∀x c,(Q4 (s.heap.objs.size+1) scope.names (bp X.env scope.names [])).lookup x=some c->∃v,(SH (s.heap.push {cls:=.type "dict",data:=.dict #[]}) scope.names).IsCell c v:=fun x c e=>by
  have e':(Q4 (s.heap.push {cls:=.type "dict",data:=.dict #[]}).objs.size scope.names (bp X.env scope.names [])).lookup x=some c:=by rw[Rx];exact e
  rcases ID scope.names _ _ x c e' with q|q
  ·exact⟨none,q⟩
  ·obtain⟨v,z⟩:=I.cell x c (clo x c q).2
   exact⟨v,z.keeps hk⟩
 refine⟨⟨I.ok.mod,S.kind,I.ok.glob,I.ok.blt,Qe _,?_,?_,?_,I.ok.hd,I.ok.frames,.inl rfl,?_,I.bs,P6 I.ok.bsz I.sz,?_,?_,I.stack,I.stkFree⟩,
  rfl,I.bare,Un.kept hk,⟨fun _=>none,?_,?_⟩,isCell,I.hok.fresh (Qe _),?_,?_,I.hok.kept hk,?_⟩
 ·
  refine EN scope.names _ _ (fun x c e=>?_) fun x y c e e'=>I.ok.inj x y c (clo x c e).2 (clo y c e').2
  exact UD (old x c (clo x c e).2)
 ·
  intro x hx
  have key:(x,Rv)∈scope.names\/(x,RH)∈scope.names:=by
   have hx':(relabel scope X.env).names.lookup x=some .cell\/(relabel scope X.env).names.lookup x=some .free:=hx
   rcases hx' with q|q
   ·rcases fM q with z|⟨z,_,_⟩
    ·exact .inl (mem_of_lookup z)
    ·exact .inr (mem_of_lookup z)
   ·rcases fM q with z|⟨z,_,_⟩
    ·exact .inr (mem_of_lookup z)
    ·exact .inr (mem_of_lookup z)
  by_cases hc:(x,Rv)∈scope.names
  ·obtain⟨d,_,h2⟩:=AY scope.names (s.heap.objs.size+1) (bp X.env scope.names []) x hc
   exact⟨d,h2⟩
  ·obtain⟨d,h2,_⟩:=pb (key.resolve_left hc) hfree
   exact⟨d,by show(Q4 (s.heap.objs.size+1) scope.names (bp X.env scope.names [])).lookup x=some d;rw[sS _ _ _ x hc];exact h2⟩
 ·
  intro x c hf e
  have hc:(x,Rv)∈scope.names:=mem_of_lookup (of_decide_eq_true hf)
  rcases cell_of x c e with⟨h1,_⟩|⟨h1,_⟩
  ·exact VF h1
  ·have q1:=ed S.nd hc
   have q2:=ed S.nd h1
   rw[q1]at q2;cases q2
 ·
  intro b hb
  refine⟨Qt (fo b hb),fun x c e z=>?_⟩
  subst z
  rcases cell_of x c e with⟨h1,_⟩|⟨_,h1⟩
  ·exact absurd (QE (fo c hb) (VF h1)) (RA _)
  ·exact(f c hb).2.2.2.2.1 x c h1 rfl
 ·
  intro b o e hb
  rcases(f b hb).2.2.2.1 with z|z
  ·exact I.ok.noex b o e z
  ·exact absurd (QE (QE (Qk e) I.ok.bsz) z) (RA _)
 ·
  intro b hb hs
  rcases Qa.mp (I.stkSub b hs)with z|z
  ·exact(f b hb).2.1 z
  ·exact(f b hb).2.2.1 z
 ·
  exact(YZ s.heap (.type "dict")).keeps (pushCells_keeps _ _)
 ·
  intro i x v e1 e2 _
  have e2':(mp.map fun o=>o.bind fun j=>(σ[j]?).join)[i]?=some (some v):=e2
  rw[Se]at e2'
  cases em:mp[i]? with
  |none=>rw[em]at e2';cases e2'
  |some o=>
   rw[em]at e2'
   cases o with
   |none=>cases e2'
   |some j=>
    have e3:(σ[j]?).join=some v:=QW e2'
    have e4:σ[j]?=some (some v):=by
     cases q:σ[j]? with
     |none=>rw[q]at e3;cases e3
     |some z=>rw[q]at e3;exact congrArg some e3
    obtain⟨y,h1,h2,h3⟩:=S.at em
    have h1':some x=some y:=e1.symm.trans h1
    cases h1'
    have hm:=mem_of_lookup h3
    have vis:Mi X.env.scope x:=(S.free _ hm rfl).elim (fun z=>.inr (.inl z)) fun z=>.inr (.inr z)
    obtain⟨m,hn,hl⟩:=I.loc
    obtain⟨u,r,l⟩:=hl j x v h2 e4 vis
    refine⟨u,r,.inr ?_⟩
    have nc:(x,Rv)∉scope.names:=fun z=>by
     have q2:=ed S.nd z
     rw[h3]at q2;cases q2
    obtain⟨c,hc1,hc2⟩:=pb hm hfree
    have hc3:(Q4 (s.heap.objs.size+1) scope.names (bp X.env scope.names [])).lookup x=some c:=by rw[sS _ _ _ x nc];exact hc1
    have hcell:s.heap.IsCell c (some u):=by
     rcases l with⟨hk',_⟩|⟨_,c',e5,e6⟩
     ·exfalso
      have hk':X.env.scope.names.lookup x=some .local:=hk'
      rcases S.free _ hm rfl with z|z
      ·have z:X.env.scope.names.lookup x=some .cell:=z
       rw[hk']at z;cases z
      ·have z:X.env.scope.names.lookup x=some .free:=z
       rw[hk']at z;cases z
     ·rw[hc2]at e5;cases e5;exact e6
    refine⟨?_,c,hc3,hcell.keeps hk⟩
    rename_i hv
    have hv:Mi (relabel scope X.env) x:=hv
    rcases hv with z|z|z
    ·exfalso
     rcases fM (show(relabel scope X.env).names.lookup x=some .local from z)with q|⟨_,q,_⟩
     ·rw[h3]at q;cases q
     ·cases q
    ·exact .inl z
    ·exact .inr z
 ·
  intro x c e
  rcases cell_of x c e with⟨h1,_⟩|⟨_,h1⟩
  ·exact I.hok.fresh (VF h1)
  ·exact I.freeC x c h1
 ·
  intro p hp
  have hp':p∈X.pn++pins:=by simpa[fk]using hp
  obtain⟨e,n,ne,nf,d⟩:=I.pin p hp'
  refine⟨hk _ _ e,n,Qt (Qk e),fun z=>?_,d⟩
  rcases Qa.mp (I.stkSub _ z)with q|q
  ·exact ne q
  ·exact nf q
 ·show(mp.map _).length=N.length
  rw[P7]
  exact S.len
end
noncomputable def JI(X:Cx)(ifs:List PY)(t:TT):Prop:=
 ∀(pins:List (PK×PV))(s:PN)(σ:St)(H:Hp)(Q:Bool->Hp->Prop),Inv X pins σ H s->t σ H Q->
  PQ (model X.prog X.w) X.A (forIn ifs true fun c r=>if r=true then do let ok <-isTrue c X.env (eval c X.env);pure (Tu ok)else pure (Tu r)) (TP X pins σ Q) X.xe s
noncomputable def dv:TT:=fun _ H Q=>Q true H
theorem bx{X:Cx}:JI X [] dv:=fun _ _ _ H _ I h=>wpAny_tests_nil ⟨H,I,h⟩
theorem gy{X:Cx}{c:PY}{t:TT}(h:PT X c t):JI X [c] t:=fun pins s σ H Q I q=>wpAny_tests_one (h pins s σ H Q I q)
noncomputable def dq(mp:List (Option Nat))(g:TG)(tt:TT)(te:TE)(J:It)(σ:St)(H:Hp)(Q:VK):Prop:=
 ∀l,H l=none->∃W:Nat->Nat->List V->St->Hp->Prop,(∃m,W 0 m [] (c6 mp σ) (upd H l (.lst [])))/\∀i m acc σ' H',W i m acc σ' H'->
  (J.stop i H'/\Q (.ref l) H')\/(J.go i H'/\acc.length<PZ/\∃Nx:List V->St->Hp->Prop,(∀acc' σ2 H2,Nx acc' σ2 H2->∃m',m'<m/\W (i+1) m' acc' σ2 H2)/\
   ∀x H2,J.yld i H' x H2->g x σ' H2 fun σ2 H3=>tt σ2 H3 fun b H4=>if b=true then te σ2 H4 fun v H5=>H5 l=some (.lst acc)/\Nx (acc++[v]) σ2 (upd H5 l (.lst (acc++[v])))else Nx acc σ2 H4)
noncomputable def bO(mp:List (Option Nat))(wi:TI)(g:TG)(tt:TT)(te:TE):TE:=fun σ H Q=>wi σ H fun J H1=>dq mp g tt te J σ H1 Q
section
variable {X:Cx}{elt iter tg:PY}{ifs:List PY}{scope:QT}{pos:Qi}{N:List PH}{mp:List (Option Nat)}{wi:TI}{g:TG}{tt:TT}{te:TE}
theorem vB{pins:List (PK×PV)}{σ:St}{H2:Hp}{s2:PN}{it:PK}{fp:List PK}{tn:Nat->P0->Prop}{J:It}{Q:VK}{RR:PL->PK->Result->PN->Prop}{E:PL->PN->Prop}
  (hc:X.calm=true) (S:tV X.N X.env.scope N scope mp) (I2:Inv X pins σ H2 s2) (T:Turn X.prog X.w X.K tg J fp it tn) (st2:tn 0 s2.heap) (f2:∀b∈fp,qu X pins H2 b)
  (hg:∀C cl s H fp pins,PG (fk X N scope C cl s H fp pins) tg g) (ht:∀C cl s H fp pins,JI (fk X N scope C cl s H fp pins) ifs tt) (he:∀C cl s H fp pins,PE (fk X N scope C cl s H fp pins) elt te)
  (k:dq mp g tt te J σ H2 Q)
  (fin:∀(l C:PK)(m:PH->Option PL)(s':PN)(H':Hp),Inv X pins σ H' s'->s'.heap.Ns C m->H' C=none->C≠X.env.locals->X.s₀.heap.objs.size<=C->(∀x c,X.env.cells.lookup x=some c->c≠C)->(∀p∈X.pn++pins,p.1≠C)->
   Q (.ref l) H'->RR (.ref l) C (.ok .next) s'):
  PQ (model X.prog X.w) X.A (newList []) (fun acc s₃=>PQ (model X.prog X.w) X.A (newFunctionEnv scope X.env.globals (bp X.env scope.names []) [] X.env.qual none .none (some X.env)) (fun cenv s₄=>
   RP (model X.prog X.w) X.A (.compStart (.ListComp elt [⟨tg,iter,ifs,0⟩] scope pos) 0 (.ref it) acc {cenv with scope:=relabel scope X.env}) (RR acc cenv.locals) s₄) E s₃) E s2:=by
 refine wpAny_newList ?_ (Q3 _)
 have I3:Inv X pins σ (upd H2 s2.heap.objs.size (.lst [])) {s2 with heap:=s2.heap.push {cls:=.type "list",data:=.seq ([]:List PL).toArray}}:=I2.lnew (t':=s2.toks) (its:=[]) .nil (Q3 _)
 have fl:H2 s2.heap.objs.size=none:=I2.fresh
 have nfl:s2.heap.objs.size∉fp:=fun z=>by
  obtain⟨o,e,_⟩:=T.obj 0 _ st2 _ z
  exact absurd (Qk e) (RA _)
 have fo2:∀b∈fp,b<s2.heap.objs.size:=fun b hb=>by
  obtain⟨o,e,_⟩:=T.obj 0 _ st2 b hb
  exact Qk e
 have f3:∀b∈fp,qu X pins (upd H2 s2.heap.objs.size (.lst [])) b:=fun b hb=>by
  obtain⟨h0,hr⟩:=f2 b hb
  exact⟨by rw[ak (Qt (fo2 b hb))];exact h0,hr⟩
 have k3:=k s2.heap.objs.size fl
 clear k
 have st3:tn 0 (s2.heap.push {cls:=.type "list",data:=.seq ([]:List PL).toArray}):=T.keep 0 _ _ st2 fun b _ o e=>Qr _ e
 have fo3:∀b∈fp,b<(s2.heap.push {cls:=.type "list",data:=.seq ([]:List PL).toArray}).objs.size:=fun b hb=>by rw[Rx];exact UD (fo2 b hb)
 generalize hs3:({s2 with heap:=s2.heap.push {cls:=.type "list",data:=.seq ([]:List PL).toArray}}:PN)=s3 at I3 ⊢
 have st3:tn 0 s3.heap:=by rw[<-hs3];exact st3
 have fo3:∀b∈fp,b<s3.heap.objs.size:=by rw[<-hs3];exact fo3
 generalize s2.heap.objs.size=l at *
 generalize upd H2 l (.lst [])=H3 at *
 refine Ms ?_
 have I4:=Hk S I3 f3 fo3
 obtain⟨W,⟨m0,w0⟩,turn⟩:=k3
 have st4:tn 0 (SH (s3.heap.push {cls:=.type "dict",data:=.dict #[]}) scope.names):=T.keep 0 _ _ st3 fun b _ o e=>pushCells_keeps _ _ b o (Qr _ e)
 generalize hs4:({s3 with heap:=SH (s3.heap.push {cls:=.type "dict",data:=.dict #[]}) scope.names}:PN)=s4 at I4 ⊢
 have st4:tn 0 s4.heap:=by rw[<-hs4];exact st4
 have stat:∀{H':Hp},(∀b∈fp,H' b=none)->∀b∈fp,qu (fk X N scope s3.heap.objs.size (bp X.env scope.names []) s3 H3 fp pins) [] H' b:=fun {H'} hn b hb=>by
  refine⟨hn b hb,(I4.ok.exf b hb).1,I4.ok.exfs b hb,.inl hb,(I4.ok.exf b hb).2,fun p hp=>?_⟩
  exact(f3 b hb).2.2.2.2.2 p (by simpa[fk]using hp)
 have back:∀{σ':St}{H':Hp}{s':PN}{ps:List (PK×PV)},Inv (fk X N scope s3.heap.objs.size (bp X.env scope.names []) s3 H3 fp pins) ps σ' H' s'->Inv X pins σ H' s':=fun {σ' H' s' ps} I'=>
  I3.call' (ch:=fp) I'.os I'.base I'.hok I'.bare fun b hb=>⟨(f3 b hb).2.2.2.1,(f3 b hb).2.1,(f3 b hb).2.2.2.2.1,(f3 b hb).2.2.2.2.2⟩
 have loop:RP (model X.prog X.w) X.A (.compLoop (.ListComp elt [⟨tg,iter,ifs,0⟩] scope pos) 0 (.ref it) (.ref l) (compEnvC scope (Q4 (s3.heap.objs.size+1) scope.names (bp X.env scope.names [])) s3.heap.objs.size X.env)) (RR (.ref l) s3.heap.objs.size) s4:=by
  refine Bc (fun n s'=>∃i acc σ' H',Inv (fk X N scope s3.heap.objs.size (bp X.env scope.names []) s3 H3 fp pins) [] σ' H' s'/\tn i s'.heap/\(∀b∈fp,H' b=none)/\W i n acc σ' H') ?_ m0
   ⟨0,[],c6 mp σ,H3,I4,st4,fun b hb=>(f3 b hb).1,w0⟩
  rintro n s5 ⟨i,acc,σ5,H5,I5,st5,fr5,w5⟩
  rcases turn i n acc σ5 H5 w5 with⟨stop,q⟩|⟨go,hz,Nx,hN,step⟩
  ·refine cI (T.done (fk X N scope s3.heap.objs.size (bp X.env scope.names []) s3 H3 fp pins) rfl rfl rfl hc i [] s5 σ5 H5 _ I5 (stat fr5) st5 stop) fun r s6 ⟨hr,I6⟩=>?_
   subst hr
   obtain⟨m,hn,_⟩:=I6.loc
   refine fin l _ m s6 H5 (back I6) hn I6.free ?_ I3.sz (fun x c e z=>?_) (fun p hp z=>?_) q
   ·exact Ro I3.lt
   ·obtain⟨v,y⟩:=I3.cell x c e
    exact absurd y.lt (by rw[z];exact RA _)
   ·exact absurd (Qk (I3.pin p hp).1) (by rw[z];exact RA _)
  ·refine cI (T.item (fk X N scope s3.heap.objs.size (bp X.env scope.names []) s3 H3 fp pins) rfl rfl rfl hc i [] s5 σ5 H5 _ I5 (stat fr5) st5 go) fun r s6 ⟨u,hr,h6⟩=>?_
   subst hr
   refine cI h6 fun _ s7 ⟨x,H7,I7,r7,y7,st7,fr7⟩=>?_
   have I7':=I7.pinned (stat fr7) (T.obj _ _ st7)
   have again:∀{s8:PN}{acc':List V}{σ8:St}{H8:Hp},Inv (fk X N scope s3.heap.objs.size (bp X.env scope.names []) s3 H3 fp pins) ([]++vI fp s7.heap) σ8 H8 s8->Nx acc' σ8 H8->
     ∃m,m<n/\∃i acc σ' H',Inv (fk X N scope s3.heap.objs.size (bp X.env scope.names []) s3 H3 fp pins) [] σ' H' s8/\tn i s8.heap/\(∀b∈fp,H' b=none)/\W i m acc σ' H':=fun {s8 acc' σ8 H8} I8 n8=>by
    obtain⟨m',hm,w8⟩:=hN acc' σ8 H8 n8
    refine⟨m',hm,i+1,acc',σ8,H8,I8.unpinned,T.keep _ _ _ st7 fun b hb o e=>(I8.pin (b,o) (Rh _ (Rh _ (ki hb e)))).1,fun b hb=>?_,w8⟩
    obtain⟨o,e,d⟩:=T.obj _ _ st7 b hb
    exact(I8.pin (b,o) (Rh _ (Rh _ (ki hb e)))).2.1
   refine cI (hg _ _ _ _ _ _ _ s7 σ5 H7 x u _ I7' r7 (step x H7 y7)) fun _ s8 ⟨σ8,H8,I8,q8⟩=>?_
   refine cI (ht _ _ _ _ _ _ _ s8 σ8 H8 _ I8 q8) fun b s9 ⟨H9,I9,q9⟩=>?_
   cases b with
   |false=>
    rw[if_neg QM]at q9 ⊢
    exact again I9 q9
   |true=>
    rw[if_pos rfl]at q9 ⊢
    refine cI (he _ _ _ _ _ _ _ s9 σ8 H9 _ I9 q9) fun v s10 ⟨y,H10,I10,r10,q10,n10⟩=>?_
    refine cI (ig _ s10 σ8 H10 (.ref l) [y] (.ref l) [v] (fun _ H'=>Nx (acc++[y]) σ8 H') I10 rfl (.cons r10 .nil) ⟨l,acc,y,rfl,rfl,q10,hz,n10⟩) fun _ s11 ⟨_,H11,I11,_,q11⟩=>?_
    exact again I11 q11
 exact codeAny_compStart_list loop (T.self _ 0 _ _ _ st4 loop)
theorem bF(hc:X.calm=true)(S:tV X.N X.env.scope N scope mp)(hi:PI X tg iter wi)
  (hg:∀C cl s H fp pins,PG (fk X N scope C cl s H fp pins) tg g) (ht:∀C cl s H fp pins,JI (fk X N scope C cl s H fp pins) ifs tt) (he:∀C cl s H fp pins,PE (fk X N scope C cl s H fp pins) elt te)
  (hs:∀x,foldedSetIterable iter X.env x=pure x:=by intro _;rfl):PE X (.ListComp elt [⟨tg,iter,ifs,0⟩] scope pos) (bO mp wi g tt te):=by
 intro pins s σ H Q I h
 rw[eval_ListComp]
 have hfree:∀y∈scope.names,y.2=.free->∃c,X.env.cells.lookup y.1=some c:=fun y hy hf=>I.ok.has y.1 (S.free y hy hf)
 refine wpAny_comprehension_free (use:=none) rfl hs (lN hfree) S.kind (fun x hx e=>ed S.nd (by rw[<-e];exact hx)) ?_
 show PQ _ _ (eval iter X.env) _ _ _
 refine cI (hi pins s σ H _ I h) fun v s1 h1=>cI h1 fun itv s2 h2=>?_
 obtain⟨it,fp,tn,J,H2,e,I2,T,st2,f2,k⟩:=h2
 subst e
 refine vB (RR:=fun acc C=>compPost (model X.prog X.w) X.A X.xe none (EP X pins σ Q) acc C) hc S I2 T st2 f2 hg ht he k ?_
 intro l C m s' H' I' hn hC h1 h2 h3 h4 q
 exact⟨m,hn,fun h' hb=>⟨.ref l,H',I'.turned (t':=s'.toks) (it:=C) (fun b o hbC e=>hb.extBut b o hbC e) hC (Qy (Qy h1)) (.inr h2) h3 h4,rfl,q⟩⟩
theorem nY{i:Nat}{x:PH}{pos' spos:Qi}(hN:X.N.Nodup)(hxi:X.N[i]?=some x)(hx:Loc X.env.scope x)(hc:X.calm=true)(S:tV X.N X.env.scope N scope mp)(hi:PI X tg iter wi)
  (hg:∀C cl s H fp pins,PG (fk X N scope C cl s H fp pins) tg g) (ht:∀C cl s H fp pins,JI (fk X N scope C cl s H fp pins) ifs tt) (he:∀C cl s H fp pins,PE (fk X N scope C cl s H fp pins) elt te)
  (hsw:swapsWith (.ListComp elt [⟨tg,iter,ifs,0⟩] scope pos) (some (.Name x pos')) spos.line X.env=pure true)
  (hf:X.fn x=true\/X.env.scope.names.lookup x=some .local:=by first|exact .inl rfl|exact .inr rfl|assumption)
  (hs:∀x,foldedSetIterable iter X.env x=pure x:=by intro _;rfl):PS X (.Assign [.Name x pos'] (.ListComp elt [⟨tg,iter,ifs,0⟩] scope pos) spos) (bG (bO mp wi g tt te) (au i)):=by
 intro pins s σ H D I h
 have hfree:∀y∈scope.names,y.2=.free->∃c,X.env.cells.lookup y.1=some c:=fun y hy hf=>I.ok.has y.1 (S.free y hy hf)
 rw[exec_Assign_Name_used _ _ _ _ hsw]
 refine PR (wpAny_standAt (PR ?_))
 show PQ _ _ (do let _ <-comprehension (.ListComp elt [⟨tg,iter,ifs,0⟩] scope pos) scope X.env _ (newList []) false (eval iter X.env) (some (assign (.Name x pos') X.env))) _ _ s
 refine PR (Q5 (wpAny_comprehension_free (use:=some (assign (.Name x pos') X.env)) (Q:=fun _ s'=>SP X pins D .next s') rfl hs (lN hfree) S.kind (fun x hx e=>ed S.nd (by rw[<-e];exact hx)) ?_) (fun _ s' hq=>Qh (Qh hq)) fun _ _ e=>e)
 refine cI (hi pins s σ H _ I h) fun v s1 h1=>cI h1 fun itv s2 h2=>?_
 obtain⟨it,fp,tn,J,H2,e,I2,T,st2,f2,k⟩:=h2
 subst e
 refine vB (Q:=fun y H1=>au i y σ H1 D.nx) (RR:=fun acc C=>compPost (model X.prog X.w) X.A X.xe (some (assign (.Name x pos') X.env)) (fun _ s'=>SP X pins D .next s') acc C) hc S I2 T st2 f2 hg ht he k ?_
 intro l C m s' H' I' hn hC h1 h2 h3 h4 q
 show PQ _ _ (assign (.Name x pos') X.env (.ref l)) _ _ _
 refine wpAny_assign_Name (zL I' hN hxi hx (v:=.ref l) rfl (fun s'' I'' ⟨a,hsb,ha⟩=>?_) hf)
 have hCa:C≠a:=by
  rcases ha with z|z
  ·rw[z];exact h1
  ·exact fun y=>h3 x a z y.symm
 exact⟨m,hn.sameBut hsb hCa,fun h' hb=>⟨_,H',I''.turned (t':=s''.toks) (it:=C) (fun b o hbC e=>hb.extBut b o hbC e) hC (Qy (Qy h1)) (.inr h2) h3 h4,q⟩⟩
end
section
variable {mp:List (Option Nat)}{g:TG}{tt:TT}{te:TE}{σ:St}{H:Hp}{Q:VK}
theorem Hg{K:PM}{a:PK}{xs:List V}(Pv:PK->Nat->List V->St->Hp->Prop)(h0:∀l,H l=none->Pv l 0 [] (c6 mp σ) (upd H l (.lst [])))
  (hl:∀l i acc σ' H',H l=none->Pv l i acc σ' H'->aY K H' a xs/\acc.length<=i)
  (hs:∀l i x acc σ' H',H l=none->xs[i]?=some x->Pv l i acc σ' H'->g x σ' H' fun σ2 H3=>tt σ2 H3 fun b H4=>if b=true then te σ2 H4 fun v H5=>H5 l=some (.lst acc)/\Pv l (i+1) (acc++[v]) σ2 (upd H5 l (.lst (acc++[v])))else Pv l (i+1) acc σ2 H4)
  (hd:∀l acc σ' H',H l=none->Pv l xs.length acc σ' H'->Q (.ref l) H') (hz:xs.length<=PZ):dq mp g tt te (Hw K a) σ H Q:=by
 intro l hn
 exists fun i m acc σ H=>m=xs.length-i/\i<=xs.length/\Pv l i acc σ H,⟨xs.length,by simp,Q3 _,h0 l hn⟩
 rintro i m acc σ' H' ⟨rfl,hi,p⟩
 obtain⟨q,ha⟩:=hl l i acc σ' H' hn p
 by_cases hlt:i<xs.length
 ·refine .inr ⟨⟨xs,xs[i],q,by simp[hlt]⟩,by omega,Pv l (i+1),fun acc' σ2 H2 p'=>⟨xs.length-(i+1),by omega,rfl,hlt,p'⟩,fun x H2 y=>?_⟩
  obtain⟨e,y⟩:=y
  subst e
  exact hs l i x acc σ' _ hn (y xs q) p
 ·have e:i=xs.length:=by omega
  subst e
  exact .inl ⟨⟨xs,q,Qe _⟩,hd l acc σ' H' hn p⟩
theorem Ey{lo:Int}{n:Nat}(Pv:PK->Nat->List V->St->Hp->Prop)(h0:∀l,H l=none->Pv l 0 [] (c6 mp σ) (upd H l (.lst [])))
  (hl:∀l i acc σ' H',H l=none->Pv l i acc σ' H'->acc.length<=i)
  (hs:∀l i acc σ' H',H l=none->i<n->Pv l i acc σ' H'->g (.int (lo+i)) σ' H' fun σ2 H3=>tt σ2 H3 fun b H4=>if b=true then te σ2 H4 fun v H5=>H5 l=some (.lst acc)/\Pv l (i+1) (acc++[v]) σ2 (upd H5 l (.lst (acc++[v])))else Pv l (i+1) acc σ2 H4)
  (hd:∀l acc σ' H',H l=none->Pv l n acc σ' H'->Q (.ref l) H') (hz:n<=PZ):dq mp g tt te (HA lo n) σ H Q:=by
 intro l hn
 exists fun i m acc σ H=>m=n-i/\i<=n/\Pv l i acc σ H,⟨n,by simp,Q3 _,h0 l hn⟩
 rintro i m acc σ' H' ⟨rfl,hi,p⟩
 have ha:=hl l i acc σ' H' hn p
 by_cases hlt:i<n
 ·refine .inr ⟨hlt,by omega,Pv l (i+1),fun acc' σ2 H2 p'=>⟨n-(i+1),by omega,rfl,hlt,p'⟩,fun x H2 y=>?_⟩
  obtain⟨e,y⟩:=y
  subst e y
  exact hs l i acc σ' _ hn hlt p
 ·have e:i=n:=by omega
  subst e
  exact .inl ⟨Qe _,hd l acc σ' H' hn p⟩
end
section
variable {X:Cx}
theorem vy(hc:X.calm=true):fJ X (.builtin "sum") (fun xs H Q=>∃(p:PK)(ns:List Int),xs=[.ref p]/\aY X.K H p (ns.map V.int)/\Q (.int ns.sum) H):=by
 intro pins s σ H xs us Q I r h
 obtain⟨p,ns,rfl,hS,q⟩:=h
 obtain⟨u,rfl,ru⟩:=vals1 r
 cases ru
 obtain⟨its,rv,pl,hz⟩:=I.list hS
 have hi:SE its ns:=intsAre_of rv
 have hall:AllInts its.toArray:=hi.allInts
 obtain⟨zs,ez⟩:=hall.items
 have hl:s.heap.IsList p (intItems zs):=by rw[<-ez];exact pl.isList
 refine sum_intListG (I.ok.hd hc) hl fun h' tk t' k=>⟨.int ns.sum,H,I.kept k,⟨t',?_⟩,q⟩
 have e1:ns=numsOf (intItems zs).toList:=by rw[<-ez];exact hi.numsOf.symm
 rw[e1,nums_intItems,preSum_eq,RI (by simp)]
theorem tF:fJ X (.builtin "sorted") (fun xs H Q=>∃(p:PK)(ns:List Int),xs=[.ref p]/\aY X.K H p (ns.map V.int)/\ns.length<64/\∀(l:PK)(ms:List Int),H l=none->ms.Perm ns->ms.Pairwise (·<=·)->Q (.ref l) (upd H l (.lst (ms.map V.int)))):=by
 intro pins s σ H xs us Q I r h
 obtain⟨p,ns,rfl,hS,h64,q⟩:=h
 obtain⟨u,rfl,ru⟩:=vals1 r
 cases ru
 obtain⟨its,rv,pl,hz⟩:=I.list hS
 have hi:SE its ns:=intsAre_of rv
 have hl:=hi.length
 refine sorted_ints pl.isList hi (by omega) fun out ms a1 a2 a3=>?_
 obtain⟨e,he⟩:=sortedAll_at s.heap its out
 have hf:H (s.heap.objs.size+1)=none:=I.hok.fresh (Rz _)
 refine⟨.ref (s.heap.objs.size+1),_,I.laid (t':=s.toks) (a:=s.heap.objs.size+1) (o:=.lst (ms.map V.int)) (fun b u e=>sortedAll_old e) (Rz _) ⟨?_,out.toList,e,rY a1,?_⟩,rfl,q _ ms hf a2 a3⟩
 ·rw[P7,a2.length_eq]
  exact P6 (SN h64) (by decide)
 ·rw[VH]
  exact he
theorem wV(hc:X.calm=true):fJ X (.builtin "all") (fun xs H Q=>∃(p:PK)(bs:List Bool),xs=[.ref p]/\aY X.K H p (bs.map V.bl)/\Q (.bl (bs.all id)) H):=by
 intro pins s σ H xs us Q I r h
 obtain⟨p,bs,rfl,hS,q⟩:=h
 obtain⟨u,rfl,ru⟩:=vals1 r
 cases ru
 obtain⟨its,rv,pl,hz⟩:=I.list hS
 have hlt:p<s.heap.objs.size:=by obtain⟨_,e,_⟩:=pl.isList;exact Qk e
 have hlen:its.length=bs.length:=by rw[<-rv.length,P7]
 refine call_all_walk (UR pl.isList ?_)
 refine⟨s.heap.objs.size,_,_,_,_,_,fun i=>(bs[i]?).getD true,rfl,Xb (A:=X.A.in1) (I.ok.hd hc) _ p (Qt hlt) its.toArray,⟨⟨_,Qz _ rfl,rfl,rfl⟩,pl.isList.push _⟩,?_,fun h' tk hk=>?_⟩
 ·intro i v s' Q' E' hv hq
  have hv':its[i]?=some v:=by simpa using hv
  have hi:i<bs.length:=by rw[<-hlen];exact(QN.mp hv').1
  have e1:(bs.map V.bl)[i]?=some (V.bl bs[i]):=by simp[hi]
  obtain⟨w',h1,h2⟩:=rv.get e1
  rw[hv']at h1
  cases h1
  have h2:v=Sk bs[i]:=h2
  subst h2
  have e2:(bs[i]?).getD true=bs[i]:=by simp[hi]
  have hq:Q' ((bs[i]?).getD true) s':=hq
  rw[e2]at hq
  exact Tn hq
 ·have e3:((P4 its.toArray.size).all fun i=>(bs[i]?).getD true)=bs.all id:=by
   rw[Q0,hlen]
   apply Ri.mpr
   rw[Ru,Ru]
   constructor
   ·intro hh b hb
    obtain⟨i,hi,e⟩:=Tq hb
    have:=hh i (Q6.mpr hi)
    simp[hi]at this
    rw[<-e]
    simpa using this
   ·intro hh i hi
    have hi':=Q6.mp hi
    have:=hh bs[i] (RC hi')
    simpa[hi']using this
  rw[e3]
  exact⟨.bl (bs.all id),H,I.kept fun b o e=>hk b o (by simp;exact Qt (Qk e)) (Qr _ e),rfl,q⟩
end
noncomputable def gT:R2:=Dk fun i j=>.int (i+j)
noncomputable def BZ:R2:=Dk fun i j=>.int (i-j)
noncomputable def nt:Int:=10 ^ 1000
theorem CB{i:Int}(h1:-nt<i)(h2:i<nt):i.natAbs.log2<4000:=by
 have e:nt<=2 ^ 4000:=by decide +kernel
 rcases Wr i.natAbs with h0|hp
 ·rw[h0];decide +kernel
 ·refine(Vn (Ro hp)).mpr ?_
  have:(i.natAbs:Int)<2 ^ 4000:=by omega
  exact_mod_cast this
theorem zh{i:Int}(h1:-nt<i)(h2:i<nt):Wn i<=2 ^ 20:=by
 have h:=CB h1 h2
 have e:(4001:Nat)<=2 ^ 20:=by decide
 unfold Wn
 split
 ·exact Q3 _
 ·omega
noncomputable def IB(i j:Int):Prop:=Ls i j\/((-nt<i/\i<nt)/\-nt<j/\j<nt)
theorem IB.ok{i j:Int}(h:IB i j):IntMulOk i j:=h.elim Ls.ok fun h=>.of_bits (zh h.1.1 h.1.2) (zh h.2.1 h.2.2)
noncomputable def NN(_ j:Int):Prop:=0<j/\j<nt
theorem Dc:(1073741824:Int)<nt:=by decide +kernel
noncomputable def qO:R2:=rI IB fun i j=>.int (i*j)
noncomputable def oDiv:R2:=rI NN fun i j=>.int (i/j)
noncomputable def oMod:R2:=rI (fun _ j=>0<j) fun i j=>.int (i%j)
noncomputable def oLt:R2:=Dk fun i j=>.bl (decide (i<j))
noncomputable def oLe:R2:=Dk fun i j=>.bl (decide (i<=j))
noncomputable def OV:R2:=Dk fun i j=>.bl (decide (j<i))
noncomputable def OQ:R2:=Dk fun i j=>.bl (decide (j<=i))
noncomputable def KL:R2:=fun x y H Q=>y=.non/\Q (.bl (decide (x=.non))) H
noncomputable def IQ:R2:=fun x y H Q=>y=.non/\Q (.bl (!decide (x=.non))) H
noncomputable def gQ(K:PM):List V->Hp->VK->Prop:=fun xs H Q=>∃p ys,xs=[.ref p]/\(aY K H p ys\/kN K H p ys)/\Q (.int ys.length) H
noncomputable def Gz(K:PM):List V->Hp->VK->Prop:=fun xs H Q=>∃(p:PK)(ns:List Int),xs=[.ref p]/\aY K H p (ns.map V.int)/\Q (.int ns.sum) H
noncomputable def Fx(K:PM):List V->Hp->VK->Prop:=fun xs H Q=>∃(p:PK)(ns:List Int),xs=[.ref p]/\aY K H p (ns.map V.int)/\ns.length<64/\∀(l:PK)(ms:List Int),H l=none->ms.Perm ns->ms.Pairwise (·<=·)->Q (.ref l) (upd H l (.lst (ms.map V.int)))
noncomputable def HC(K:PM):List V->Hp->VK->Prop:=fun xs H Q=>∃(p:PK)(bs:List Bool),xs=[.ref p]/\aY K H p (bs.map V.bl)/\Q (.bl (bs.all id)) H
noncomputable def Ow:List V->Hp->VK->Prop:=fun xs H Q=>∃i j,xs=[.int i,.int j]/\Q (.int (if j<i then j else i)) H
noncomputable def Aw(K:PM):List V->Hp->VK->Prop:=fun xs H Q=>∃p ys,xs=[.ref p]/\(aY K H p ys\/kN K H p ys)/\∀l,H l=none->Q (.ref l) (upd H l (.lst ys))
section
variable {X:Cx}
theorem cJ:je X (Rw .Add) gT:=ML
theorem Ba:je X (Rw .Sub) BZ:=Mr
theorem jq:je X (Rw .Mult) qO:=OP fun _ _ _ _ _ _ _ hc q=>mul_int q hc.ok
theorem dG:je X (Rw .FloorDiv) oDiv:=OP fun i j _ _ _ _ _ hc q=>by
 have h1:(0:Int)<j:=hc.1
 have h2:j<nt:=hc.2
 have h3:-nt<j:=by have:=Dc;omega
 exact floordiv_int (by omega) (by rw[Int.fdiv_eq_ediv_of_nonneg i (by omega)];exact q) (.inl (Zq (Uy (CB h3 h2) (by decide))))
theorem br:je X (Rw .Mod) oMod:=M5
theorem Je:je X (R6 .Add) gT:=Ku
theorem Dh:je X (R6 .Sub) BZ:=Ki
theorem HU:je X (R6 .Mult) qO:=OP fun _ _ _ _ _ _ _ hc q=>imul_int q hc.ok
theorem DC:je X (QP .Lt) oLt:=Oc
theorem z9:je X (QP .LtE) oLe:=Om
theorem IZ:je X (QP .Gt) OV:=OE
theorem IM:je X (QP .GtE) OQ:=NX
end
structure tN(mg:PH->Option PL)(x:PH)(i:Int):Prop where
 ex:∃t,mg x=some (.int i t)
theorem tN.pe{X:Cx}{x:PH}{i:Int}{pos:Qi}(k:tN X.mg x i)(hg:Gl X x)(hd:(x==("__debug__":PH))=false:=by decide):PE X (.Name x pos) (tC (.int i)):=by
 obtain⟨t,e⟩:=k.ex
 exact Bb hg e ⟨t,rfl⟩ hd
theorem Mp{K:PM}{mg:PH->Option PL}{h:P0}{x:PH}{i:Int}{t:Tok}(X:K.In h)(G:h.Ns QH mg)(z:Rm K QH x=some (some (.int i t))):tN mg x i:=⟨t,So X G z⟩
theorem av.upd{H H':Hp}(e:av H H'){l:PK}{o:HO}(h:H l=none):av H (upd H' l o):=fun b u q=>by
 rw[ak (bc q h)]
 exact e b u q
theorem av.updN{H:Hp}{l:PK}{o:HO}(h:H l=none):av H (L2.upd H l o):=fun b u q=>by
 rw[ak (bc q h)]
 exact q
theorem av.seqT{K:PM}{H H':Hp}{a:PK}{xs:List V}(e:av H H')(h:kN K H a xs):kN K H' a xs:=by
 rcases h with(h|⟨o,h⟩)|h
 ·exact .inl (.inl (e _ _ h))
 ·exact .inl (.inr ⟨o,e _ _ h⟩)
 ·exact .inr h
section
variable {mp:List (Option Nat)}{te:TE}{tt:TT}{σ:St}{H:Hp}{Q:VK}
theorem take_snoc{α:Type}{xs:List α}{i:Nat}{x:α}(h:xs[i]?=some x):xs.take (i+1)=xs.take i++[x]:=by
 rw[Us,h]
 rfl
theorem GJ{K:PM}{a:PK}{xs:List V}(R:V->V->Prop)(caps:St)(hlift:c6 mp σ=none::caps)(hx:aY K H a xs)(hz:xs.length<=PZ)
  (hel:∀x∈xs,∀(H':Hp)(G:VK),av H H'->(∀v H'',R x v->av H' H''->G v H'')->te (some x::caps) H' G)
  (hd:∀l ys H',H l=none->av H H'->H' l=some (.lst ys)->Qd R xs ys->Q (.ref l) H'):dq mp (au 0) dv te (Hw K a) σ H Q:=by
 refine Hg (xs:=xs) (fun l i acc σ' H'=>av H H'/\H' l=some (.lst acc)/\Qd R (xs.take i) acc/\acc.length<=i/\∃v,σ'=v::caps) (fun l hl=>⟨av.updN hl,ax,by simpa using Yw,Qe _,none,hlift⟩) ?_ ?_ ?_ hz
 ·rintro l i acc σ' H' _ ⟨s,_,_,h,_⟩
  exact⟨s.seq hx,h⟩
 ·rintro l i x acc σ' H' hl hi ⟨s,h1,h2,h3,v,rfl⟩
  simp only[au,dv,Xc]
  rw[if_pos trivial]
  refine hel x (Tv hi) H' _ s fun v H'' r s'=>⟨s' _ _ h1,(s.trans s').upd hl,ax,?_,?_,some x,rfl⟩
  ·rw[take_snoc hi]
   exact h2.snoc r
  ·rw[QU,R9]
   omega
 ·rintro l acc σ' H' hl ⟨s,h1,h2,_⟩
  rw[U2]at h2
  exact hd l acc H' hl s h1 h2
theorem NI{lo:Int}{n:Nat}(R:Nat->V->Prop)(caps:St)(hlift:c6 mp σ=none::caps)(hz:n<=PZ)
  (hel:∀i,i<n->∀(H':Hp)(G:VK),av H H'->(∀v H'',R i v->av H' H''->G v H'')->te (some (.int (lo+i))::caps) H' G)
  (hd:∀l ys H',H l=none->av H H'->H' l=some (.lst ys)->Qd R (P4 n) ys->Q (.ref l) H'):dq mp (au 0) dv te (HA lo n) σ H Q:=by
 refine Ey (fun l i acc σ' H'=>av H H'/\H' l=some (.lst acc)/\Qd R (P4 i) acc/\acc.length<=i/\∃v,σ'=v::caps) (fun l hl=>⟨av.updN hl,ax,by simpa using Yw,Qe _,none,hlift⟩) ?_ ?_ ?_ hz
 ·rintro l i acc σ' H' _ ⟨s,_,_,h,_⟩
  exact h
 ·rintro l i acc σ' H' hl hi ⟨s,h1,h2,h3,v,rfl⟩
  simp only[au,dv,Xc]
  rw[if_pos trivial]
  refine hel i hi H' _ s fun v H'' r s'=>⟨s' _ _ h1,(s.trans s').upd hl,ax,?_,?_,some _,rfl⟩
  ·rw[S9]
   exact h2.snoc r
  ·rw[QU,R9]
   omega
 ·rintro l acc σ' H' hl ⟨s,h1,h2,_⟩
  exact hd l acc H' hl s h1 h2
end
section
variable {K:PM}{D:Ends}{σ:St}{H:Hp}{Q:VK}{QB:Bool->Hp->Prop}{QA:List V->Hp->Prop}{t u:TS}{te ta tb tc:TE}{c d:TT}{tl:TA}{i j:Int}{k n:Nat}{v x y:V}{r r':R2}{E:XK}
theorem E3(h:t {D with nx:=u D} σ H):aE t u D σ H:=h
theorem Ox(P:St->Hp->Prop)(h1:∀F:St->Hp->Prop,(∀σ' H',P σ' H'->F σ' H')->t {D with nx:=F} σ H)(h2:∀σ' H',P σ' H'->u D σ' H'):aE t u D σ H:=h1 _ h2
theorem Fk(h:te σ H fun x H1=>D.nx (σ.set n (some x)) H1):bG te (au n) D σ H:=h
theorem N9(h:c σ H fun b H1=>if b=true then t D σ H1 else u D σ H1):cm c t u D σ H:=h
theorem Fm(h:te σ H D.rt):bB te D σ H:=h
theorem MQ(h:D.nx σ H):bS D σ H:=h
theorem Mn(h:te σ H fun _ H1=>D.nx σ H1):cR te D σ H:=h
theorem Pz(h:Q v H):tC v σ H Q:=h
theorem O0(h:ta σ H fun x H1=>tb σ H1 fun y H2=>r x y H2 Q):aN r ta tb σ H Q:=h
theorem NT(h:Q (.int (i+j)) H):gT (.int i) (.int j) H Q:=⟨i,j,rfl,rfl,h⟩
theorem Oy(h:Q (.int (i-j)) H):BZ (.int i) (.int j) H Q:=⟨i,j,rfl,rfl,h⟩
theorem JD(h1:-(2 ^ 64)<i)(h2:i<2 ^ 64)(h:Q (.int (i*j)) H):qO (.int i) (.int j) H Q:=⟨i,j,rfl,rfl,.inl (.inl ⟨h1,h2⟩),h⟩
theorem Ma(h1:-(2 ^ 64)<j)(h2:j<2 ^ 64)(h:Q (.int (i*j)) H):qO (.int i) (.int j) H Q:=⟨i,j,rfl,rfl,.inl (.inr ⟨h1,h2⟩),h⟩
theorem LY(h1:0<j)(h2:j<1073741824)(h:Q (.int (i/j)) H):oDiv (.int i) (.int j) H Q:=⟨i,j,rfl,rfl,⟨h1,Int.lt_trans h2 Dc⟩,h⟩
theorem Jw(h1:0<j)(h2:j<nt)(h:Q (.int (i/j)) H):oDiv (.int i) (.int j) H Q:=⟨i,j,rfl,rfl,⟨h1,h2⟩,h⟩
theorem LQ(h1:0<j)(h:Q (.int (i%j)) H):oMod (.int i) (.int j) H Q:=⟨i,j,rfl,rfl,h1,h⟩
theorem O1(h:Q (.bl (decide (i<j))) H):oLt (.int i) (.int j) H Q:=⟨i,j,rfl,rfl,h⟩
theorem O3(h:Q (.bl (decide (i<=j))) H):oLe (.int i) (.int j) H Q:=⟨i,j,rfl,rfl,h⟩
theorem Pb(h:Q (.bl (decide (j<i))) H):OV (.int i) (.int j) H Q:=⟨i,j,rfl,rfl,h⟩
theorem O7(h:Q (.bl (decide (j<=i))) H):OQ (.int i) (.int j) H Q:=⟨i,j,rfl,rfl,h⟩
theorem J5:decide (V.int i=V.int j)=decide (i=j):=by
 by_cases h:i=j
 ·subst h;simp
 ·rw[decide_eq_false h,decide_eq_false fun z=>h (V.int.inj z)]
theorem Pe(h:Q (.bl (decide (i=j))) H):oA (.int i) (.int j) H Q:=⟨rfl,by rw[J5];exact h⟩
theorem Pp(h:Q (.bl (!decide (i=j))) H):LL (.int i) (.int j) H Q:=⟨rfl,by rw[J5];exact h⟩
theorem NZ(h:Q (.bl (decide (x=.non))) H):KL x .non H Q:=⟨rfl,h⟩
theorem Nt(h:Q (.bl (!decide (x=.non))) H):IQ x .non H Q:=⟨rfl,h⟩
theorem M8(h:te σ H fun x H'=>∃k,x=.bl k/\QB k H'):bA te σ H QB:=h
theorem OY(h:te σ H fun x H1=>∃c,x=.bl c/\QB c H1):tB te σ H QB:=h
theorem O5{b:Bool}{P:Bool->Prop}(h:P b):∃k,V.bl b=.bl k/\P k:=⟨b,rfl,h⟩
theorem Oe(h:c σ H fun b H1=>if b=true then d σ H1 QB else QB false H1):HH c d σ H QB:=h
theorem Pl(h:c σ H fun b H1=>if b=true then QB true H1 else d σ H1 QB):N3 c d σ H QB:=h
theorem OJ(h:c σ H fun b H1=>QB (!b) H1):CY c σ H QB:=h
theorem Ml(h:ta σ H fun x H1=>∃c,x=.bl c/\if c=true then tb σ H1 Q else Q (.bl false) H1):E8 ta tb σ H Q:=h
theorem Pk(h:c σ H fun b H1=>if b=true then ta σ H1 Q else tb σ H1 Q):N4 c ta tb σ H Q:=h
theorem OA(h:QA [] H):az σ H QA:=h
theorem Nf(h:te σ H fun x H1=>tl σ H1 fun xs H2=>QA (x::xs) H2):ae te tl σ H QA:=h
theorem MV{sp:Sp}(h:tl σ H fun vs H1=>sp vs H1 Q E):bf sp [] E tl σ H Q:=by
 show tl σ H fun vs H1=>sp (vs++[]) H1 Q E
 simpa only[TR]using h
theorem Ph{q:List V->Hp->VK->Prop}(h:tl σ H fun vs H1=>q vs H1 Q):gr q tl σ H Q:=h
theorem NL(h:Q (.int (min i j)) H):Ow [.int i,.int j] H Q:=⟨i,j,rfl,by
 have e:(if j<i then j else i)=min i j:=by omega
 rw[e];exact h⟩
theorem L5{p:PK}{ys:List V}(hs:aY K H p ys)(h:Q (.int ys.length) H):gQ K [.ref p] H Q:=⟨p,ys,rfl,.inl hs,h⟩
theorem LM{p:PK}{ns:List Int}(hs:aY K H p (ns.map V.int))(h:Q (.int ns.sum) H):Gz K [.ref p] H Q:=⟨p,ns,rfl,hs,h⟩
theorem cz{p:PK}{xs:List V}(hs:aY K H p xs)(ha:xU xs i=some v)(h:Q v H):cu K (.ref p) (.int i) H Q:=⟨p,xs,i,v,rfl,rfl,hs,ha,h⟩
noncomputable def JB(g:TG)(tb:TS)(D:Ends)(J:It)(σ:St)(H:Hp):Prop:=∃W:Nat->Nat->St->Hp->Prop,(∃m,W 0 m σ H)/\∀i m σ H,W i m σ H->
 (J.stop i H/\D.nx σ H)\/(J.go i H/\∃N:St->Hp->Prop,(∀σ' H',N σ' H'->∃m',m'<m/\W (i+1) m' σ' H')/\∀x H',J.yld i H x H'->g x σ H' fun σ2 H2=>tb {D with nx:=N,ct:=N,bk:=D.nx} σ2 H2)
theorem Ol{wi:TI}{g:TG}(h:wi σ H fun J H1=>JB g t D J σ H1):pK wi g t D σ H:=h
theorem MI{R:It->Hp->Prop}(h:tl σ H fun vs H1=>∃j:Int,vs=[.int j]/\-(2 ^ 62)<=j/\j<2 ^ 62/\R (HA 0 j.toNat) H1):nG tl σ H R:=h
theorem LH{P:Int->Prop}(h1:-(2 ^ 62)<=i)(h2:i<2 ^ 62)(h:P i):∃j:Int,([.int i]:List V)=[.int j]/\-(2 ^ 62)<=j/\j<2 ^ 62/\P j:=⟨i,rfl,h1,h2,h⟩
theorem Mh{R:It->Hp->Prop}(h:tl σ H fun vs H1=>∃i j:Int,vs=[.int i,.int j]/\(-(2 ^ 62)<=i/\i<2 ^ 62/\-(2 ^ 62)<=j/\j<2 ^ 62)/\R (HA i (j-i).toNat) H1):Fl tl σ H R:=h
theorem La{P:Int->Int->Prop}(h1:-(2 ^ 62)<=i)(h2:i<2 ^ 62)(h3:-(2 ^ 62)<=j)(h4:j<2 ^ 62)(h:P i j):∃i' j':Int,([.int i,.int j]:List V)=[.int i',.int j']/\(-(2 ^ 62)<=i'/\i'<2 ^ 62/\-(2 ^ 62)<=j'/\j'<2 ^ 62)/\P i' j':=⟨i,j,rfl,⟨h1,h2,h3,h4⟩,h⟩
theorem Ly{R:It->Hp->Prop}(h:te σ H fun x H1=>∃a,x=.ref a/\(∃xs,aY K H1 a xs)/\R (Hw K a) H1):dm K te σ H R:=h
theorem fj{P:PK->Prop}{a:PK}{xs:List V}(hs:aY K H a xs)(h:P a):∃b,V.ref a=.ref b/\(∃xs,aY K H b xs)/\P b:=⟨a,rfl,⟨xs,hs⟩,h⟩
theorem Pa{q:V->Option Int->Option Int->Hp->VK->Prop}{lo hi:TO}(h:te σ H fun x H1=>lo σ H1 fun l H2=>hi σ H2 fun u H3=>q x l u H3 Q):u1 q te lo hi σ H Q:=h
theorem Nd{R:Option Int->Hp->Prop}(h:te σ H fun x H1=>∃i,x=.int i/\R (some i) H1):dA te σ H R:=h
theorem Kv{P:Int->Prop}(h:P i):∃j,V.int i=.int j/\P j:=⟨i,rfl,h⟩
theorem HZ{R:Option Int->Hp->Prop}(h:R none H):cy σ H R:=h
theorem mK{mp:List (Option Nat)}{wi:TI}{g:TG}(h:wi σ H fun J H1=>dq mp g c te J σ H1 Q):bO mp wi g c te σ H Q:=h
theorem O4{T:String}{q:V->List V->Hp->VK->Prop}(h:te σ H fun x H1=>LS K T x H1/\tl σ H1 fun xs H2=>q x xs H2 Q):Dl K T q te tl σ H Q:=h
theorem OG{T:String}{q:V->List V->Hp->VK->Prop}(h:te σ H fun x H1=>LS K T x H1/\q x [] H1 Q):Ik K T q te σ H Q:=h
theorem KC(h:ta σ H fun x H1=>tb σ H1 fun y H2=>r x y H2 fun z H3=>∃k,z=.bl k/\(if k=true then tc σ H3 fun w' H4=>r' y w' H4 Q else Q (.bl false) H3)):AB r r' ta tb tc σ H Q:=h
end
end L2
namespace L2
end L2
namespace L2
open PySem PySem.Spec PyProof.Rows
noncomputable def Pf(lo step:Int)(n:Nat):It:=⟨fun i _=>i<n,fun i H x H'=>H'=H/\x=.int (lo+i*step),fun i _=>n<=i⟩
section
variable {X:Cx}{tg:PY}
end
theorem MF{lo step:Int}{n:Nat}{g:TG}{tb:TS}{D:Ends}{σ:St}{H:Hp}(Pv:Nat->St->Hp->Prop)(h0:Pv 0 σ H)
  (hs:∀i σ H,i<n->Pv i σ H->g (.int (lo+i*step)) σ H fun σ2 H2=>tb {D with nx:=Pv (i+1),ct:=Pv (i+1),bk:=D.nx} σ2 H2) (hd:∀σ H,Pv n σ H->D.nx σ H):JB g tb D (Pf lo step n) σ H:=by
 exists fun i m σ H=>m=n-i/\i<=n/\Pv i σ H,⟨n,by simp,Q3 _,h0⟩
 rintro i m σ H ⟨rfl,hi,p⟩
 by_cases hlt:i<n
 ·refine .inr ⟨hlt,Pv (i+1),fun σ' H' p'=>⟨n-(i+1),by omega,rfl,hlt,p'⟩,fun x H' y=>?_⟩
  obtain⟨e,y⟩:=y
  subst e y
  exact hs i σ _ hlt p
 ·have e:i=n:=by omega
  subst e
  exact .inl ⟨Qe _,hd σ H p⟩
mutual
inductive eF(K:PM)(H:Hp):V->Qx->Prop
 |non:eF K H .non .none
 |bl (b:Bool):eF K H (.bl b) (.bool b)
 |int (i:Int):eF K H (.int i) (.int i)
 |str (x:PH):eF K H (.str x) (.str x)
 |lst {a:PK}{xs:List V}{ds:List Qx}:aY K H a xs->DatAll K H xs ds->eF K H (.ref a) (.list ds)
 |tup {a:PK}{xs:List V}{ds:List Qx}:kN K H a xs->DatAll K H xs ds->eF K H (.ref a) (.tuple ds)
inductive DatAll(K:PM)(H:Hp):List V->List Qx->Prop
 |nil:DatAll K H [] []
 |cons {x:V}{xs:List V}{d:Qx}{ds:List Qx}:eF K H x d->DatAll K H xs ds->DatAll K H (x::xs) (d::ds)
end
section
variable {X:Cx}{pins:List (PK×PV)}{σ:St}{H:Hp}{s:PN}
mutual
theorem fK(I:Inv X pins σ H s):∀{x:V}{d:Qx}{u:PL},eF X.K H x d->RelV x u->∃as,Reads s.heap u d as
 |_,_,_,.non,r=>by cases r;exact⟨_,.none⟩
 |_,_,_,.bl b,r=>by cases r;exact⟨_,.bool b⟩
 |_,_,_,.int i,r=>by obtain⟨t,rfl⟩:=r;exact⟨_,.int i t⟩
 |_,_,_,.str x,r=>by obtain⟨t,rfl⟩:=r;exact⟨_,.str x t⟩
 |_,_,_,.lst hS all,r=>by
  cases r
  obtain⟨its,rv,pl,_⟩:=I.list hS
  obtain⟨o,ho,hc,n,hd⟩:=pl.isList
  obtain⟨as,q⟩:=sG I all rv
  exact⟨_,Reads.list ho hc hd (by simpa using q)⟩
 |_,_,_,.tup hS all,r=>by
  cases r
  obtain⟨its,rv,pl,_⟩:=I.tuple hS
  obtain⟨o,ho,hc,n,hd⟩:=pl
  obtain⟨as,q⟩:=sG I all rv
  exact⟨_,Reads.tuple ho hc hd (by simpa using q)⟩
theorem sG(I:Inv X pins σ H s):∀{xs:List V}{ds:List Qx}{us:List PL},DatAll X.K H xs ds->bR xs us->∃as,ReadsAll s.heap us ds as
 |_,_,_,.nil,r=>by cases r;exact⟨_,.nil⟩
 |_,_,_,.cons h t,r=>by
  cases r with
  |cons r1 r2=>
   obtain⟨as,a⟩:=fK I h r1
   obtain⟨bs,b⟩:=sG I t r2
   exact⟨_,.cons a b⟩
end
end
noncomputable def vk(K:PM)(neg:Bool):R2:=fun x y H Q=>∃d e,eF K H x d/\eF K H y e/\Sg d=true/\Sg e=true/\Rl d e=true/\Q (.bl (same d e != neg)) H
section
variable {X:Cx}
theorem Eg(hu:X.A.units+64<cLine):je X (QP .Eq) (vk X.K false):=by
 intro pins s σ H x y v u Q I rx ry h
 obtain⟨d,e,h1,h2,h3,h4,h5,q⟩:=h
 obtain⟨as,a⟩:=fK I h1 rx
 obtain⟨bs,b⟩:=fK I h2 ry
 refine eq_dataH_same a b h3 h4 hu h5 ⟨.bl (same d e),H,I,rfl,?_⟩
 rw[TF]at q
 exact q
theorem iW(hu:X.A.units+64<cLine):je X (QP .NotEq) (vk X.K true):=by
 intro pins s σ H x y v u Q I rx ry h
 obtain⟨d,e,h1,h2,h3,h4,h5,q⟩:=h
 obtain⟨as,a⟩:=fK I h1 rx
 obtain⟨bs,b⟩:=fK I h2 ry
 refine ne_dataH_same a b h3 h4 hu h5 ⟨.bl (!same d e),H,I,rfl,?_⟩
 rw[TZ]at q
 exact q
end
mutual
theorem qd:∀d:Qx,d.canLay0=true->Rl d d=true
 |.none,_=>by simp[Rl]
 |.bool _,_=>by simp[Rl]
 |.int _,_=>by simp[Rl]
 |.str _,_=>by simp[Rl]
 |.list xs,h=>by rw[Rl];exact jE xs (by rw[RS]at h;exact h)
 |.tuple xs,h=>by rw[Rl];exact jE xs (by rw[RS]at h;exact h)
 |.dict _,h=>by rw[RS]at h;cases h
theorem jE:∀ds:List Qx,SG ds=true->Sv ds ds=true
 |[],_=>by simp[Sv]
 |x::xs,h=>by
  rw[SG,QX]at h
  rw[Sv,qd x h.1,jE xs h.2]
  rfl
end
section
variable {K:PM}{H:Hp}{Q:VK}{x y:V}
theorem NU{d:Qx}(h1:eF K H x d)(h2:eF K H y d)(hs:Sg d=true)(h:Q (.bl true) H):vk K false x y H Q:=
 ⟨d,d,h1,h2,hs,hs,qd d (WH hs),by rw[same_self];exact h⟩
theorem FL{d:Qx}(h1:eF K H x d)(h2:eF K H y d)(hs:Sg d=true)(h:Q (.bl false) H):vk K true x y H Q:=
 ⟨d,d,h1,h2,hs,hs,qd d (WH hs),by rw[same_self];exact h⟩
end
section
variable {X:Cx}
end
noncomputable def LR(K:PM)(a:PK):It:=
 ⟨fun i H=>∃xs x,aY K H a xs/\xs[i]?=some x,fun i H x H'=>∃T y,x=.ref T/\H T=none/\H'=upd H T (.tup [.int i,y])/\∀xs,aY K H a xs->xs[i]?=some y,fun i H=>∃xs,aY K H a xs/\xs.length<=i⟩
theorem Ht{P:Qc}{w:P8}{K:PM}{elts:List PY}{x1}{pos:Qi}(a e it:PK)(hne:e≠it):
  Turn P w K (.Tuple elts x1 pos) (LR K a) [e,it] e (fun i h=>(∃old,IsEnum h e it ((i:Nat):Int) old)/\h.IsListIter it a i) where
 mem:=by simp
 obj:=fun i h st b hb=>by
  obtain⟨⟨old,he⟩,o,ho,hc,hd⟩:=st
  rcases Qa.mp hb with z|hb
  ·subst z
   exact⟨_,he,fun v z=>by
    have z':TH _=SJ v:=z
    cases z'⟩
  ·have z:b=it:=by simpa using hb
   subst z
   exact⟨o,ho,fun v z=>by rw[hd]at z;cases z⟩
 keep:=fun i h h' st k=>by
  obtain⟨⟨old,he⟩,o,ho,r⟩:=st
  exact⟨⟨old,k e (by simp) _ he⟩,o,k it (by simp) _ ho,r⟩
 item:=by
  intro X hP hw hK hc i pins s σ H E I hf st hg
  subst hP hw hK
  obtain⟨⟨old,he⟩,hit⟩:=st
  obtain⟨xs,x,hS,hx⟩:=hg
  obtain⟨its,rv,pl,hz⟩:=I.list hS
  obtain⟨u,hu,ru⟩:=rv.get hx
  obtain⟨f0,f1,f2,f3,f4,f5⟩:=hf e (by simp)
  obtain⟨g0,g1,g2,g3,g4,g5⟩:=hf it (by simp)
  have fT:H s.heap.objs.size=none:=I.fresh
  refine wpAny_pyNext_enum_item he hit pl.isList (x:=u) (by simpa using hu) hne fun h' heo hit' ht hsz hk=>⟨_,rfl,?_⟩
  refine wpAny_letOwnedTupleGo_enum heo fun h2 he2 hs2=>?_
  have hs2:RT e h' h2:=hs2
  have heT:e≠s.heap.objs.size:=Qt (Qk he)
  have oldK:∀b o,b≠e->b≠it->s.heap.get? b=some o->h2.get? b=some o:=fun b o h1 h2' q=>hs2.extBut b o h1 (hk b o h1 h2' q)
  have hT2:h2.get? s.heap.objs.size=some {cls:=.type "tuple",data:=.seq #[.int i s.toks,u]}:=hs2.extBut _ _ (Qy heT) ht
  have neT:∀b o,s.heap.get? b=some o->b≠s.heap.objs.size:=fun b o q=>Qt (Qk q)
  have nH:∀b w',H b=some w'->b≠e/\b≠it:=fun b w' q=>⟨fun z=>(by rw[z,f0]at q;cases q),fun z=>(by rw[z,g0]at q;cases q)⟩
  have I2:Inv X pins σ (upd H s.heap.objs.size (.tup [.int i,x])) {s with heap:=h2,toks:=s.toks+1}:=by
   refine I.step (g':=s.gens) (d':=s.drawn) (t':=s.toks+1) (ch:=[e,it]) (fun b hb=>?_) (fun b o _ _ hb q _=>?_) (fun b o _ _ hb q _=>?_) (fun b o _ q n=>?_) (fun b o hb q=>?_)
    (fun b ys q=>?_) (fun b o w' q=>?_) (fun b ps q=>?_) (fun m hm=>?_) (fun b w' q=>?_) I.bare
   ·rcases Qa.mp hb with z|hb
    ·subst z;exact⟨f3,f1,f4,f5⟩
    ·have z:b=it:=by simpa using hb
     subst z;exact⟨g3,g1,g4,g5⟩
   ·exact oldK b o (fun z=>hb (by simp[z])) (fun z=>hb (by simp[z])) q
   ·exact⟨o.slots,oldK b o (fun z=>hb (by simp[z])) (fun z=>hb (by simp[z])) q⟩
   ·rw[ak (neT b o q)];exact n
   ·exact⟨o,oldK b o (fun z=>hb (by simp[z])) (fun z=>hb (by simp[z])) q⟩
   ·rw[ak (bc q fT)];exact q
   ·rw[ak (bc q fT)];exact q
   ·exact⟨#[],by rw[ak (bc q fT),q];simp⟩
   ·obtain⟨o,es,ep,ho,r⟩:=hm
    exact⟨o,es,ep,oldK _ o (Qy f1) (Qy g1) ho,r⟩
   ·by_cases hb:b=s.heap.objs.size
    ·subst hb
     rw[ax]at q
     cases q
     exact⟨by show 2<=PZ;decide,[.int i s.toks,u],.cons ⟨_,rfl⟩ (.cons ru .nil),_,hT2,rfl,_,rfl⟩
    ·rw[ak hb]at q
     refine(I.hok b w' q).stay (fun c v hc q'=>oldK c v ?_ ?_ q') (fun c q'=>?_) fun c ys q'=>?_
     ·rcases hc with z|z
      ·rw[z];exact(nH b w' q).1
      ·exact(nH c _ z).1
     ·rcases hc with z|z
      ·rw[z];exact(nH b w' q).2
      ·exact(nH c _ z).2
     ·rw[ak (bc q' fT)];exact q'
     ·rw[ak (bc q' fT)];exact q'
  refine⟨.ref s.heap.objs.size,_,I2,rfl,⟨s.heap.objs.size,x,rfl,fT,rfl,fun ys hys=>?_⟩,⟨⟨u,?_⟩,?_⟩,fun b hb=>?_⟩
  ·rw[I.list_inj hys hS];exact hx
  ·have e1:((i+1:Nat):Int)=(i:Int)+1:=by omega
   rw[e1];exact he2
  ·exact hit'.extBut hs2.extBut (Qy hne)
  ·have:b≠s.heap.objs.size:=by
    rcases Qa.mp hb with z|hb
    ·rw[z];exact heT
    ·have z:b=it:=by simpa using hb
     rw[z]
     obtain⟨o,ho,_⟩:=hit
     exact neT it o ho
   rw[ak this]
   exact(hf b hb).1
 done:=by
  intro X hP hw hK hc i pins s σ H E I hf st hg
  subst hP hw hK
  obtain⟨⟨old,he⟩,hit⟩:=st
  obtain⟨xs,hS,hx⟩:=hg
  obtain⟨its,rv,pl,hz⟩:=I.list hS
  have hl:=rv.length
  obtain⟨g0,g1,g2,g3,g4,g5⟩:=hf it (by simp)
  refine wpAny_pyNext_enum_end (I.ok.hd hc) he hit pl.isList (by simp;omega) fun h' eb=>⟨rfl,I.turned (t':=s.toks) (fun b o hb e'=>eb b o hb e') g0 g1 g3 g4 g5⟩
 self:=fun A i s Q E st h=>by
  obtain⟨⟨old,he⟩,hit⟩:=st
  exact Uz he h
section
variable {X:Cx}
noncomputable def vG(K:PM)(tl:TE):TI:=fun σ H R=>tl σ H fun x H1=>∃a,x=.ref a/\(∃xs,aY K H1 a xs)/\R (LR K a) H1
theorem rh{l:PY}{tl:TE}{elts:List PY}{x1}{p pos pt:Qi}(hg:Gl X "enumerate")(hm:X.mg "enumerate"=none)(hl:PE X l tl)(hs:Qf [l] X.env=[(false,eval l X.env)]:=by rfl):
  PI X (.Tuple elts x1 pt) (.Call (.Name "enumerate" p) [l] [] pos) (vG X.K tl):=by
 intro pins s σ H R I h
 refine Call_ (jH I hg hm boot_enumerate (Sq (cI (aa hl ag hs pos pins s σ H (fun vs H1=>∃x,vs=[x]/\∃a,x=.ref a/\(∃xs,aY X.K H1 a xs)/\R (LR X.K a) H1) I ?_) fun us s1 ⟨vs,H1,I1,r1,q1⟩=>?_) hs rfl))
 ·have mono:tl σ H (fun x H1=>∃y,[x]=[y]/\∃a,y=.ref a/\(∃xs,aY X.K H1 a xs)/\R (LR X.K a) H1):=by
   have e:(fun (x:V) (H1:Hp)=>∃y,[x]=[y]/\∃a,y=V.ref a/\(∃xs,aY X.K H1 a xs)/\R (LR X.K a) H1)=fun x H1=>∃a,x=V.ref a/\(∃xs,aY X.K H1 a xs)/\R (LR X.K a) H1:=by
    funext x H1
    simp
   rw[e]
   exact h
  exact mono
 ·obtain⟨x,rfl,a,rfl,⟨xs,hS⟩,q⟩:=q1
  obtain⟨u,rfl,ru⟩:=vals1 r1
  cases ru
  obtain⟨its,rv,pl,hz⟩:=I1.list hS
  refine call_enumerate_list pl.isList fun h' he hit hsz hk=>?_
  have I2:Inv X pins σ H1 {s1 with heap:=h'}:=I1.kept (t':=s1.toks) hk
  refine Uz he ?_
  refine⟨s1.heap.objs.size+1,[s1.heap.objs.size+1,s1.heap.objs.size],_,_,H1,rfl,I2,Ht a _ _ (Xs _),⟨⟨.none,he⟩,hit⟩,fun b hb=>?_,q⟩
  have hb':s1.heap.objs.size<=b:=by
   rcases Qa.mp hb with z|hb
   ·rw[z];exact Rz _
   ·have z:b=s1.heap.objs.size:=by simpa using hb
    rw[z];exact Qe _
  exact I1.fpOk hb' (I1.hok.fresh hb')
end
theorem Inv.turnedL{X:Cx}{pins:List (PK×PV)}{σ:St}{H:Hp}{s:PN}{h':P0}{t':Nat}{ch:List PK}(I:Inv X pins σ H s)(hf:∀b∈ch,qu X pins H b)(k:∀b o,b∉ch->s.heap.get? b=some o->h'.get? b=some o):
  Inv X pins σ H {s with heap:=h',toks:=t'}:=by
 have nit:∀b u,H b=some u->b∉ch:=fun b u e z=>by rw[(hf b z).1]at e;cases e
 refine I.step (g':=s.gens) (d':=s.drawn) (ch:=ch) (fun b hb=>?_) (fun b o _ _ hc e _=>k b o hc e) (fun b o _ _ hc e _=>⟨o.slots,k b o hc e⟩) (fun _ _ _ _ n=>n)
  (fun b o hc e=>⟨o,k b o hc e⟩) (fun _ _ e=>e) (fun _ _ _ e=>e) (fun b ps e=>⟨#[],by rw[e];simp⟩) (fun m hm=>?_) (fun b u e=>?_) I.bare
 ·obtain⟨_,h1,_,h3,h4,h5⟩:=hf b hb
  exact⟨h3,h1,h4,h5⟩
 ·obtain⟨o,es,ep,ho,r⟩:=hm
  exact⟨o,es,ep,k _ o (fun z=>(hf _ z).2.1 rfl) ho,r⟩
 ·refine(I.hok b u e).stay (fun c v hc q=>k c v ?_ q) (fun _ q=>q) fun _ _ q=>q
  rcases hc with z|z
  ·rw[z];exact nit b u e
  ·exact nit c _ z
section
variable {X:Cx}
end
structure Ys(J:It)(g:TG)(P:Hp->Prop)(n:Nat)(f:Nat->St->St):Prop where
 go:∀i H,i<n->P H->J.go i H
 stop:∀H,P H->J.stop n H
 yld:∀i H x H' σ (Q:St->Hp->Prop),i<n->P H->J.yld i H x H'->(∀H'',av H H''->Q (f i σ) H'')->g x σ H' Q
theorem dE{K:PM}{a:PK}{xs:List V}(p:Nat):Ys (Hw K a) (au p) (fun H=>aY K H a xs) xs.length (fun i σ=>σ.set p (some (xs.getD i .non))) where
 go:=fun i H hi h=>⟨xs,xs[i],h,by simp[hi]⟩
 stop:=fun H h=>⟨xs,h,Qe _⟩
 yld:=fun i H x H' σ Q hi h y q=>by
  obtain⟨e,y⟩:=y
  subst e
  have e:xs.getD i .non=x:=by simp[Qm,y xs h]
  have:=q _ (av.refl _)
  rw[e]at this
  exact this
theorem j3{lo:Int}{n:Nat}(p:Nat):Ys (HA lo n) (au p) (fun _=>True) n (fun i σ=>σ.set p (some (.int (lo+i)))) where
 go:=fun i H hi _=>hi
 stop:=fun H _=>Qe _
 yld:=fun i H x H' σ Q hi _ y q=>by
  obtain⟨e,y⟩:=y
  subst e y
  exact q _ (av.refl _)
theorem qE{K:PM}{a:PK}{xs:List V}(p r:Nat):Ys (LR K a) (gf K 2 (bz (au p) (bz (au r) fW))) (fun H=>aY K H a xs) xs.length (fun i σ=>(σ.set p (some (.int i))).set r (some (xs.getD i .non))) where
 go:=fun i H hi h=>⟨xs,xs[i],h,by simp[hi]⟩
 stop:=fun H h=>⟨xs,h,Qe _⟩
 yld:=fun i H x H' σ Q hi h y q=>by
  obtain⟨T,v,rfl,hT,rfl,hv⟩:=y
  have e:xs.getD i .non=v:=by simp[Qm,hv xs h]
  exists T,_,rfl,kN.of ax,rfl,_,_,rfl,_,_,rfl,rfl
  have:=q _ (av.updN hT (o:=.tup [.int i,v]))
  rw[e]at this
  exact this
theorem jU{K:PM}{a:PK}{ts:List PK}{u v w:Nat->V}(p r t:Nat):
  Ys (Hw K a) (gf K 3 (bz (au p) (bz (au r) (bz (au t) fW)))) (fun H=>aY K H a (ts.map V.ref)/\∀i b,ts[i]?=some b->kN K H b [u i,v i,w i]) ts.length (fun i σ=>((σ.set p (some (u i))).set r (some (v i))).set t (some (w i))) where
 go:=fun i H hi h=>⟨_,.ref ts[i],h.1,by simp[hi]⟩
 stop:=fun H h=>⟨_,h.1,by simp⟩
 yld:=fun i H x H' σ Q hi h y q=>by
  obtain⟨e,y⟩:=y
  subst e
  have e:x=.ref ts[i]:=by
   have:=y _ h.1
   simp[hi]at this
   exact this.symm
  subst e
  exact⟨ts[i],_,rfl,h.2 i _ (by simp[hi]),rfl,_,_,rfl,_,_,rfl,_,_,rfl,rfl,q _ (av.refl _)⟩
theorem vS{K:PM}{a:PK}{ts:List PK}{u v:Nat->V}(p r:Nat):
  Ys (Hw K a) (gf K 2 (bz (au p) (bz (au r) fW))) (fun H=>aY K H a (ts.map V.ref)/\∀i b,ts[i]?=some b->kN K H b [u i,v i]) ts.length (fun i σ=>(σ.set p (some (u i))).set r (some (v i))) where
 go:=fun i H hi h=>⟨_,.ref ts[i],h.1,by simp[hi]⟩
 stop:=fun H h=>⟨_,h.1,by simp⟩
 yld:=fun i H x H' σ Q hi h y q=>by
  obtain⟨e,y⟩:=y
  subst e
  have e:x=.ref ts[i]:=by
   have:=y _ h.1
   simp[hi]at this
   exact this.symm
  subst e
  exact⟨ts[i],_,rfl,h.2 i _ (by simp[hi]),rfl,_,_,rfl,_,_,rfl,rfl,q _ (av.refl _)⟩
theorem sy{J:It}{g:TG}{P:Hp->Prop}{n:Nat}{f:Nat->St->St}{tb:TS}{D:Ends}{σ:St}{H:Hp}(Y:Ys J g P n f)(Pv:Nat->St->Hp->Prop)(h0:Pv 0 σ H)(hP:∀i σ H,Pv i σ H->P H)
  (hs:∀i σ H H',i<n->Pv i σ H->av H H'->tb {D with nx:=Pv (i+1),ct:=Pv (i+1),bk:=D.nx} (f i σ) H') (hd:∀σ H,Pv n σ H->D.nx σ H):JB g tb D J σ H:=by
 exists fun i m σ H=>m=n-i/\i<=n/\Pv i σ H,⟨n,by simp,Q3 _,h0⟩
 rintro i m σ H ⟨rfl,hi,p⟩
 by_cases hlt:i<n
 ·exact .inr ⟨Y.go i H hlt (hP _ _ _ p),Pv (i+1),fun σ' H' p'=>⟨n-(i+1),by omega,rfl,hlt,p'⟩,fun x H' y=>Y.yld i H x H' σ _ hlt (hP _ _ _ p) y fun H'' s=>hs i σ H H'' hlt p s⟩
 ·have e:i=n:=by omega
  subst e
  exact .inl ⟨Y.stop H (hP _ _ _ p),hd σ H p⟩
section
variable {mp:List (Option Nat)}{g:TG}{tt:TT}{te:TE}{J:It}{P:Hp->Prop}{n:Nat}{f:Nat->St->St}{σ:St}{H:Hp}{Q:VK}
noncomputable def ef(l:PK)(H H':Hp):Prop:=∀b o,b≠l->H b=some o->H' b=some o
theorem av.x{H H':Hp}(s:av H H')(l:PK):ef l H H':=fun b o _ h=>s b o h
theorem rX{H:Hp}{l:PK}{o:HO}:ef l H (upd H l o):=fun b u hb h=>by rw[ak hb];exact h
theorem gh(Y:Ys J g P n f)(st:Nat->St)(hf:∀i σ',(σ'=c6 mp σ\/∃j,σ'=st j)->f i σ'=st i)(hP:∀H',av H H'->P H')(hz:n<=PZ)(b:Nat->Bool)(R:PK->Nat->V->Hp->Prop)
  (hR:∀l i v H1 H2,ef l H1 H2->R l i v H1->R l i v H2)
  (ht:∀i,i<n->∀(H':Hp)(G:Bool->Hp->Prop),av H H'->(∀H'',av H' H''->G (b i) H'')->tt (st i) H' G)
  (he:∀l i,i<n->b i=true->∀(H':Hp)(G:VK),H l=none->(∃o,H' l=some o)->av H H'->(∀v H'',R l i v H''->av H' H''->G v H'')->te (st i) H' G)
  (hd:∀l ys H',H l=none->av H H'->H' l=some (.lst ys)->Qd (fun i v=>R l i v H') ((P4 n).filter b) ys->Q (.ref l) H'):dq mp g tt te J σ H Q:=by
 intro l hl
 refine⟨fun i m acc σ' H'=>m=n-i/\i<=n/\acc.length<=i/\av H H'/\H' l=some (.lst acc)/\Qd (fun i v=>R l i v H') ((P4 i).filter b) acc/\(σ'=c6 mp σ\/∃j,σ'=st j),
  ⟨n,by simp,Q3 _,Qe _,av.updN hl,ax,.nil,.inl rfl⟩,?_⟩
 rintro i m acc σ' H' ⟨rfl,hi,ha,s,h1,h2,hσ⟩
 by_cases hlt:i<n
 ·refine .inr ⟨Y.go i H' hlt (hP _ s),by omega,fun acc' σ2 H2=>i+1<=n/\acc'.length<=i+1/\av H H2/\H2 l=some (.lst acc')/\Qd (fun i v=>R l i v H2) ((P4 (i+1)).filter b) acc'/\(σ2=c6 mp σ\/∃j,σ2=st j),fun acc' σ2 H2 p'=>⟨n-(i+1),by omega,rfl,p'⟩,fun x H2 y=>?_⟩
  refine Y.yld i H' x H2 σ' _ hlt (hP _ s) y fun H3 s3=>?_
  rw[hf i σ' hσ]
  refine ht i hlt H3 _ (s.trans s3) fun H4 s4=>?_
  have s34:=s3.trans s4
  cases hb:b i with
  |false=>
   refine JH ⟨hlt,by omega,s.trans s34,s34 _ _ h1,?_,.inr ⟨i,rfl⟩⟩
   rw[S9,Wi,SR,hb]
   simp only[Ss,if_false,Xt,TR]
   exact Paired.mapP h2 fun j v r=>hR l j v _ _ (s34.x l) r
  |true=>
   refine FZ ?_
   refine he l i hlt hb H4 _ hl ⟨_,s34 _ _ h1⟩ (s.trans s34) fun v H5 r s5=>?_
   have s35:=s34.trans s5
   refine⟨s35 _ _ h1,hlt,?_,(s.trans s35).upd hl,ax,?_,.inr ⟨i,rfl⟩⟩
   ·rw[QU,R9];omega
   ·rw[S9,Wi,SR,hb]
    simp only[if_true,Xt]
    exact(Paired.mapP h2 fun j v r=>hR l j v _ _ rX (hR l j v _ _ (s35.x l) r)).snoc (hR l i v _ _ rX r)
 ·have e:i=n:=by omega
  subst e
  exact .inl ⟨Y.stop H' (hP _ s),hd l acc H' hl s h1 h2⟩
theorem kB{α:Type}{F:α->V}:∀{xs:List α}{ys:List V},Qd (fun x v=>v=F x) xs ys->ys=xs.map F
 |_,_,.nil=>rfl
 |_,_,.cons e t=>by rw[e,kB t];rfl
theorem bD(Y:Ys J g P n f)(st:Nat->St)(hf:∀i σ',(σ'=c6 mp σ\/∃j,σ'=st j)->f i σ'=st i)(hP:∀H',av H H'->P H')(hz:n<=PZ)(F:Nat->V)
  (he:∀i,i<n->∀(H':Hp)(G:VK),av H H'->(∀H'',av H' H''->G (F i) H'')->te (st i) H' G)
  (hd:∀l H',H l=none->av H H'->H' l=some (.lst ((P4 n).map F))->Q (.ref l) H'):dq mp g dv te J σ H Q:=by
 refine gh Y st hf hP hz (fun _=>true) (fun _ i v _=>v=F i) (fun _ _ _ _ _ _ h=>h) (fun i hi H' G s k=>k H' (av.refl _)) (fun l i hi _ H' G _ _ s k=>he i hi H' G s fun H'' s'=>k _ H'' rfl s') fun l ys H' h0 s h1 pr=>?_
 have e:=kB pr
 rw[Sd.mpr (fun _ _=>rfl)]at e
 subst e
 exact hd l H' h0 s h1
theorem kD(Y:Ys J g P n f)(st:Nat->St)(hf:∀i σ',(σ'=c6 mp σ\/∃j,σ'=st j)->f i σ'=st i)(hP:∀H',av H H'->P H')(hz:n<=PZ)(b:Nat->Bool)(F:Nat->V)
  (ht:∀i,i<n->∀(H':Hp)(G:Bool->Hp->Prop),av H H'->(∀H'',av H' H''->G (b i) H'')->tt (st i) H' G)
  (he:∀i,i<n->b i=true->∀(H':Hp)(G:VK),av H H'->(∀H'',av H' H''->G (F i) H'')->te (st i) H' G)
  (hd:∀l H',H l=none->av H H'->H' l=some (.lst (((P4 n).filter b).map F))->Q (.ref l) H'):dq mp g tt te J σ H Q:=by
 refine gh Y st hf hP hz b (fun _ i v _=>v=F i) (fun _ _ _ _ _ _ h=>h) ht (fun l i hi hb H' G _ _ s k=>he i hi hb H' G s fun H'' s'=>k _ H'' rfl s') fun l ys H' h0 s h1 pr=>?_
 have e:=kB pr
 subst e
 exact hd l H' h0 s h1
theorem jz{T:PK->Nat->Prop}:∀{is:List Nat}{ys:List V},Qd (fun i v=>∃b,v=.ref b/\T b i) is ys->∃bs:List PK,ys=bs.map V.ref/\Qd (fun i b=>T b i) is bs
 |_,_,.nil=>⟨[],rfl,.nil⟩
 |_,_,.cons ⟨b,e,h⟩ t=>by
  obtain⟨bs,e',p⟩:=jz t
  exact⟨b::bs,by rw[e,e'];rfl,.cons h p⟩
end
theorem KA{i:Int}{ns:List Int}:NG (.int i) (ns.map V.int)=decide (i∈ns):=by
 unfold NG
 rw[Xa]
 induction ns with
 |nil=>simp
 |cons n r ih=>
  rw[R7,ih]
  show((n==i) || decide (i∈r))=_
  by_cases h:n=i
  ·subst h;simp
  ·have:(n==i)=false:=by simpa using h
   rw[this,WV]
   by_cases h':i∈r
   ·simp[h']
   ·have:¬i∈n::r:=fun z=>by
     rcases Qa.mp z with e|e
     ·exact h e.symm
     ·exact h' e
    rw[decide_eq_false h',decide_eq_false this]
theorem F2(ns:List Int):(ns.map V.int).all oS=true:=by
 rw[Uu]
 exact Ru.mpr fun _ _=>rfl
section
variable {K:PM}{H:Hp}{Q:VK}
theorem N8{p:PK}{ns:List Int}{i:Int}(hs:aY K H p (ns.map V.int))(h:Q (.bl (decide (i∈ns))) H):Hz K false (.int i) (.ref p) H Q:=
 ⟨p,_,rfl,.inl hs,rfl,F2 ns,by rw[if_neg QM,KA];exact h⟩
theorem NO{p:PK}{bs:List Bool}(hs:aY K H p (bs.map V.bl))(h:Q (.bl (bs.all id)) H):HC K [.ref p] H Q:=⟨p,bs,rfl,hs,h⟩
theorem MS{te:TE}{σ:St}{R:It->Hp->Prop}(h:te σ H fun x H1=>∃a,x=.ref a/\(∃xs,aY K H1 a xs)/\R (LR K a) H1):vG K te σ H R:=h
end
noncomputable def gL(K:PM)(H:Hp)(a:PK)(rows:List (List Int)):Prop:=∃bs:List PK,aY K H a (bs.map V.ref)/\Qd (fun r b=>aY K H b (r.map V.int)) rows bs
theorem av.rows{K:PM}{H H':Hp}{a:PK}{rows:List (List Int)}(e:av H H')(h:gL K H a rows):gL K H' a rows:=by
 obtain⟨bs,h1,h2⟩:=h
 exact⟨bs,e.seq h1,Paired.mapP h2 fun _ _ q=>e.seq q⟩
theorem kL{α β:Type}{F:α->β->Prop}:∀{xs:List α}{ys:List β}{i:Nat}{y:β},Qd F xs ys->ys[i]?=some y->∃x,xs[i]?=some x/\F x y
 |_,_,_,_,.nil,e=>by simp at e
 |_,_,0,_,.cons h _,e=>by simp at e;subst e;exact⟨_,rfl,h⟩
 |_,_,i+1,_,.cons _ t,e=>by simpa using kL t (by simpa using e)
section
variable {prog:Qc}{w:P8}{A:Qg}{E:PL->PN->Prop}{s:PN}
end
theorem nI:∀{xs:List V}{us:List PL},xs.length=us.length->(∀(i:Nat)(x:V)(u:PL),xs[i]?=some x->us[i]?=some u->RelV x u)->bR xs us
 |[],[],_,_=>.nil
 |x::r,u::q,hl,h=>.cons (h 0 x u rfl rfl) (nI (by simpa using hl) fun i y w e e'=>h (i+1) y w (by simpa using e) (by simpa using e'))
section
variable {K:PM}{D:Ends}{σ:St}{H:Hp}{Q:VK}{te ta tb:TE}{tl:TA}{xs:List V}{i j:Int}
noncomputable def Nc(xs:List V)(H:Hp)(Q:VK):Prop:=xs.length<=PZ/\∀p,H p=none->Q (.ref p) (upd H p (.lst xs))
noncomputable def MM(xs:List V)(H:Hp)(Q:VK):Prop:=xs.length<=PZ/\∀p,H p=none->Q (.ref p) (upd H p (.tup xs))
theorem Nw(h:tl σ H fun xs H1=>Nc xs H1 Q):cH tl σ H Q:=h
theorem M7(h:tl σ H fun xs H1=>MM xs H1 Q):oz tl σ H Q:=h
theorem M6(hz:xs.length<=PZ)(h:∀p H2,H p=none->av H H2->H2 p=some (.lst xs)->Q (.ref p) H2):Nc xs H Q:=⟨hz,fun p hp=>h p _ hp (av.updN hp) ax⟩
theorem M3(hz:xs.length<=PZ)(h:∀p H2,H p=none->av H H2->H2 p=some (.tup xs)->Q (.ref p) H2):MM xs H Q:=⟨hz,fun p hp=>h p _ hp (av.updN hp) ax⟩
theorem Mf{a:PK}{lo hi:Option Int}(hs:aY K H a xs)(h:∀p H2,H p=none->av H H2->H2 p=some (.lst (iw xs lo hi))->Q (.ref p) H2):qM K (.ref a) lo hi H Q:=⟨a,xs,rfl,hs,fun p hp=>h p _ hp (av.updN hp) ax⟩
theorem Gj{p:PK}(hs:aY K H p xs)(h:∀l H2,H l=none->av H H2->H2 l=some (.lst xs)->Q (.ref l) H2):Aw K [.ref p] H Q:=⟨p,xs,rfl,.inl hs,fun l hl=>h l _ hl (av.updN hl) ax⟩
theorem cZ{l b:PK}{ys:List V}(h1:H l=some (.lst xs))(h2:H b=some (.lst ys))(hz:xs.length+ys.length<=PZ)(h:∀p H2,H p=none->av H H2->H2 p=some (.lst (xs++ys))->Q (.ref p) H2):hV (.ref l) (.ref b) H Q:=
 ⟨l,b,xs,ys,rfl,rfl,h1,h2,hz,fun p hp=>h p _ hp (av.updN hp) ax⟩
theorem gk{l:PK}{y:V}(hp:H l=some (.lst xs))(hz:xs.length<PZ)(h:Q .non (upd H l (.lst (xs++[y])))):ke (.ref l) [y] H Q:=⟨l,xs,y,rfl,rfl,hp,hz,h⟩
theorem NY{p:PK}(hp:H p=some (.lst xs)):LS K "list" (.ref p) H:=.inl ⟨rfl,_,aY.of hp⟩
end
section
variable {A B:Prop}{c:Prop} [Decidable c]
theorem IW(hc:c)(h:A):if decide c=true then A else B:=by rw[decide_eq_true hc];exact FZ h
theorem GI(hc:¬c)(h:B):if decide c=true then A else B:=by rw[decide_eq_false hc];exact JH h
theorem FR(hc:¬c)(h:A):if(!decide c)=true then A else B:=by rw[decide_eq_false hc];exact FZ h
theorem OC(h:B):if(!true)=true then A else B:=JH h
theorem Of(h:A):if(!false)=true then A else B:=FZ h
theorem dJ(h1:c->A)(h2:¬c->B):if decide c=true then A else B:=KJ (fun h=>h1 (of_decide_eq_true h)) (fun h=>h2 fun z=>h (decide_eq_true z))
theorem N1(h1:¬c->A)(h2:c->B):if(!decide c)=true then A else B:=by
 by_cases z:c
 ·exact HB z (h2 z)
 ·exact FR z (h1 z)
end
theorem C4(ns:List Int)(m:Nat):iw (ns.map V.int) none (some (m:Int))=(ns.take m).map V.int:=by
 unfold iw
 rw[HT.qv,HT.oh,P7,WO,Vs,UB]
 rcases UQ m ns.length with h|h
 ·rw[UT h]
 ·rw[Vd h,RI (by simp),RI (by simpa using h)]
theorem HK(ns:List Int)(m:Nat):iw (ns.map V.int) (some (m:Int)) none=(ns.drop m).map V.int:=by
 unfold iw
 rw[HT.qv,HT.oh,P7,Xg]
 rcases UQ m ns.length with h|h
 ·rw[UT h,RI (by simp)]
 ·rw[Vd h,YI (by simp),YI (by simpa using h)]
  simp
theorem bo:(1000:Nat)<=PZ:=SN (Gn (Qe _))
mutual
noncomputable def nice:Qx->Bool
 |.none=>true
 |.bool _=>false
 |.int _=>true
 |.str x=>Vx x
 |.list xs=>dP xs
 |.tuple xs=>dP xs
 |.dict _=>false
noncomputable def dP:List Qx->Bool
 |[]=>true
 |x::xs=>nice x&&dP xs
end
mutual
theorem qG:∀d:Qx,nice d=true->d.canLay0=true
 |.none,_=>by simp[RS]
 |.bool _,h=>by simp[nice]at h
 |.int _,_=>by simp[RS]
 |.str x,h=>by rw[RS];rw[nice]at h;exact h
 |.list xs,h=>by rw[RS];exact gB xs (by rw[nice]at h;exact h)
 |.tuple xs,h=>by rw[RS];exact gB xs (by rw[nice]at h;exact h)
 |.dict _,h=>by simp[nice]at h
theorem gB:∀ds:List Qx,dP ds=true->SG ds=true
 |[],_=>by simp[SG]
 |x::xs,h=>by
  rw[dP,QX]at h
  rw[SG,qG x h.1,gB xs h.2]
  rfl
end
mutual
theorem xB:∀d e:Qx,nice d=true->nice e=true->Rl d e=true
 |.list xs,.list ys,h,h'=>by rw[Rl];exact mL xs ys (by rw[nice]at h;exact h) (by rw[nice]at h';exact h')
 |.tuple xs,.tuple ys,h,h'=>by rw[Rl];exact mL xs ys (by rw[nice]at h;exact h) (by rw[nice]at h';exact h')
 |.bool _,_,h,_=>by simp[nice]at h
 |.dict _,_,h,_=>by simp[nice]at h
 |.none,.none,_,_ | .none,.int _,_,_ | .none,.str _,_,_ | .none,.list _,_,_ | .none,.tuple _,_,_=>by simp[Rl]
 |.int _,.none,_,_ | .int _,.int _,_,_ | .int _,.str _,_,_ | .int _,.list _,_,_ | .int _,.tuple _,_,_=>by simp[Rl]
 |.str _,.none,_,_ | .str _,.int _,_,_ | .str _,.str _,_,_ | .str _,.list _,_,_ | .str _,.tuple _,_,_=>by simp[Rl]
 |.none,.bool _,_,h' | .none,.dict _,_,h' | .int _,.bool _,_,h' | .int _,.dict _,_,h' | .str _,.bool _,_,h' | .str _,.dict _,_,h'=>by simp[nice]at h'
 |.list _,.none,_,_ | .list _,.int _,_,_ | .list _,.str _,_,_ | .list _,.tuple _,_,_=>by simp[Rl]
 |.list _,.bool _,_,h' | .list _,.dict _,_,h'=>by simp[nice]at h'
 |.tuple _,.none,_,_ | .tuple _,.int _,_,_ | .tuple _,.str _,_,_ | .tuple _,.list _,_,_=>by simp[Rl]
 |.tuple _,.bool _,_,h' | .tuple _,.dict _,_,h'=>by simp[nice]at h'
theorem mL:∀ds es:List Qx,dP ds=true->dP es=true->Sv ds es=true
 |[],[],_,_=>by simp[Sv]
 |[],_::_,_,_=>by simp[Sv]
 |_::_,[],_,_=>by simp[Sv]
 |x::xs,y::ys,h,h'=>by
  rw[dP,QX]at h h'
  rw[Sv,xB x y h.1 h'.1,mL xs ys h.2 h'.2]
  rfl
end
noncomputable def fQ(n:Nat)(d:Qx):Prop:=nice d=true/\d.depth<=n
theorem fQ.shaped{n:Nat}{d:Qx}(h:fQ n d)(hn:n<=64):Sg d=true:=by
 unfold Sg
 rw[qG d h.1,decide_eq_true (show d.depth<=64 by have:=h.2;omega)]
 rfl
theorem fQ.mono{n m:Nat}{d:Qx}(h:fQ n d)(hm:n<=m):fQ m d:=⟨h.1,P6 h.2 hm⟩
theorem DX{n:Nat}:∀{ds:List Qx},(∀d∈ds,fQ n d)->dP ds=true/\S4 ds<=n
 |[],_=>by simp[dP,S4]
 |x::xs,h=>by
  obtain⟨h1,h2⟩:=h x QI
  obtain⟨h3,h4⟩:=DX fun y hy=>h y (Qs _ hy)
  rw[dP,h1,h3,S4]
  exact⟨rfl,by omega⟩
theorem KO{n:Nat}{ds:List Qx}(h:∀d∈ds,fQ n d):fQ (n+1) (.list ds):=by
 obtain⟨h1,h2⟩:=DX h
 exact⟨by rw[nice];exact h1,by rw[S2];omega⟩
theorem Jh{n:Nat}{ds:List Qx}(h:∀d∈ds,fQ n d):fQ (n+1) (.tuple ds):=by
 obtain⟨h1,h2⟩:=DX h
 exact⟨by rw[nice];exact h1,by rw[S2];omega⟩
section
variable {K:PM}{H:Hp}{Q:VK}{x y:V}{d e:Qx}{n:Nat}
theorem Mz(h1:eF K H x d)(h2:eF K H y e)(hd:fQ n d)(he:fQ n e)(hn:n<=64)(h:Q (.bl (!same d e)) H):vk K true x y H Q:=
 ⟨d,e,h1,h2,hd.shaped hn,he.shaped hn,xB d e hd.1 he.1,by rw[TZ];exact h⟩
end
section
variable {X:Cx}
end
section
variable {X:Cx}
end
section
variable {X:Cx}
noncomputable def OS(K:PM)(t:TE):TT:=fun σ H Q=>t σ H fun x H1=>∃a xs,x=.ref a/\aY K H1 a xs/\Q (!xs.isEmpty) H1
theorem DO{e:PY}{t:TE}(h:PE X e t)(he:∀whole,isTrue e X.env whole=(do let v <-whole;standAt e.pos;holding [v] (truthy v)):=by intro _;rfl):PT X e (OS X.K t):=by
 intro pins s σ H Q I hw
 refine isTrue_plain (cI (h pins s σ H _ I hw) fun v s1 ⟨x,H1,I1,r1,q1⟩=>?_) (he _)
 obtain⟨a,xs,rfl,hS,q⟩:=q1
 cases r1
 obtain⟨its,rv,pl,hz⟩:=I1.list hS
 have hl:=rv.length
 have hs:its.length<=PZ:=by rw[<-hl];exact hz
 refine wpAny_truthy_list pl.isList (by rw [Q0]; have : (PZ : Int) < 2 ^ 63 := by decide
                                        omega) ?_
 exists H1,I1.tok _
 have e1:its.toArray.isEmpty=xs.isEmpty:=by cases xs<;>cases its<;>simp_all
 rw[e1]
 exact q
end
section
variable {prog:Qc}{w:P8}{A:Qg}{E:PL->PN->Prop}{s:PN}
end
section
variable {prog:Qc}{w:P8}{A:Qg}{E:PL->PN->Prop}{s:PN}
end
section
variable {X:Cx}
end
section
variable {prog:Qc}{w:P8}{A:Qg}{R:Result->PN->Prop}{I:PK}{fp wr:List PK}{n:Nat}{P:Nat->PL->Prop}{St:Nat->P0->Prop}
end
section
variable {prog:Qc}{w:P8}{A:Qg}{E:PL->PN->Prop}{s:PN}
end
section
variable {X:Cx}
end
structure kM(P:Qc)(w:P8)(K:PM)(mg:PH->Option PL)(base:P0)(k:Nat)(x:PH)(ps:List PH)(sp:Sp):Prop where
 ex:∃a fd,mg x=some (.ref a)/\RN K (.ref a)=true/\Binds K fd ps []/\mG P w K mg base sD k a fd ps sp
structure bE(K:PM)(mg:PH->Option PL)(x:PH)(st:P5)(ps:List PH):Prop where
 ex:∃a fd,mg x=some (.ref a)/\MC K x x st a fd/\∀us:List PL,us.length=ps.length->bindArgs fd ⟨us,[]⟩=pure (ps.zip us)
section
variable {P:Qc}{w:P8}{K:PM}{mg:PH->Option PL}{base:P0}
theorem bE.cal{x:PH}{st:P5}{ps N:List PH}{rd:TS}{k:Nat}{sp:Sp}(F:bE K mg x st ps)(S:aB N ps (aq st))(len:∀vs H Q E,sp vs H Q E->vs.length=ps.length)
  (hb:∀(f:PK)(cdv:PL)(A:Qg)(outer:List Qq)(s:PN)(H:Hp)(E:XK),di k (A.deeper (Q7 x (aq st) s.heap.objs.size f cdv))->xI (cv sD P w K mg base N x (aq st) f cdv A outer s H E).nox (dI st) rd)
  (hr:∀vs H Q E,sp vs H Q E->rd {nx:=fun _ H'=>Q .non H',rt:=Q} (start N vs) H):kM P w K mg base (k+1) x ps sp:=by
 obtain⟨a,fd,hm,hF,hbd⟩:=F.ex
 exact⟨a,fd,hm,hF.kp,.all hbd,hF.ok S len fun cdv A outer s H vs Q E room h=>⟨rd,hb a cdv A outer s H E room,hr vs H Q E h⟩⟩
theorem bE.law{x:PH}{st:P5}{N:List PH}{y:PH}{rd:TS}{k:Nat}{sp:Sp}{fa:PK}(F:bE K mg x st [y])(hfa:mg x=some (.ref fa))(S:aB N [y] (aq st))(len:∀vs H Q E,sp vs H Q E->vs.length=1)
  (hb:∀(base:P0)(f:PK)(cdv:PL)(A:Qg)(outer:List Qq)(s:PN)(H:Hp)(E:XK),di k (A.deeper (Q7 x (aq st) s.heap.objs.size f cdv))->xI (cv sD P w K mg base N x (aq st) f cdv A outer s H E).nox (dI st) rd)
  (hr:∀vs H Q E,sp vs H Q E->rd {nx:=fun _ H'=>Q .non H',rt:=Q} (start N vs) H):
  ∃fd:RF,(∀(s:PN)(u:PL),BindsTo s fd ⟨[u],[]⟩ [(y,u)])/\∀base:P0,mG P w K mg base sD (k+1) fa fd [y] sp:=by
 obtain⟨a,fd,hm,hF,hbd⟩:=F.ex
 have e:=hfa.symm.trans hm
 cases e
 exact⟨fd,fun s u=>.of_eq (hbd [u] rfl),fun base=>hF.ok S len fun cdv A outer s H vs Q E room h=>⟨rd,hb base fa cdv A outer s H E room,hr vs H Q E h⟩⟩
theorem Mo{h:P0}{x:PH}{st:P5}{ps:List PH}{f:PK}{oc:PL}{od an:Option PK}{osl:Array (Option PL)}{kV doc pm cdv ct:PL}(X:K.In h)(G:h.Ns QH mg)
  (a4:Rm K QH x=some (some (.ref f))) (l4:K.lookup f=some ⟨oc,od,.func (Sf x x (lE st) (dI st) (aq st) .none kV doc pm an cdv ct),osl⟩)
  (c4:T8 K cdv x=true) (k4:RN K (.ref f)=true)
  (hb:∀(kV doc pm:PL)(an:Option PK)(cdv ct:PL)(us:List PL),us.length=ps.length->bindArgs (Sf x x (lE st) (dI st) (aq st) .none kV doc pm an cdv ct) ⟨us,[]⟩=pure (ps.zip us)):bE K mg x st ps:=
 ⟨f,_,So X G a4,JC l4 c4 k4,hb kV doc pm an cdv ct⟩
end
section
variable {X:Cx}{k:Nat}{ps:List PH}{sp:Sp}{x:PH}{p pos:Qi}{e:PY}{es:List PY}{t:TA}
theorem aW(C:kM X.prog X.w X.K X.mg X.base k x ps sp)(hr:di k X.A)(ha:PA X (e::es) t)(hg:Gl X x:=by rfl)(hdb:(x==("__debug__":PH))=false:=by decide)
  (he:Qf (e::es) X.env=(false,eval e X.env)::Qf es X.env:=by rfl) (hpl:(QF pos (Qf es X.env)).any (·.1)=false:=by rfl):PE X (.Call (.Name x p) (e::es) [] pos) (bf sp [] E0 t):=by
 obtain⟨a,fd,hm,hk,hb,F⟩:=C.ex
 exact E5 F hr hg hm hk hb .nil Fo ha hdb he hpl
theorem E9{op:Operator}{r:R2}(h:je X (R6 op) r):Pt X op r:=h
theorem KD{K:PM}{mg:PH->Option PL}{h:P0}{x:PH}(X:K.In h)(G:h.Ns QH mg)(z:Rm K QH x=some none):mg x=none:=YO X G z
end
noncomputable def cL(n:Nat)(R:List V->Hp->VK->Prop):Sp:=fun vs H Q _=>vs.length=n/\R vs H Q
theorem aF{n:Nat}{R:List V->Hp->VK->Prop}{m:Nat}(e:n=m):∀vs H Q E,cL n R vs H Q E->vs.length=m:=fun _ _ _ _ h=>h.1.trans e
noncomputable def D9(K:PM):Sp:=cL 1 fun vs H Q=>∃(a:PK)(ns:List Int),vs=[.ref a]/\aY K H a (ns.map V.int)/\ns.length<=63/\∀H',Q (.bl true) H'
theorem IT{l:WM}{k:Nat}{q:Qc}{loose:List PH}{XP:(PH->Option PL)->P0->Prop}{YP:P8->P0->Prop}{d:DefRec}{K:Params->PM}(hn:l.most=some 63)(hdf:d.params.defaults=[])(hr:di k callerA)
  (hY:∀(w:P8)(h:P0),YP w h->(K w.params).In h)
  (F:∀(w:P8)(mg:PH->Option PL)(fa:PK)(h:P0),(K w.params).In h->h.Ns QH mg->mg d.name=some (.ref fa)->
   ∃fd:RF,(∀(s:PN)(u:PL),BindsTo s fd ⟨[u],[]⟩ [("script",u)])/\∀base:P0,mG l.prog w (K w.params) mg base sD k fa fd ["script"] (D9 (K w.params))):
  YG q loose XP YP l.row.toRowW d [] (fun f vs=>VX f vs):=
 KG (n:=63) (k:=k) (x:="script") (CX:=fun _=>sD) (sp:=fun w=>D9 (K w.params)) hn (by decide) hdf hr hY
  (fun w mg fa h KX G e=>let ⟨fd,h1,h2⟩:=F w mg fa h KX G e;⟨fd,h1,fun base _ _=>h2 base⟩) (fun _ _ a ns hl _ hS=>⟨rfl,a,ns,rfl,hS,hl,fun _=>rfl⟩) fun _ _ _ _ _ z=>z
theorem Gu(o:PV)(f):(o.mapFields f).dict=o.dict:=by
 unfold SS;split<;>rfl
noncomputable def MY(base h:P0)(e T:PK)(cls:PL):Prop:=
 (∃oe vs oT ts,h.get? e=some oe/\oe.cls=cls/\oe.dict=none/\oe.data=.fields vs/\vs[1]?=some (.ref T)/\h.get? T=some oT/\oT.data=.fields ts/\ts[3]?=some .none)/\base.get? T=none/\T≠e
noncomputable def Iw(base:P0)(l:List Qq)(e:PK)(cls:PL)(h h':P0):Prop:=
 (∀b o,b≠e->b∉Ao l->h.get? b=some o->h'.get? b=some o)/\(∀b o,b≠e->h.get? b=some o->∃sl,h'.get? b=some {o with slots:=sl})/\∃T,h.objs.size<=T/\MY base h' e T cls
section
variable {M:Model}{A:Qg}{E:PL->PN->Prop}{s:PN}
theorem mM{base:P0}{env:Qq}{outer:List Qq}{L e:PK}{oe:PV}{vs:Array PL}{head:PL}{hadNext:Bool}{Q:Unit->PN->Prop}(hfr:A.frames=some (env::outer))(hl:s.heap.FunFrames base (env::outer))(hf:env.frame=some L)
  (he:s.heap.get? e=some oe) (hkb:base.StaysIn s.heap) (hdn:oe.dict=none) (hd:oe.data=.fields vs) (hsz:1<vs.size) (h:∀h',Iw base (env::outer) e oe.cls s.heap h'->Q () {s with heap:=h'}):
  PQ M A (do let a <-frameOf env;let pl <-entryPlaceOf L hadNext;let b <-Wl head a .none (QQ L) .none pl;setField (.ref e) 1 b) (fun _ s'=>PQ M A (setFlight (.ref e) none) Q E s') E s:=by
 have hene:e∉(env::outer).filterMap (·.frame):=fun hm=>by
  obtain⟨_,o,ho,hnf⟩:=hl.mem hm ;rw[he]at ho;injection ho with ho;subst ho;exact hnf vs hd
 refine PR (wpAny_frameOf_fun hfr hl hf fun g1 s1=>?_) ;refine PR (wpAny_entryPlaceOf fun pl hpl=>?_)
 unfold Wl newFields ;refine PR (wpAny_newObj_type ?_ (hpl.sizeOk5 _ _ _ _ _))
 have e1:g1.get? e=some oe:=(s1.2.1 e hene).trans he
 have kb1:base.StaysIn g1:=fun b o hbo=>(s1.2.1 b fun hm=>by rw[(hl.mem hm).1]at hbo;cases hbo).trans (hkb b o hbo)
 have e2:=Qr (h:=g1) {cls:=.type "traceback",dict:=none,data:=.fields ([head,.ref L,.none,QQ L,.none]++(if pl.isEmpty then QS 6 Rg else pl)).toArray} e1
 refine wpAny_setField e2 hd hsz ?_ ;have hTe:g1.objs.size≠e:=Ro (Qk e1)
 have d3:=Vr hd (·.setIfInBounds 1 (Qo g1.objs.size))
 have e3:=Yo (SS (·.setIfInBounds 1 (Qo g1.objs.size))) e2 (YC d3)
 have T3:=(SA (g1.push {cls:=.type "traceback",dict:=none,data:=.fields ([head,.ref L,.none,QQ L,.none]++(if pl.isEmpty then QS 6 Rg else pl)).toArray}) (SS (·.setIfInBounds 1 (Qo g1.objs.size))) (Qy hTe)).trans (Qz g1 rfl)
 unfold setFlight ;refine PR (Q1 e3 d3 (x:=.ref g1.objs.size) (by simp[hsz]) ?_)
 rw[if_pos (show(Qo g1.objs.size != Rg)=true from by simp)]
 refine wpAny_setField T3 rfl (by simp only[Q0,QU,QV,VI]<;>omega) (h _ ?_)
 have keep : ∀ b o, b ≠ e -> g1.get? b = some o -> (((g1.push { cls := .type "traceback", dict := none, data := .fields ([head, .ref L, .none, QQ L, .none] ++ (if pl.isEmpty then QS 6 Rg else pl)).toArray }).update e (SS (·.setIfInBounds 1 (Qo g1.objs.size)))).update g1.objs.size
       (SS (·.setIfInBounds 3 ((none:Option PK).elim Rg fun f=>QQ f)))).get? b=some o:=fun b o hbe hb=>by
  rw[SA _ _ (Ro (Qk hb)),SA _ _ (Qy hbe)] ;exact Qr _ hb
 exists fun b o hbe hbf hb=>keep b o hbe ((s1.2.1 b hbf).trans hb),fun b o hbe hb=>?_
 ·obtain⟨sl,hs⟩:=s1.2.2 b o hb ;exact⟨sl,keep b _ hbe hs⟩
 ·refine⟨g1.objs.size,Ts s1.1.symm,⟨_,_,_,_,?_,Obj.cls_mapFields _ _,(Gu _ _).trans hdn,d3,by simp[hsz],Yo _ T3 (YC (Vr rfl _)),Vr rfl _,by first|(simp;done)|(rcases hpl with rfl|⟨_,_,_,_,_,_,_,rfl⟩<;>simp)⟩,kb1.fresh,hTe⟩
  rw[SA _ _ hTe] ;exact e3
theorem ES{base:P0}{env:Qq}{outer:List Qq}{L e:PK}{oe:PV}{vs:Array PL}{Q:Unit->PN->Prop}(hfr:A.frames=some (env::outer))(hl:s.heap.FunFrames base (env::outer))(hf:env.frame=some L)
  (he:s.heap.get? e=some oe) (hkb:base.StaysIn s.heap) (hdn:oe.dict=none) (hd:oe.data=.fields vs) (h1:vs[1]?=some .none) (h:∀h',Iw base (env::outer) e oe.cls s.heap h'->Q () {s with heap:=h'}):PQ M A (leaving env (.ref e)) Q E s:=by
 unfold leaving noteFrame ;simp only[hf]
 refine PR (PR (Q1 he hd h1 ?_)) ;rw[if_neg (by decide)]
 exact mM hfr hl hf he hkb hdn hd (TB.mp h1).1 h
end
theorem Du{M:Model}{A:Qg}{E:PL->PN->Prop}{s:PN}{base:P0}{env:Qq}{outer:List Qq}{L e T:PK}{cls:PL}{oe oT:PV}{vs ts:Array PL}{Q:Unit->PN->Prop}(hfr:A.frames=some (env::outer))(hl:s.heap.FunFrames base (env::outer))(hf:env.frame=some L)
  (he:s.heap.get? e=some oe) (hcls:oe.cls=cls) (hdn:oe.dict=none) (hd:oe.data=.fields vs) (h1:vs[1]?=some (.ref T)) (hnT:base.get? T=none) (hTe:T≠e) (hT:s.heap.get? T=some oT) (hdT:oT.data=.fields ts) (h3:ts[3]?=some .none) (hkb:base.StaysIn s.heap)
  (h:∀h',(∀b o,b≠e->b≠T->b∉Ao (env::outer)->s.heap.get? b=some o->h'.get? b=some o)->(∀b o,b≠e->b≠T->s.heap.get? b=some o->∃sl,h'.get? b=some {o with slots:=sl})->(∃T',s.heap.objs.size<=T'/\MY base h' e T' cls)->Q () {s with heap:=h'}):PQ M A (leaving env (.ref e)) Q E s:=by
 subst hcls
 unfold leaving noteFrame ;simp only[hf] ;refine PR (PR (Q1 he hd h1 ?_))
 rw[if_pos (show(Qo T != Rg)=true from by simp)] ;refine PR (Q1 hT hdT h3 ?_)
 rw[if_neg (show ¬((Rg==QQ L)=true)from by simp[QQ])] ;refine PR (wpAny_setField hT hdT (TB.mp h3).1 ?_)
 have other:∀b,b≠T->(s.heap.update T (SS (·.setIfInBounds 3 Rg))).get? b=s.heap.get? b:=fun b hb=>SA _ _ (Qy hb)
 have noRec:∀b o,s.heap.get? b=some o->(∀vs,o.data≠.fields vs)->b≠T:=fun b o hb hnf q=>by rw[q,hT]at hb;injection hb with hb;subst hb;exact hnf ts hdT
 refine mM hfr (hl.of_keeps fun b o hb hnf=>⟨o,(other b (noRec b o hb hnf)).trans hb,rfl⟩) hf ((other e (Qy hTe)).trans he) (fun b o hbo=>(other b fun q=>by rw[q,hnT]at hbo;cases hbo).trans (hkb b o hbo)) hdn hd (TB.mp h1).1 fun h' x=>?_
 obtain⟨x1,x2,T',x3,x4⟩:=x
 exact h h' (fun b o b1 b2 b3 hb=>x1 b o b1 b3 ((other b b2).trans hb)) (fun b o b1 b2 hb=>x2 b o b1 ((other b b2).trans hb)) ⟨T',P6 (Ts (XB ..).symm) x3,x4⟩
section
variable {X:Cx}{pins:List (PK×PV)}{σ:St}{H:Hp}{s:PN}{h':P0}
theorem Inv.left0{ch:List PK}(I:Inv X pins σ H s)(hch:∀b∈ch,qu X pins H b)(k1:∀b o,b∉ch->b∉Ao X.stack->s.heap.get? b=some o->h'.get? b=some o)(k2:∀b o,b∉ch->s.heap.get? b=some o->∃sl,h'.get? b=some {o with slots:=sl}):Inv X pins σ H {s with heap:=h'}:=by
 have nst:∀b,b≠X.env.locals->b∉X.fs->b∉Ao X.stack:=fun b h1 h2 z=>(Qa.mp (I.stkSub b z)).elim h1 h2
 refine I.step (g':=s.gens) (d':=s.drawn) (t':=s.toks) (ch:=ch) (fun b hb=>?_) (fun b o h1 h2 hc e _=>k1 b o hc (nst b h1 h2) e) (fun b o _ _ hc e _=>k2 b o hc e) (fun _ _ _ _ n=>n) (fun b o hc e=>?_) (fun _ _ e=>e) (fun _ _ _ e=>e) (fun b ps e=>⟨#[],by rw[e];simp⟩) (fun m hm=>?_) (fun b u e=>?_) I.bare
 ·obtain⟨_,f1,_,f3,f4,f5⟩:=hch b hb
  exact⟨f3,f1,f4,f5⟩
 ·obtain⟨sl,q⟩:=k2 b o hc e
  exact⟨_,q⟩
 ·obtain⟨o,es,ep,ho,r⟩:=hm
  obtain⟨sl,q⟩:=k2 _ o (fun z=>(hch _ z).2.1 rfl) ho
  exact⟨_,es,ep,q,r⟩
 ·have tr:∀c u,H c=some u->c∉ch/\c∉Ao X.stack:=fun c u hc=>⟨(fun z=>by rw[(hch c z).1]at hc;cases hc),(fun z=>by rw[I.stkFree c z]at hc;cases hc)⟩
  refine(I.hok b u e).stay (fun c v hc q=>?_) (fun _ q=>q) fun _ _ q=>q
  rcases hc with z|z
  ·subst z
   obtain⟨a1,a2⟩:=tr c u e
   exact k1 c v a1 a2 q
  ·obtain⟨a1,a2⟩:=tr c _ z
   exact k1 c v a1 a2 q
end
noncomputable def IP(X:Cx)(pins:List (PK×PV))(H:Hp)(b:PK):Prop:=
 H b=none/\b≠X.env.locals/\b∉X.fs/\X.s₀.heap.get? b=none/\(∀x c,X.env.cells.lookup x=some c->c≠b)/\∀p∈X.pn++pins,p.1≠b
section
variable {X:Cx}{pins:List (PK×PV)}{σ:St}{H H':Hp}{s:PN}{ch:List PK}
noncomputable abbrev Cx.wide(X:Cx)(ch:List PK):Cx:={X with ex:=X.ex++ch}
theorem Inv.wide(I:Inv X pins σ H s)(hch:∀b∈ch,IP X pins H b):Inv (X.wide ch) pins σ H s:=
 ⟨⟨I.ok.mod,I.ok.kind,I.ok.glob,I.ok.blt,I.ok.above,I.ok.inj,I.ok.has,I.ok.cab,I.ok.hd,I.ok.frames,I.ok.stk,(fun b hb=>(QC.mp hb).elim (I.ok.exf b) fun z=>⟨(hch b z).2.1,fun x c e=>(hch b z).2.2.2.2.1 x c e⟩),I.ok.bs,I.ok.bsz,
  (fun b o e hb=>(QC.mp hb).elim (I.ok.noex b o e) fun z=>by have q:=(I.ok.bs b o e).1;rw[(hch b z).2.2.2.1]at q;cases q),(fun b hb=>(QC.mp hb).elim (I.ok.exfs b) fun z=>(hch b z).2.2.1),I.ok.funs,I.ok.frf⟩,I.os,I.bare,I.base.mono (fun _ z=>z) (fun _ z=>QC.mpr (.inl z)),I.loc,I.cell,I.free,I.freeC,I.pin,I.hok,I.len⟩
theorem Inv.shut(ok:X.Ok)(hch:∀b∈ch,X.s₀.heap.get? b=none)(I:Inv (X.wide ch) pins σ H s):Inv X pins σ H s:=by
 have nx:∀b o,X.s₀.heap.get? b=some o->b∉X.ex->b∉X.ex++ch:=fun b o e hx z=>(QC.mp z).elim hx fun z=>by rw[hch b z]at e;cases e
 exact⟨ok,I.os,I.bare,⟨fun b o e n hb hx=>I.base.keep b o e n hb (nx b o e hx),fun b o e n hb hx=>I.base.slot b o e n hb (nx b o e hx),fun b o e n hx=>I.base.free b o e n (nx b o e hx),fun b o e hx=>I.base.there b o e (nx b o e hx),I.base.tups,I.base.frzs,I.base.tbls⟩,I.loc,I.cell,I.free,I.freeC,I.pin,I.hok,I.len⟩
theorem Inv.fpO{b:PK}(I:Inv X pins σ H s)(hb:s.heap.get? b=none)(hx:b∉X.ex)(hn:H' b=none):IP X pins H' b:=by
 refine⟨hn,fun z=>?_,fun z=>?_,?_,fun x c e z=>?_,fun p hp z=>?_⟩
 ·obtain⟨m,⟨o,_,_,ho,_⟩,_⟩:=I.loc
  rw[z,ho]at hb;cases hb
 ·obtain⟨_,o,ho,_⟩:=I.ok.funs.mem z
  cases h0:X.s₀.heap.get? b with
  |none=>rw[ho]at h0;cases h0
  |some o'=>
   obtain⟨o2,q⟩:=I.base.there b o' h0 hx
   rw[q]at hb;cases hb
 ·cases h0:X.s₀.heap.get? b with
  |none=>rfl
  |some o'=>
   obtain⟨o2,q⟩:=I.base.there b o' h0 hx
   rw[q]at hb;cases hb
 ·obtain⟨v,o,ho,_⟩:=I.cell x c e
  rw[z,hb]at ho;cases ho
 ·have q:=(I.pin p hp).1
  rw[z,hb]at q;cases q
theorem IP.ok{b:PK}(h:IP X pins H b)(hb:b∈ch):qu (X.wide ch) pins H b:=⟨h.1,h.2.1,h.2.2.1,.inl (QC.mpr (.inr hb)),h.2.2.2.2.1,h.2.2.2.2.2⟩
theorem Inv.left{h':P0}(I:Inv X pins σ H s)(hch:∀b∈ch,IP X pins H b)(k1:∀b o,b∉ch->b∉Ao X.stack->s.heap.get? b=some o->h'.get? b=some o)(k2:∀b o,b∉ch->s.heap.get? b=some o->∃sl,h'.get? b=some {o with slots:=sl}):Inv X pins σ H {s with heap:=h'}:=
 Inv.shut I.ok (fun b hb=>(hch b hb).2.2.2.1) (Inv.left0 (X:=X.wide ch) (I.wide hch) (fun b hb=>(hch b hb).ok hb) k1 k2)
end
noncomputable def eC(P:Qc)(w:P8)(base:P0):FT:=fun outer H s E e s'=>∃a T cls H',e=.ref a/\s'.os=s.os/\R3 s'.gens/\Un (Ao outer) [] H H' s.heap s'.heap/\oj P w H' s'.heap/\H' a=none/\H' T=none/\MY base s'.heap a T cls/\s.heap.get? a=none/\s.heap.get? T=none/\E cls none H'
section
variable {P:Qc}{w:P8}{K:PM}{mg:PH->Option PL}{base:P0}{N:List PH}{qual:PH}{scope:QT}{f:PK}{cd:PL}{A:Qg}{outer:List Qq}{s0 s:PN}{H0 H:Hp}{E:XK}{pins:List (PK×PV)}{σ:St}
theorem Ai{X:Cx}(ok:X.Ok)(h:X.stack=X.env::X.outer):X.env.frame=some X.env.locals:=by
 rcases ok.stk with e|⟨_,e⟩
 ·rw[h]at e
  have:=congrArg Tz e
  simp at this
 ·exact e
theorem leave_new{e:PK}{oe:PV}{vs:Array PL}(I:Inv (cv (eC P w base) P w K mg base N qual scope f cd A outer s0 H0 E) pins σ H s)(he:s.heap.get? e=some oe)(hn:H e=none)(hlo:s0.heap.get? e=none)(hfp:IP (cv (eC P w base) P w K mg base N qual scope f cd A outer s0 H0 E) pins H e)(hdn:oe.dict=none)(hd:oe.data=.fields vs)(h1:vs[1]?=some .none)(q:E oe.cls none H):
  (cv (eC P w base) P w K mg base N qual scope f cd A outer s0 H0 E).xe (.ref e) s:=by
 have hf:=Ai I.ok rfl
 refine ES (base:=base) (env:=Q7 qual scope s0.heap.objs.size f cd) (outer:=outer) I.ok.frames I.stack hf he I.bk hdn hd h1 fun h' x=>?_
 obtain⟨k1,k2,T,hT,tr⟩:=x
 have J:=I.left (ch:=[e]) (h':=h') (fun b hb=>by rw[QR.mp hb];exact hfp) (fun b o hb hs hq=>k1 b o (fun z=>hb (by simp[z])) hs hq) (fun b o hb hq=>k2 b o (fun z=>hb (by simp[z])) hq)
 exact⟨e,T,oe.cls,H,rfl,J.os,J.bare,J.base,J.hok,hn,I.hok.fresh hT,tr,hlo,Ux (P6 I.sz hT),q⟩
theorem Cs:lF (eC P w base) (cv (eC P w base) P w K mg base N qual scope f cd A outer s0 H0 E) E:=by
 intro pins σ H s e s' I hx
 obtain⟨a,T,cls,H',rfl,os,bare,un,hok,na,nT,⟨⟨oe,vs,oT,ts,t1,t2,tn,t3,t4,t5,t6,t7⟩,t8,t9⟩,la,lT,q⟩:=hx
 have J:Inv (cv (eC P w base) P w K mg base N qual scope f cd A outer s0 H0 E) pins σ H' s':=by
  obtain⟨hh,g,d,t,os'⟩:=s'
  obtain rfl:os'=s.os:=os
  exact I.call (h':=hh) (g':=g) (d':=d) (t':=t) (ch:=[]) un hok bare (fun b z=>absurd z (by simp))
 have hf:=Ai J.ok rfl
 refine Du (base:=base) (env:=Q7 qual scope s0.heap.objs.size f cd) (outer:=outer) J.ok.frames J.stack hf t1 t2 tn t3 t4 t8 t9 t5 t6 t7 J.bk fun h' k1 k2 ⟨T',hT',tr⟩=>?_
 have fp:∀b,s.heap.get? b=none->H' b=none->IP (cv (eC P w base) P w K mg base N qual scope f cd A outer s0 H0 E) pins H' b:=fun b hb hn=>I.fpO hb (by simp[cv]) hn
 have J2:=J.left (ch:=[a,T]) (h':=h') (fun b hb=>by
   have hb':b=a\/b=T:=by simpa using hb
   rcases hb' with z|z
   ·rw[z];exact fp a la na
   ·rw[z];exact fp T lT nT) (fun b o hb hs hq=>k1 b o (fun z=>hb (by simp[z])) (fun z=>hb (by simp[z])) hs hq) (fun b o hb hq=>k2 b o (fun z=>hb (by simp[z])) (fun z=>hb (by simp[z])) hq)
 exact⟨a,T',cls,H',rfl,J2.os,J2.bare,J2.base,J2.hok,na,J.hok.fresh hT',tr,(fp a la na).2.2.2.1,Ux (P6 J.sz hT'),q⟩
end
section
variable {M:Model}{A:Qg}{E:PL->PN->Prop}{s:PN}
theorem K0{base:P0}{env:Qq}{outer:List Qq}{L e T:PK}{cls:PL}{Q:Unit->PN->Prop}(hfr:A.frames=some (env::outer))(hl:s.heap.FunFrames base (env::outer))(hf:env.frame=some L)(ht:MY base s.heap e T cls)(hkb:base.StaysIn s.heap)
  (h:∀h',(∀b o,b≠e->b≠T->b∉Ao (env::outer)->s.heap.get? b=some o->h'.get? b=some o)->(∀b o,b≠e->b≠T->s.heap.get? b=some o->∃sl,h'.get? b=some {o with slots:=sl})->(∃T',s.heap.objs.size<=T'/\MY base h' e T' cls)->Q () {s with heap:=h'}):
  PQ M A (noteFrame (.ref e) env) (fun _ s₂=>PQ M A (setFlight (.ref e) none) Q E s₂) E s:=by
 obtain⟨⟨oe,vs,oT,ts,he,hcls,hdn,hd,h1,hT,hdT,h3⟩,hnT,hTe⟩:=ht
 subst hcls
 unfold noteFrame ;simp only[hf] ;refine PR (Q1 he hd h1 ?_)
 rw[if_pos (show(Qo T != Rg)=true from by simp)] ;refine PR (Q1 hT hdT h3 ?_)
 rw[if_neg (show ¬((Rg==QQ L)=true)from by simp[QQ])] ;refine PR (wpAny_setField hT hdT (TB.mp h3).1 ?_)
 have other:∀b,b≠T->(s.heap.update T (SS (·.setIfInBounds 3 Rg))).get? b=s.heap.get? b:=fun b hb=>SA _ _ (Qy hb)
 have noRec:∀b o,s.heap.get? b=some o->(∀vs,o.data≠.fields vs)->b≠T:=fun b o hb hnf q=>by rw[q,hT]at hb;injection hb with hb;subst hb;exact hnf ts hdT
 refine mM hfr (hl.of_keeps fun b o hb hnf=>⟨o,(other b (noRec b o hb hnf)).trans hb,rfl⟩) hf ((other e (Qy hTe)).trans he) (fun b o hbo=>(other b fun q=>by rw[q,hnT]at hbo;cases hbo).trans (hkb b o hbo)) hdn hd (TB.mp h1).1 fun h' x=>?_
 obtain⟨x1,x2,T',x3,x4⟩:=x
 exact h h' (fun b o b1 b2 b3 hb=>x1 b o b1 b3 ((other b b2).trans hb)) (fun b o b1 b2 hb=>x2 b o b1 ((other b b2).trans hb)) ⟨T',P6 (Ts (XB ..).symm) x3,x4⟩
theorem Ew{base:P0}{e T:PK}{cls:PL}{Q:Unit->PN->Prop}(ht:MY base s.heap e T cls)(h:∀h',(∀b o,b≠T->s.heap.get? b=some o->h'.get? b=some o)->Q () {s with heap:=h'}):PQ M A (setFlight (.ref e) none) Q E s:=by
 obtain⟨⟨oe,vs,oT,ts,he,hcls,hdn,hd,h1,hT,hdT,h3⟩,hnT,hTe⟩:=ht
 unfold setFlight ;refine PR (Q1 he hd h1 ?_) ;rw[if_pos (show(Qo T != Rg)=true from by simp)]
 refine wpAny_setField hT hdT (TB.mp h3).1 (h _ fun b o hb q=>(SA _ _ (Qy hb)).trans q)
end
noncomputable abbrev Cx.marked(X:Cx)(v:PL):Cx:={X with A:=X.A.mark (some v),calm:=false,xe:=fun _ _=>False}
section
variable {X:Cx}{pins:List (PK×PV)}{σ:St}{H:Hp}{s:PN}
theorem Inv.marked(I:Inv X pins σ H s)(v:PL):Inv (X.marked v) pins σ H s:=
 ⟨⟨I.ok.mod,I.ok.kind,I.ok.glob,I.ok.blt,I.ok.above,I.ok.inj,I.ok.has,I.ok.cab,(fun h=>by cases h),I.ok.frames,I.ok.stk,I.ok.exf,I.ok.bs,I.ok.bsz,I.ok.noex,I.ok.exfs,I.ok.funs,I.ok.frf⟩,I.os,I.bare,I.base,I.loc,I.cell,I.free,I.freeC,I.pin,I.hok,I.len⟩
theorem Inv.unmarked{v:PL}(ok:X.Ok)(I:Inv (X.marked v) pins σ H s):Inv X pins σ H s:=⟨ok,I.os,I.bare,I.base,I.loc,I.cell,I.free,I.freeC,I.pin,I.hok,I.len⟩
theorem Inv.track0{a:PK}{o:HO}(I:Inv X pins σ H s)(hf:qu X pins H a)(new:dc X.prog X.w (upd H a o) s.heap a o):Inv X pins σ (upd H a o) s:=by
 have ne:∀b u,H b=some u->b≠a:=fun b u e z=>by rw[z,hf.1]at e;cases e
 refine I.step (h':=s.heap) (g':=s.gens) (d':=s.drawn) (t':=s.toks) (ch:=[a]) (fun b hb=>?_) (fun b ob _ _ _ e _=>e) (fun b ob _ _ _ e _=>⟨ob.slots,e⟩) (fun b ob hc e n=>?_) (fun b ob _ e=>⟨ob,e⟩) (fun b xs e=>?_) (fun b ob u e=>?_) (fun b ps e=>⟨#[],?_⟩) (fun m hm=>hm) (fun b u e=>?_) I.bare
 ·rw[QR.mp hb]
  obtain⟨_,f1,_,f3,f4,f5⟩:=hf
  exact⟨f3,f1,f4,f5⟩
 ·rw[ak fun z=>hc (by simp[z])];exact n
 ·rw[ak (ne _ _ e)];exact e
 ·rw[ak (ne _ _ e)];exact e
 ·rw[ak (ne _ _ e),e];simp
 ·by_cases hb:b=a
  ·subst hb
   rw[ax]at e
   cases e
   exact new
  ·rw[ak hb]at e
   refine(I.hok b u e).stay (fun c v _ q=>q) (fun c q=>?_) fun c ys q=>?_
   ·rw[ak (ne _ _ q)];exact q
   ·rw[ak (ne _ _ q)];exact q
theorem Inv.track{a:PK}{o:HO}(I:Inv X pins σ H s)(hf:IP X pins H a)(new:dc X.prog X.w (upd H a o) s.heap a o):Inv X pins σ (upd H a o) s:=
 Inv.shut (ch:=[a]) I.ok (fun b hb=>by rw[QR.mp hb];exact hf.2.2.2.1) (Inv.track0 (X:=X.wide [a]) (I.wide (fun b hb=>by rw[QR.mp hb];exact hf)) (hf.ok (by simp)) new)
theorem Inv.forget{i:Nat}{n:PH}{m:PH->Option PL}{v:Option PL}{h':P0}{t':Nat}(I:Inv X pins σ H s)(hN:X.N.Nodup)(hi:X.N[i]?=some n)(hm:s.heap.Ns X.env.locals m)(hl:∀(j:Nat)(x:PH)(w:V),X.N[j]?=some x->σ[j]?=some (some w)->Mi X.env.scope x->∃u,RelV w u/\Look X.env s.heap m x u)
  (hn:h'.Ns X.env.locals (fun x=>if x=n then v else m x)) (hs:RT X.env.locals s.heap h'):Inv X pins (σ.set i none) H {s with heap:=h',toks:=t'}:=by
 have neL:∀b o,X.s₀.heap.get? b=some o->b≠X.env.locals:=fun b o e=>Qt (QE (Qk e) I.ok.above)
 have get:∀b,b≠X.env.locals->h'.get? b=s.heap.get? b:=fun b hb=>hs.2 b hb
 have cellK:∀x c,X.env.cells.lookup x=some c->∀w,s.heap.IsCell c w->h'.IsCell c w:=fun x c e w ⟨o,ho,hd⟩=>⟨o,(get c (I.cne x c e)).trans ho,hd⟩
 refine⟨I.ok,I.os,I.bare,⟨fun b o e n hb hx=>?_,fun b o e n hb hx=>?_,I.base.free,fun b o e hx=>?_,I.base.tups,I.base.frzs,I.base.tbls⟩,⟨_,hn,fun j x w e1 e2 e3=>?_⟩,fun x c e=>?_,I.free,I.freeC,fun p hp=>?_,fun b u e=>?_,by rw[List.length_set];exact I.len⟩
 ·exact(get b (neL b o e)).trans (I.base.keep b o e n hb hx)
 ·obtain⟨sl,q⟩:=I.base.slot b o e n hb hx
  exact⟨sl,(get b (neL b o e)).trans q⟩
 ·obtain⟨o',q⟩:=I.base.there b o e hx
  exact⟨o',(get b (neL b o e)).trans q⟩
 ·have hji:j≠i:=fun z=>by
   subst z
   rw[Vk (by rw[I.len];exact(QN.mp hi).1)]at e2
   cases e2
  rw[Wb (Qy hji)]at e2
  have hxn:x≠n:=fun z=>hji (wA hN (z▸e1) hi)
  obtain⟨u,r,l⟩:=hl j x w e1 e2 e3
  exists u,r
  rcases l with⟨l1,l2⟩|⟨k,c,e,z⟩
  ·exact .inl ⟨l1,by show(if x=n then v else m x)=some u;rw[if_neg hxn];exact l2⟩
  ·exact .inr ⟨k,c,e,cellK x c e _ z⟩
 ·obtain⟨w,z⟩:=I.cell x c e
  exact⟨w,cellK x c e w z⟩
 ·obtain⟨e,n,ne,nf,d⟩:=I.pin p hp
  exact⟨(get p.1 ne).trans e,n,ne,nf,d⟩
 ·have tr:∀c u,H c=some u->c≠X.env.locals:=fun c u hc z=>by rw[z,I.free]at hc;cases hc
  refine(I.hok b u e).stay (fun c w hc q=>?_) (fun _ q=>q) fun _ _ q=>q
  rcases hc with z|z
  ·subst z;exact(get c (tr c u e)).trans q
  ·exact(get c (tr c _ z)).trans q
end
noncomputable def XP(X:Cx)(pins:List (PK×PV))(σ:St)(E:XK)(e:PL)(s':PN):Prop:=
 ∃a T cls H',e=.ref a/\Inv X pins σ H' s'/\IP X pins H' a/\IP X pins H' T/\MY X.base s'.heap a T cls/\E cls none H'
noncomputable def PX(X:Cx)(e:PY)(E:XK)(t:TE):Prop:=
 ∀(pins:List (PK×PV))(s:PN)(σ:St)(H:Hp)(Q:VK),Inv X pins σ H s->t σ H Q->PQ (model X.prog X.w) X.A (eval e X.env) (EP X pins σ Q) (XP X pins σ E) s
section
variable {X:Cx}{k:Nat}{f:PK}{fd:RF}{ps:List PH}{sp:Sp}{dvs:List V}{ds:List PL}{E:XK}{x:PH}{p pos:Qi}{e:PY}{es:List PY}{t:TA}
theorem KU{pins:List (PK×PV)}{σ:St}{H:Hp}{s:PN}{Q:VK}{us:List PL}{vs:List V}(F:mG X.prog X.w X.K X.mg X.base (eC X.prog X.w X.base) k f fd ps sp)(hr:di k X.A)(hb:Binds X.K fd ps ds)(hd:bR dvs ds)(hx:∀b,b∉X.ex)
  (I:Inv X pins σ H s) (r:bR vs us) (h:sp (vs++dvs) H Q E):PQ (model X.prog X.w) X.A (call (.ref f) us) (EP X pins σ Q) (XP X pins σ E) s:=by
 have r2:bR (vs++dvs) (us++ds):=r.append hd
 have hl:(us++ds).length=ps.length:=by rw[<-r2.length];exact F.len _ _ _ _ h
 refine wpAny_call (codeAny_mono (F.run X.A X.stack s H ⟨us,[]⟩ (us++ds) (vs++dvs) Q E hr I.env0 (hb s us I.kIn hl) r2 h) fun r s' hq=>?_)
 cases r with
 |error e=>
  obtain⟨a,T,cls,H',rfl,os,bare,un,hok,na,nT,tr,la,lT,q⟩:=hq
  exact⟨a,T,cls,H',rfl,I.call' (ch:=[]) os un hok bare (fun b z=>absurd z (by simp)),I.fpO la (hx a) na,I.fpO lT (hx T) nT,tr,q⟩
 |ok fl=>
  cases fl with
  |ret u=>exact I.after hq
  |next=>exact Rn hq
  |brk=>exact Rn hq
  |cont=>exact Rn hq
end
section
variable {X:Cx}{x n:PH}{C:PL}{i:Nat}{t:XK->TE}{tb:TS}{e:PY}{b₀:P5}{suite:List P5}{pos epos hpos np:Qi}
end
section
open PySem.W
structure my(K:Frag)(C:PK):Prop where
 ga:findIn K (.ref C) "__getattribute__"=some (some (.builtin "BaseException.__getattribute__"))
 gc:findIn K (.ref C) "__class__"=some (some (.builtin "object.__class__"))
 gn:findIn K (.ref C) "__getattr__"=some none
 ob:mroIn K C (.type "object")=some true
 be:mroIn K C (.type "BaseException")=some true
theorem qJ:Slot "ValueError" "__getattribute__" "BaseException.__getattribute__":=F.attr_ValueError.ga
section
variable {prog:Qc}{w:P8}{A:Qg}{E:PL->PN->Prop}{h:P0}{g:Array GenState}{d:Drawn}{t:Nat}{os:OsState}{a C:PK}{o:PV}{K:Frag}
theorem uc{M:Model}{nameV:PL}{Q:Unit->PN->Prop}(X:K.In h)(I:SY h a o C none)(Z:my K C)(hq:Q () ⟨h,g,d,t,os⟩):PQ M A (checkBuiltinCall "BaseException.__getattribute__" ⟨[.ref a,nameV],[]⟩) Q E ⟨h,g,d,t,os⟩:=by
 have hk:builtinKind "BaseException.__getattribute__"=some .slot:=by decide +kernel
 have hsplit:splitId "BaseException.__getattribute__"=some ("BaseException","__getattribute__"):=by decide +kernel
 have L4:=looks_mroIn (M:=M) X Z.be
 have ha:=F.args_bexc_ga (.ref a) nameV
 have hx:=I.at_
 have hc:=I.cls
 simp only[checkBuiltinCall,hk,hsplit]
 refine PR ?_
 ·unfold isInstance
  repeat (first|(with_reducible refine wpAny_loadPart_at hx ?_;rw[hc])|(with_reducible refine L4.at ?_)|wp_step)
  exact hq
theorem uv{tk:Tok}{Q:Fin->PN->Prop}(X:K.In h)(I:SY h a o C none)(Z:my K C)(hq:Q (.done (.ret (.ref C))) ⟨h,g,d,t,os⟩):
  PQ (model prog w) A (RG.«object.__getattribute__» ⟨[.ref a,.str "__class__" tk],[]⟩) Q E ⟨h,g,d,t,os⟩:=by
 have hT5:(⟨h,g,d,t,os⟩:PN).TypeIs (.builtin "object.__class__") "getset_descriptor":=Yg
 have f5:=Yg
 have f6:=F.slot_gs_get.lookup
 have f7:=F.slot_gs_set.lookup
 have hx:=I.at_
 have hc:=I.cls
 have L2:=looks_findIn (M:=model prog w) X Z.gc
 repeat (any_goals (first|assumption|(with_reducible refine wpAny_loadPart_at hx ?_;rw[hc])|(with_reducible refine L2.at ?_)|wp_step))
 refine class_get (s:=⟨h,g,d,t,os⟩) X I Z.ob ?_
 repeat (any_goals (first|assumption|wp_step))
theorem zX{tk:Tok}{Q:PL->PN->Prop}(X:K.In h)(I:SY h a o C none)(Z:my K C)(hq:Q (.ref C) ⟨h,g,d,t,os⟩):
  PQ (model prog w) A (getAttrBy (.ref a) (.str "__class__" tk) false) Q E ⟨h,g,d,t,os⟩:=by
 have f3:=qJ.bind (.ref a)
 have hx2:(Ta "BaseException.__getattribute__"==Ta "object.__getattribute__")=false:=by decide +kernel
 have hx1:(onTheHeap (Qo C)&&Ta "BaseException.__getattribute__"==Ta "object.__getattribute__")=false:=by rw[hx2];rfl
 have hx:=I.at_
 have hc:=I.cls
 have L1:=looks_findIn (M:=model prog w) X Z.ga
 have L3:=looks_findIn (M:=model prog w) X Z.gn
 repeat (any_goals (first|assumption|(with_reducible refine wpAny_loadPart_at hx ?_;rw[hc])|(with_reducible refine L1.at ?_)|(with_reducible refine L3.at ?_)|wp_step))
 refine codeAny_call_builtin qJ.plain F.entry_bexc_ga (uc X I Z (uv X I Z ?_))
 repeat (any_goals (first|assumption|wp_step))
theorem wD{Q:Option PL->PN->Prop}(X:K.In h)(I:SY h a o C none)(Z:my K C)(hq:Q (some (.ref C)) ⟨h,g,d,t+1,os⟩):PQ (model prog w) A (getAttr? (.ref a) "__class__") Q E ⟨h,g,d,t,os⟩:=by
 unfold getAttr? getAttrBy?
 repeat (any_goals (first|assumption|with_reducible apply zX X I Z|wp_step))
theorem J7(hC:(clsIn K C).isSome=true)(Z:my K C):KitX K (.ref a) (.ref C) (fun h=>SY h a o C none) where
 ty:=fun _ _ _ I=>I.type
 it:=fun _ _ X _=>by
  obtain⟨cdD,hcD⟩:=Vw.mp hC
  unfold clsIn at hcD
  split at hcD
  ·rename_i c' d' cd' sl' ho
   intro A' Q' E' s' k q
   unfold isType loadHead
   exact PR (wpAny_loadPart (k _ _ (X _ _ ho)) (Qh q))
  ·cases hcD
 ne:=fun h tp dd its n sl X htp=>by
  obtain⟨cdD,hcD⟩:=Vw.mp hC
  refine Bool.eq_false_iff.mpr fun q=>?_
  have e:C=tp:=WD (beq_iff_eq.mp q)
  subst e
  unfold clsIn at hcD
  split at hcD
  ·rename_i c' d' cd' sl' ho
   have z:=(X _ _ ho).symm.trans htp
   cases z
  ·cases hcD
 ca:=fun {_ _ _ _ _ s} X I k=>by obtain⟨h,g,d,t,os⟩:=s;exact wD X I Z k
end
section
variable {X:Cx}{pins:List (PK×PV)}{σ:St}{H:Hp}{s:PN}{A:Qg}{E:PL->PN->Prop}{Q:PL->PN->Prop}{c:PL}{b:Bool}
noncomputable def ExcAt(H:Hp)(a C:PK):Prop:=∃oe,H a=some (.frz oe (.own a))/\oe.cls=.ref C/\Vj oe=true/\oe.dict=none
theorem ExcAt.inst{a C:PK}(I:Inv X pins σ H s)(e:ExcAt H a C):∃oe,SY s.heap a oe C none:=by
 obtain⟨oe,h1,h2,h3,h4⟩:=e
 have q:s.heap.get? a=some oe:=(I.hok a _ h1).1
 exact⟨oe,q,h2,h3,by rw[h4];trivial⟩
theorem ED{a C:PK}(I:Inv X pins σ H s)(e:ExcAt H a C)(hC:(clsIn X.K C).isSome=true)(Z:my X.K C)(k:kitOne X.K (.ref C) c=some b)(h:∀tk,Q (.bool b) {s with toks:=tk}):
  PQ (model X.prog X.w) A (call (.builtin "isinstance") [.ref a,c]) Q E s:=by
 obtain⟨oe,J⟩:=e.inst I
 exact kia_one (J7 hC Z) I.kIn J k (fun z=>nomatch z) h
end
end
noncomputable def eJ(C:PK)(E:XK)(t:TA):TS:=fun _ σ H=>t σ H fun vs H1=>vs.length<=PZ/\E (.ref C) none H1
section
variable {P:Qc}{w:P8}{K:PM}{mg:PH->Option PL}{base:P0}{N:List PH}{qual:PH}{scope:QT}{f C:PK}{cd:PL}{A:Qg}{outer:List Qq}{s0:PN}{H0:Hp}{E:XK}{x:PH}{np cpos pos:Qi}{e:PY}{es:List PY}{t:TA}{B Bn newId nid initId inN:String}{bm bmN:List PL}
theorem oj.lost{w:P8}{P:Qc}{H:Hp}{h:P0}(x:oj P w H h){b:PK}(e:h.get? b=none):H b=none:=by
 cases q:H b with
 |none=>rfl
 |some o=>
  have ok:=x b o q
  have go:∀o,dc P w H h b o->∃u,h.get? b=some u:=fun o=>by
   induction o with
   |lst xs=>rintro⟨_,_,_,_,e⟩;exact⟨_,e⟩
   |tup xs=>rintro⟨_,_,_,o,e,_⟩;exact⟨_,e⟩
   |dK kvs=>rintro⟨_,_,_,_,o,_,_,e,_⟩;exact⟨_,e⟩
   |dT kvs=>rintro⟨_,_,_,_,o,_,_,e,_⟩;exact⟨_,e⟩
   |set S n=>rintro⟨o,_,_,_,e,_⟩;exact⟨_,e⟩
   |ins C dx fs=>rintro⟨_,_,_,e,_⟩;exact⟨_,e⟩
   |own x=>exact id
   |xd fs=>rintro⟨_,⟨o,_,_,e',_⟩,_⟩;exact⟨_,e'⟩
   |met f x=>intro e;exact⟨_,e⟩
   |rng lo hi=>rintro⟨_,_,_,e⟩;exact⟨_,e⟩
   |frz o u ih=>rintro⟨e,_⟩;exact⟨_,e⟩
   |tbl ps=>intro e;exact⟨_,e⟩
   |ext φ=>rintro⟨_,e,_⟩;exact e
  obtain⟨u,q⟩:=go o ok
  rw[e]at q;cases q
theorem JX(O:OwnCls x C bm newId mg base)(Fn:ExcBaseFacts Bn newId inN bmN)(hBn:bm.contains (.type Bn)=true)(FB:ExcBaseFacts B nid initId bm)
  (hg:Gl (cv (eC P w base) P w K mg base N qual scope f cd A outer s0 H0 E) x) (hc:(cv (eC P w base) P w K mg base N qual scope f cd A outer s0 H0 E).calm=true)
  (ha:PA (cv (eC P w base) P w K mg base N qual scope f cd A outer s0 H0 E) (e::es) t) (hdb:(x==("__debug__":PH))=false:=by decide)
  (he:Qf (e::es) (cv (eC P w base) P w K mg base N qual scope f cd A outer s0 H0 E).env=(false,eval e (cv (eC P w base) P w K mg base N qual scope f cd A outer s0 H0 E).env)::Qf es (cv (eC P w base) P w K mg base N qual scope f cd A outer s0 H0 E).env:=by rfl)
  (hpl:(QF cpos (Qf es (cv (eC P w base) P w K mg base N qual scope f cd A outer s0 H0 E).env)).any (·.1)=false:=by rfl):
  PS (cv (eC P w base) P w K mg base N qual scope f cd A outer s0 H0 E) (.Raise (some (.Call (.Name x np) (e::es) [] cpos)) none pos) (eJ C E t):=by
 intro pins s σ H D I h
 obtain⟨tl,Nn,nm,q,bs,hdct,sn,sub,ab,col,dd,k0,k1,k2,k3,k5,mN,hC,hN,hni,T⟩:=O.obj
 refine wpAny_Raise_call_subU (C:=C) (nm:=nm) (q:=q) (N:=Nn) (bs:=bs) (bm:=tl) (hdct:=hdct) (sn:=sn) (sub:=sub) (ab:=ab) (col:=col) (dd:=dd) (k0:=k0) (k1:=k1) (k2:=k2) (k3:=k3) (k5:=k5)
  Fn hBn FB (mN:=mN) (T.hasType FB.hasBase) (I.ok.hd hc) (by rw[he];show(false || (QF cpos (Qf es _)).any (·.1))=false;rw[hpl];rfl) hni (rb I hg O.bound ⟨rfl,?_⟩ hdb)
 have ha':=ha cpos pins s σ H _ I h
 rw[he]at ha' ⊢
 refine Vg (Q5 ha' (fun us s2 ⟨vs,H1,I1,r,hz,q⟩=>⟨rfl,by rw[<-r.length];exact hz,I1.bk _ _ hC,hN.keeps I1.bk,T.keeps I1.bk,fun h' e' M=>?_⟩) fun _ _ y=>y)
 have J:Inv (cv (eC P w base) P w K mg base N qual scope f cd A outer s0 H0 E) pins σ H1 {s2 with heap:=h'}:=I1.kept (t':=s2.toks) M.keeps
 obtain⟨tt,m1,m2,m3⟩:=M.there
 have hn:H1 e'=none:=I1.hok.lost M.new
 have fp:=I1.fpO (H':=H1) M.new (by simp[cv]) hn
 exact leave_new J m1 hn fp.2.2.2.1 fp rfl rfl rfl q
end
noncomputable def MJ:V->PL
 |.ref a=>.ref a
 |.ty n=>.type n
 |_=>.none
noncomputable def DS:V->Bool
 |.ref _=>true
 |.ty _=>true
 |_=>false
noncomputable abbrev yn(K:PM):List V->Hp->VK->Prop:=fun xs H Q=>∃a v C b,xs=[.ref a,v]/\DS v=true/\ExcAt H a C/\(Rp K C).isSome=true/\my K C/\Qb K (.ref C) (MJ v)=some b/\Q (.bl b) H
theorem Jc{v:V}{u:PL}(h:DS v=true)(r:RelV v u):u=MJ v:=by
 cases v<;>first|exact r|cases h
section
variable {X:Cx}
theorem cN:fJ X (.builtin "isinstance") (yn X.K):=by
 show fJ X (.builtin "isinstance") (fun xs H Q=>∃a v C b,xs=[.ref a,v]/\DS v=true/\ExcAt H a C/\(Rp X.K C).isSome=true/\my X.K C/\Qb X.K (.ref C) (MJ v)=some b/\Q (.bl b) H)
 intro pins s σ H xs us Q I r h
 obtain⟨a,v,C,b,rfl,hv,e,hC,Z,k,q⟩:=h
 obtain⟨u,w',rfl,rx,ry⟩:=vals2 r
 cases(show u=Qo a from rx)
 cases Jc hv ry
 exact ED I e hC Z k fun tk=>⟨.bl b,H,I.tok tk,rfl,q⟩
noncomputable def xZ(t:TE):TE:=fun σ H Q=>t σ H fun x H1=>∃i:Int,x=.int i/\i.natAbs.log2<1920/\Q (.str (toString i:String)) H1
theorem pD{e:PY}{te:TE}{pos:Qi}(he:PE X e te):PE X (.FormattedValue e (-1) none pos) (xZ te):=by
 intro pins s σ H Q I h
 refine wpAny_FormattedValue_plain (cI (he pins s σ H _ I h) fun v s1 ⟨x,H1,I1,r1,i,hx,hl,q⟩=>?_)
 subst hx
 obtain⟨tk,rfl⟩:=(show ∃t,v=RZ i t from r1)
 exact wpAny_formatField_int hl ⟨.str (toString i:String),H1,I1.tok _,⟨_,rfl⟩,q⟩
noncomputable def zj:List TE->PH->TE
 |[],acc=>fun _ H Q=>acc.length<=PZ/\Q (.str acc) H
 |t::ts,acc=>fun σ H Q=>t σ H fun x H1=>∃y,x=.str y/\(acc++y).length<=PZ/\zj ts (acc++y) σ H1 Q
inductive PJ(X:Cx):List PY->List TE->Prop where
 |nil:PJ X [] []
 |cons {e:PY}{es:List PY}{t:TE}{ts:List TE}:PE X e t->PJ X es ts->PJ X (e::es) (t::ts)
theorem PJ.joins:∀{es:List PY}{ts:List TE},PJ X es ts->∀{pins:List (PK×PV)}{s:PN}{σ:St}{H:Hp}{Q:VK}{acc:PH},Inv X pins σ H s->zj ts acc σ H Q->
  Joins (model X.prog X.w) X.A X.xe (evalEach es X.env) acc (fun out s1=>out.length<=PZ/\EP X pins σ Q (.str out s1.toks) {s1 with toks:=s1.toks+1}) s
 |_,_,.nil,pins,s,σ,H,Q,acc,I,h=>⟨h.1,.str acc,H,I.tok _,⟨_,rfl⟩,h.2⟩
 |_,_,.cons he hr,pins,s,σ,H,Q,acc,I,h=>by
  show PQ _ _ _ _ _ _
  refine cI (he pins s σ H _ I h) fun v s1 ⟨x,H1,I1,r1,y,hx,hl,q⟩=>?_
  subst hx
  obtain⟨tk,rfl⟩:=(show ∃t,v=SU y t from r1)
  exact⟨y,tk,rfl,hl,hr.joins I1 q⟩
theorem dk{e1 e2:PY}{es:List PY}{ts:List TE}{pos:Qi}(h:PJ X (e1::e2::es) ts):PE X (.JoinedStr (e1::e2::es) pos) (zj ts Qp):=by
 intro pins s σ H Q I q
 exact wpAny_JoinedStr (h.joins I q)
end
structure xS(P:Qc)(w:P8)(K:PM)(mg:PH->Option PL)(base:P0)(k:Nat)(x:PH)(ps:List PH)(sp:Sp):Prop where
 ex:∃a fd,mg x=some (.ref a)/\RN K (.ref a)=true/\Binds K fd ps []/\mG P w K mg base (eC P w base) k a fd ps sp
section
variable {P:Qc}{w:P8}{K:PM}{mg:PH->Option PL}{base:P0}
theorem MC.okX{x qual:PH}{st:P5}{f:PK}{fd:RF}{N ps:List PH}{k:Nat}{sp:Sp}(F:MC K x qual st f fd)(S:aB N ps (aq st))(len:∀vs H Q E,sp vs H Q E->vs.length=ps.length)
  (hbody:∀(cdv:PL)(A:Qg)(outer:List Qq)(s:PN)(H:Hp)(vs:List V)(Q:VK)(E:XK),di k (A.deeper (Q7 qual (aq st) s.heap.objs.size f cdv))->sp vs H Q E->
   ∃t,xI (cv (eC P w base) P w K mg base N qual (aq st) f cdv A outer s H E) (dI st) t/\t {nx:=fun _ H'=>Q .non H',rt:=Q} (start N vs) H):mG P w K mg base (eC P w base) (k+1) f fd ps sp:=by
 obtain⟨oc,od,kV,doc,pm,an,cdv,ct,osl,rfl,lk,hcd⟩:=F.ex
 exact LP lk hcd S len fun A outer s H vs Q E hr hsp=>hbody cdv A outer s H vs Q E hr hsp
theorem bE.calX{x:PH}{st:P5}{ps N:List PH}{rd:XK->TS}{k:Nat}{sp:Sp}(F:bE K mg x st ps)(S:aB N ps (aq st))(len:∀vs H Q E,sp vs H Q E->vs.length=ps.length)
  (hb:∀(f:PK)(cdv:PL)(A:Qg)(outer:List Qq)(s:PN)(H:Hp)(E:XK),di k (A.deeper (Q7 x (aq st) s.heap.objs.size f cdv))->xI (cv (eC P w base) P w K mg base N x (aq st) f cdv A outer s H E) (dI st) (rd E))
  (hr:∀vs H Q E,sp vs H Q E->rd E {nx:=fun _ H'=>Q .non H',rt:=Q} (start N vs) H):xS P w K mg base (k+1) x ps sp:=by
 obtain⟨a,fd,hm,hF,hbd⟩:=F.ex
 exact⟨a,fd,hm,hF.kp,.all hbd,hF.okX S len fun cdv A outer s H vs Q E room h=>⟨rd E,hb a cdv A outer s H E room,hr vs H Q E h⟩⟩
end
section
variable {X:Cx}{k:Nat}{ps:List PH}{sp:Sp}{x:PH}{p pos:Qi}{e:PY}{es:List PY}{t:TA}
end
section
variable {P:Qc}{w:P8}{K:PM}{mg:PH->Option PL}{base:P0}{N:List PH}{qual:PH}{scope:QT}{f:PK}{cd:PL}{A:Qg}{outer:List Qq}{s0:PN}{H0:Hp}{E:XK}{k:Nat}{ps:List PH}{sp:Sp}{x:PH}{p pos:Qi}{e:PY}{es:List PY}{t:TA}
theorem eI(C:xS P w K mg base k x ps sp)(hr:di k (cv (eC P w base) P w K mg base N qual scope f cd A outer s0 H0 E).A)(ha:PA (cv (eC P w base) P w K mg base N qual scope f cd A outer s0 H0 E) (e::es) t)(hg:Gl (cv (eC P w base) P w K mg base N qual scope f cd A outer s0 H0 E) x:=by rfl)(hdb:(x==("__debug__":PH))=false:=by decide)
  (he:Qf (e::es) (cv (eC P w base) P w K mg base N qual scope f cd A outer s0 H0 E).env=(false,eval e (cv (eC P w base) P w K mg base N qual scope f cd A outer s0 H0 E).env)::Qf es (cv (eC P w base) P w K mg base N qual scope f cd A outer s0 H0 E).env:=by rfl)
  (hpl:(QF pos (Qf es (cv (eC P w base) P w K mg base N qual scope f cd A outer s0 H0 E).env)).any (·.1)=false:=by rfl):PE (cv (eC P w base) P w K mg base N qual scope f cd A outer s0 H0 E) (.Call (.Name x p) (e::es) [] pos) (bf sp [] E t):=by
 obtain⟨a,fd,hm,hk,hb,F⟩:=C.ex
 exact E5 F hr hg hm hk hb .nil Cs ha hdb he hpl
end
section
variable {X:Cx}{k:Nat}{x:PH}{ps:List PH}{sp:Sp}{e:PY}{es:List PY}{t:TA}{p pos:Qi}
theorem MD{P:Qc}{w:P8}{base:P0}:lF (eC P w base) X E0:=by
 intro pins σ H s v s' I hx
 obtain⟨_,_,_,_,_,_,_,_,_,_,_,_,_,_,q⟩:=hx
 exact q.elim
end
noncomputable def ao(K:PM)(x:PH):PK:=match Rm K QH x with
 |some (some (.ref C))=>C
 |_=>0
theorem gq{K:PM}{x:PH}{C:PK}(e:Rm K QH x=some (some (.ref C))):ao K x=C:=by
 unfold ao;rw[e]
noncomputable def keysOk(es:Array RM):Bool:=es.toList.all fun e=>match e.key with| .str _ _=>true|_=>false
theorem FV{es:Array RM}(h:keysOk es=true):StrKeys es:=by
 intro e he
 have:=(Ru.mp h) e (Xi.mpr he)
 revert this
 cases hk:e.key<;>intro q<;>first|exact⟨_,_,rfl⟩|cases q
structure eh(K:PM)(mg:PH->Option PL)(x:PH):Prop where
 bound:mg x=some (.ref (ao K x))
 some:(Rp K (ao K x)).isSome=true
 ek:my K (ao K x)
 own:∀h:P0,K.In h->OwnCls x (ao K x) [.type "ValueError",.type "Exception",.type "BaseException",.type "object"] "ValueError.__new__" mg h
section
variable {K:PM}{mg:PH->Option PL}{h:P0}{x:PH}{C N:PK}{nm q:PH}{bs bm:List PL}{hdct:Bool}{sn:List PH}{sub:List PL}{ab:Bool}{col:Option Bool}{dd:Option PK}{k0 k1 k2 k3 k5:Option PL}
 {c:PL}{d:Option PK}{es:Array RM}{ep:Nat}{sl:Array (Option PL)}{cdat:ClassData}
theorem Mg{h:P0}(X:K.In h)(n:K.lookup N=some ⟨c,d,.dict es ep,sl⟩)(hk:keysOk es=true):h.Ns N (fun y=>nsFind es y):=⟨_,es,ep,X _ _ n,rfl,FV hk,fun _=>rfl⟩
theorem Lg(X:K.In h)(G:h.Ns QH mg)(a:Rm K QH x=some (some (.ref C)))(l:K.lookup C=some (excClassObj nm q C N bs [.type "ValueError",.type "Exception",.type "BaseException",.type "object"] hdct sn sub ab col dd k0 k1 k2 k3 k5 "ValueError.__new__"))
  (n:K.lookup N=some ⟨c,d,.dict es ep,sl⟩) (g1:Q9 K (.ref C) "__getattribute__"=some (some (.builtin "BaseException.__getattribute__"))) (g2:Q9 K (.ref C) "__class__"=some (some (.builtin "object.__class__"))) (g3:Q9 K (.ref C) "__getattr__"=some none)
  (g4:U6 K C (.type "object")=some true) (g5:U6 K C (.type "BaseException")=some true) (g6:Rp K C=some cdat) (hk:keysOk es=true) (hi:nsFind es "__init__"=none):eh K mg x:=by
 have e:=gq a
 refine⟨?_,?_,?_,fun h' X'=>?_⟩
 ·rw[e];exact So X G a
 ·rw[e,g6];rfl
 ·rw[e];exact⟨g1,g2,g3,g4,g5⟩
 ·rw[e];exact⟨So X G a,_,N,nm,q,bs,hdct,sn,sub,ab,col,dd,k0,k1,k2,k3,k5,_,X' _ _ l,Mg X' n hk,hi,.base⟩
theorem Kr{C1:PK}{c1 c2:PL}{d1 d2:Option PK}{es1:Array RM}{ep1:Nat}{sl1 sl2:Array (Option PL)}{cd1:ClassData}(X:K.In h)(G:h.Ns QH mg)(a:Rm K QH x=some (some (.ref C)))(l:K.lookup C=some (excClassObj nm q C N bs (.ref C1::[.type "ValueError",.type "Exception",.type "BaseException",.type "object"]) hdct sn sub ab col dd k0 k1 k2 k3 k5 "ValueError.__new__"))
  (n:K.lookup N=some ⟨c,d,.dict es ep,sl⟩) (l1:K.lookup C1=some {cls:=c1,dict:=d1,data:=.cls cd1,slots:=sl1}) (n1:K.lookup cd1.ns=some ⟨c2,d2,.dict es1 ep1,sl2⟩)
  (g1:Q9 K (.ref C) "__getattribute__"=some (some (.builtin "BaseException.__getattribute__"))) (g2:Q9 K (.ref C) "__class__"=some (some (.builtin "object.__class__"))) (g3:Q9 K (.ref C) "__getattr__"=some none)
  (g4:U6 K C (.type "object")=some true) (g5:U6 K C (.type "BaseException")=some true) (g6:Rp K C=some cdat) (hk:keysOk es=true) (hi:nsFind es "__init__"=none) (hk1:keysOk es1=true) (hi1:nsFind es1 "__init__"=none):eh K mg x:=by
 have e:=gq a
 refine⟨?_,?_,?_,fun h' X'=>?_⟩
 ·rw[e];exact So X G a
 ·rw[e,g6];rfl
 ·rw[e];exact⟨g1,g2,g3,g4,g5⟩
 ·rw[e];exact⟨So X G a,_,N,nm,q,bs,hdct,sn,sub,ab,col,dd,k0,k1,k2,k3,k5,_,X' _ _ l,Mg X' n hk,hi,.own (X' _ _ l1) (Mg X' n1 hk1) hi1 .base⟩
end
section
variable {K:PM}{x y:PH}{C D:PK}{cd:ClassData}{r:Bool}{T:String}
theorem Lk(a:Rm K QH x=some (some (.ref C)))(b:Rm K QH y=some (some (.ref D)))(c:Rp K D=some cd)(t:V0 K (.ref D)=some (.type "type"))(s:UX K (.ref C) (.ref D)=some r)(n:C=D->r=true):
  Qb K (.ref (ao K x)) (.ref (ao K y))=some r:=by
 rw[gq a,gq b]
 unfold Qb
 split
 ·rename_i h
  rw[n (WD (beq_iff_eq.mp h))]
 ·unfold VS
  simp only
  rw[if_pos (by rw[c,t];rfl)]
  exact s
theorem Np(a:Rm K QH x=some (some (.ref C)))(m:aad T=true)(s:UX K (.ref C) (.type T)=some r):Qb K (.ref (ao K x)) (.type T)=some r:=by
 rw[gq a]
 unfold Qb
 rw[if_neg (by intro h;have:=beq_iff_eq.mp h;cases this)]
 unfold VS
 simp only
 rw[if_pos m]
 exact s
theorem Kz(a:Rm K QH x=some (some (.ref C)))(b:Rm K QH y=some (some (.ref D)))(e:UX K (.ref D) (.type "BaseException")=some true)(c:Rp K D=some cd)(t:V0 K (.ref D)=some (.type "type"))(s:UX K (.ref C) (.ref D)=some r):
  RY K (.ref (ao K x)) (.ref (ao K y))=some r:=by
 rw[gq a,gq b]
 unfold RY
 rw[if_pos (by rw[e];rfl)]
 unfold VS
 simp only
 rw[if_pos (by rw[c,t];rfl)]
 exact s
end
section
variable {P:Qc}{w:P8}{K:PM}{mg:PH->Option PL}{base:P0}{N:List PH}{qual:PH}{scope:QT}{f:PK}{cd:PL}{A:Qg}{outer:List Qq}{s0:PN}{H0:Hp}{E:XK}{x:PH}{np cpos pos:Qi}{e:PY}{es:List PY}{t:TA}
theorem c8(O:eh K mg x)(ha:PA (cv (eC P w base) P w K mg base N qual scope f cd A outer s0 H0 E) (e::es) t)(hg:Gl (cv (eC P w base) P w K mg base N qual scope f cd A outer s0 H0 E) x:=by rfl)(hc:(cv (eC P w base) P w K mg base N qual scope f cd A outer s0 H0 E).calm=true:=by rfl)(hdb:(x==("__debug__":PH))=false:=by decide)
  (he:Qf (e::es) (cv (eC P w base) P w K mg base N qual scope f cd A outer s0 H0 E).env=(false,eval e (cv (eC P w base) P w K mg base N qual scope f cd A outer s0 H0 E).env)::Qf es (cv (eC P w base) P w K mg base N qual scope f cd A outer s0 H0 E).env:=by rfl)
  (hpl:(QF cpos (Qf es (cv (eC P w base) P w K mg base N qual scope f cd A outer s0 H0 E).env)).any (·.1)=false:=by rfl):
  PS (cv (eC P w base) P w K mg base N qual scope f cd A outer s0 H0 E) (.Raise (some (.Call (.Name x np) (e::es) [] cpos)) none pos) (eJ (ao K x) E t):=fun pins s σ H D I h=>
 JX (O.own base I.ok.mod.kin) XE (by decide) XE hg hc ha hdb he hpl pins s σ H D I h
end
theorem mO{X:Cx}{x:PH}{pos:Qi}(O:eh X.K X.mg x)(hg:Gl X x:=by rfl)(hd:(x==("__debug__":PH))=false:=by decide):PE X (.Name x pos) (tC (.ref (ao X.K x))):=Bb hg O.bound rfl hd
theorem PS.nox{X:Cx}{st:P5}{t:TS}(h:PS X.nox st t):PS X st t:=fun pins s σ H D I hw=>
 Q5 (h pins s σ H D (I.wish _) hw) (fun f s' q=>by
  cases f with
  |next=>obtain⟨a,b,c,d⟩:=q;exact⟨a,b,c.unwish,d⟩
  |brk=>obtain⟨a,b,c,d⟩:=q;exact⟨a,b,c.unwish,d⟩
  |cont=>obtain⟨a,b,c,d⟩:=q;exact⟨a,b,c.unwish,d⟩
  |ret u=>obtain⟨v,a,b,c,d⟩:=q;exact⟨v,a,b,c.unwish,d⟩) fun _ _ z=>z.elim
end L2
namespace L2
open PySem PySem.Spec PyProof.Rows PySem.Builtin PySem.Builtin.Str
section
variable {X:Cx}
theorem yW:∀(l:List (PH×Tok)),bR ((l.map (·.1)).map V.str) (strValues l)
 |[]=>.nil
 |p::l=>.cons ⟨p.2,rfl⟩ (yW l)
theorem Fj:∀{xs:List PH}{us:List PL},bR (xs.map V.str) us->∃l:List (PH×Tok),us=strValues l/\l.map (·.1)=xs
 |[],_,.nil=>⟨[],rfl,rfl⟩
 |x::xs,_,.cons ⟨t,e⟩ r=>by
  obtain⟨l,h1,h2⟩:=Fj r
  exact⟨(x,t)::l,by rw[e,h1];rfl,by rw[Qu,h2]⟩
noncomputable def IJ:V->List V->Hp->VK->Prop:=fun x vs H Q=>∃(a b:PH),x=.str a/\vs=[.str b]/\(b.length==0)=false/\a.length<=PZ/\(QK a b).length<=PZ/\∀l,H l=none->Q (.ref l) (upd H l (.lst ((QK a b).map V.str)))
theorem IH:NF X "str.split" IJ:=by
 intro pins s σ H x vs v us Q I rx rv h
 obtain⟨a,b,rfl,rfl,hb,ha,hn,q⟩:=h
 obtain⟨t,rfl⟩:=rx
 obtain⟨u,rfl,u',rfl⟩:=rv.one
 have fin:∀(ps:List (PH×Tok))(tk:Nat),ps.map (·.1)=QK a b->EP X pins σ Q (.ref s.heap.objs.size) {s with toks:=tk,heap:=s.heap.push {cls:=.type "list",data:=.seq (strValues ps).toArray}}:=fun ps tk hp=>by
  refine⟨.ref s.heap.objs.size,_,I.laid (t':=tk) (a:=s.heap.objs.size) (o:=.lst ((QK a b).map V.str)) (fun b o e=>Qr _ e) (Qe _) ⟨by rw[P7];exact hn,strValues ps,0,?_,Qz _ rfl⟩,rfl,q _ (I.hok.fresh (Qe _))⟩
  rw[<-hp]
  exact yW ps
 have fl:∀c∈([]:List Nat),True:=fun _ _=>trivial
 cases h1:(decide (a.length<b.length) || decide (strKind a<strKind b))
 ·cases hf:(occurrences a b 0 a.length (a.length+1)).isEmpty
  ·have es:QK a b=partsBetween a (occurrences a b 0 a.length (a.length+1)) b.length:=(if_neg (ne_true_of_eq_false h1)).trans (if_neg (ne_true_of_eq_false hf))
   refine RJ U8 (typeIs_str _ _ _) V9 (V3 _ _) (meets_str_split_sep a b t u' h1 hb hf ha (by rw[<-es];exact hn)) ?_
   show EP X pins σ Q (.ref s.heap.objs.size) {s with toks:=_,heap:=s.heap.push {cls:=.type "list",data:=.seq (strsFrom s.toks (partsBetween a (occurrences a b 0 a.length (a.length+1)) b.length)).toArray}}
   rw[strsFrom_eq]
   exact fin _ _ ((numbered_texts _ _).trans es.symm)
  ·exact RJ U8 (typeIs_str _ _ _) V9 (V3 _ _) (meets_str_split_not_found a b t u' h1 hb hf) (fin [(a,t)] s.toks ((if_neg (ne_true_of_eq_false h1)).trans (if_pos hf)).symm)
 ·exact RJ U8 (typeIs_str _ _ _) V9 (V3 _ _) (meets_str_split_cannot_occur a b t u' h1) (fin [(a,t)] s.toks (if_pos h1).symm)
noncomputable def rJoin(K:PM):V->List V->Hp->VK->Prop:=fun x vs H Q=>∃(sep:PH)(p:PK)(xs:List PH),x=.str sep/\vs=[.ref p]/\aY K H p (xs.map V.str)/\tooLong (xs.toArray.foldl (· + ·.length+sep.length) 0)=false/\(glued sep xs).length<=PZ/\Q (.str (glued sep xs)) H
theorem kH:NF X "str.join" (rJoin X.K):=by
 intro pins s σ H x vs v us Q I rx rv h
 obtain⟨sep,p,xs,rfl,rfl,hS,hl,hz2,q⟩:=h
 obtain⟨t,rfl⟩:=rx
 obtain⟨u,rfl,ru⟩:=rv.one
 cases ru
 obtain⟨its,rvs,pl,hz⟩:=I.list hS
 obtain⟨l,rfl,hx⟩:=Fj rvs
 refine RJ Sy (typeIs_str _ _ _) F.entry_str_join (F.args_str_join_2 _ _) (meets_str_join_list sep t p l (by rw[hx];exact hl)) ⟨pl.isList,?_⟩
 have fin:∀(t':Tok)(tk:Nat),EP X pins σ Q (.str (glued sep xs) t') {s with toks:=tk}:=fun t' tk=>⟨.str (glued sep xs),H,I.tok tk,⟨t',rfl⟩,q⟩
 rcases l with _|⟨p1,_|⟨p2,l⟩⟩
 ·subst hx
  exact⟨hz2,fin _ _⟩
 ·subst hx
  have e:glued sep [p1.1]=p1.1:=by first|rfl|simp[glued]
  have:=fin p1.2 s.toks
  rw[show(Ry (·.1) [p1])=[p1.1]from rfl,e]at this
  exact this
 ·subst hx
  exact⟨hz2,fin _ _⟩
noncomputable def CT:List V->Hp->VK->Prop:=fun xs H Q=>∃(x:PH)(n:Int),xs=[.str x]/\Wf x=some n/\x.length<=640/\Q (.int n) H
theorem FW:fJ X (.type "int") CT:=by
 intro pins s σ H xs us Q I r h
 obtain⟨x,n,rfl,hn,hl,q⟩:=h
 obtain⟨u,rfl,t,rfl⟩:=vals1 r
 exact ZY hn hl ⟨.int n,H,I.tok _,⟨_,rfl⟩,q⟩
noncomputable def uX:V->List V->Hp->VK->Prop:=fun x vs H Q=>∃(a b:PH),x=.str a/\vs=[.str b]/\Q (.bl (decide (0+b.length<=a.length)&&subAt a b 0)) H
theorem yF:NF X "str.startswith" uX:=by
 intro pins s σ H x vs v us Q I rx rv h
 obtain⟨a,b,rfl,rfl,q⟩:=h
 obtain⟨t,rfl⟩:=rx
 obtain⟨u,rfl,u',rfl⟩:=rv.one
 exact RJ YK (typeIs_str _ _ _) F.entry_str_startswith (F.args_str_startswith_2 _ _) (gives_str_startswith a b t u').meets (show EP X pins σ Q (.bool (decide (0+b.length<=a.length)&&subAt a b 0)) s from⟨.bl _,H,I,rfl,q⟩)
noncomputable def qx:V->Option Int->Option Int->Hp->VK->Prop:=fun x lo hi H Q=>∃z:PH,x=.str z/\z.length<=PZ/\Q (.str (QJ z lo hi)) H
theorem jc:OZ X qx:=by
 intro pins s σ H x v vl vu lo hi sl Q I rx hs pl pu h
 obtain⟨z,rfl,hz,q⟩:=h
 obtain⟨t,rfl⟩:=rx
 refine⟨"str",_,F.slot_str_getitem.lookup,typeIs_str _ _ _,?_⟩
 have fin:∀(t':Tok)(k:Nat),EP X pins σ Q (.str (QJ z lo hi) t') {s with toks:=k}:=fun t' k=>⟨.str (QJ z lo hi),H,I.tok k,⟨t',rfl⟩,q⟩
 have hle:=P6 (aaj z lo hi) hz
 cases pl with
 |none=>
  cases pu with
  |none=>exact UN (l:=none) (u:=none) (st:=none) hs rfl (post_val_or_str ⟨hle,fin⟩)
  |int j uj=>exact UN (l:=none) (u:=some (j,uj)) (st:=none) hs rfl (post_val_or_str ⟨hle,fin⟩)
 |int i ui=>
  cases pu with
  |none=>exact UN (l:=some (i,ui)) (u:=none) (st:=none) hs rfl (post_val_or_str ⟨hle,fin⟩)
  |int j uj=>exact UN (l:=some (i,ui)) (u:=some (j,uj)) (st:=none) hs rfl (post_val_or_str ⟨hle,fin⟩)
end
end L2
namespace L2
open PySem PySem.Spec PyProof.Rows
noncomputable def OU(x:PH):It:=⟨fun i _=>i<x.cps.size,fun i H v H'=>H'=H/\v=.str ⟨#[x.cps.getD i 0]⟩,fun i _=>x.cps.size<=i⟩
theorem F8{P:Qc}{w:P8}{K:PM}{tg:PY}(it:PK)(x:PH)(t:Tok):Turn P w K tg (OU x) [it] it (fun i h=>h.IsStrIter it "str_ascii_iterator" x t i) where
 mem:=by simp
 obj:=fun i h st b hb=>by
  have e:b=it:=by simpa using hb
  subst e
  obtain⟨o,e,c,d⟩:=st
  exact⟨o,e,fun v z=>by rw[d]at z;cases z⟩
 keep:=fun i h h' st k=>by
  obtain⟨o,e,r⟩:=st
  exact⟨o,k it (by simp) o e,r⟩
 item:=by
  intro X hP hw hK hc i pins s σ H E I hf st hg
  subst hP hw hK
  obtain⟨f0,f1,f2,f3,f4,f5⟩:=hf it (by simp)
  have hg:i<x.cps.size:=hg
  refine wpAny_pyNext_ascii_item st (c:=x.cps[i]) (by simp[hg]) fun h' st' sb=>?_
  have I1:Inv X pins σ H {s with heap:=h',toks:=s.toks+1}:=I.turned (t':=s.toks+1) (fun b o hb e=>(sb.2 b hb).trans e) f0 f1 f3 f4 f5
  obtain⟨o,e,c,d⟩:=id st'
  have ex:x.cps.getD i 0=x.cps[i]:=by simp[Array.getD,hg]
  exact⟨_,rfl,CP (s:={s with heap:=h',toks:=s.toks+1}) e c d (by decide) ⟨.str ⟨#[x.cps[i]]⟩,H,I1,⟨_,rfl⟩,⟨rfl,by rw[ex]⟩,st',fun b hb=>(hf b hb).1⟩⟩
 done:=by
  intro X hP hw hK hc i pins s σ H E I hf st hg
  subst hP hw hK
  obtain⟨f0,f1,f2,f3,f4,f5⟩:=hf it (by simp)
  have hg:x.cps.size<=i:=hg
  exact wpAny_pyNext_ascii_end (I.ok.hd hc) st (by simp;omega) fun h' eb=>⟨rfl,I.turned (t':=s.toks) (fun b o hb e=>eb b o hb e) f0 f1 f3 f4 f5⟩
 self:=fun _ _ _ _ _ st h=>wpAny_pyIter_striter_ascii st h
section
variable {X:Cx}{tg:PY}
noncomputable def Fv(tl:TE):TI:=fun σ H R=>tl σ H fun v H1=>∃x:PH,v=.str x/\x.cps.all (· < 128)=true/\R (OU x) H1
theorem FJ{l:PY}{tl:TE}(hl:PE X l tl):PI X tg l (Fv tl):=by
 intro pins s σ H R I h
 refine cI (hl pins s σ H _ I h) fun v s1 ⟨y,H1,I1,r1,q1⟩=>?_
 obtain⟨x,e,ha,q⟩:=q1
 subst e
 obtain⟨t,rfl⟩:=r1
 refine wpAny_pyIter_ascii ha ?_
 refine⟨s1.heap.objs.size,[s1.heap.objs.size],_,_,H1,rfl,I1.kept (t':=s1.toks) fun b o e=>Qr _ e,F8 _ x t,⟨_,Qz _ rfl,rfl,rfl⟩,fun b hb=>?_,q⟩
 have e:b=s1.heap.objs.size:=by simpa using hb
 subst e
 exact I1.fpOk (Qe _) (I1.hok.fresh (Qe _))
end
theorem E2{x:PH}(p:Nat):Ys (OU x) (au p) (fun _=>True) x.cps.size (fun i σ=>σ.set p (some (.str ⟨#[x.cps.getD i 0]⟩))) where
 go:=fun i H hi _=>hi
 stop:=fun H _=>Qe _
 yld:=fun i H v H' σ Q hi _ y q=>by
  obtain⟨e,y⟩:=y
  subst e y
  exact q _ (av.refl _)
section
variable {X:Cx}
noncomputable def L0:R2:=fun x y H Q=>∃(z:PH)(n:Int),x=.str z/\y=.int n/\0<=n/\n<=1000/\z.length<=1000/\Q (.str (Vz z n)) H
theorem BU{z:PH}{n:Int}(h0:0<=n)(h1:n<=1000)(hz:z.length<=1000):MulOk z n:=by
 exists ?_,?_
 ·simp;omega
 ·intro a b
  have h:(1000:Int)<=(2 ^ 63-1)/n:=Int.le_ediv_of_mul_le (by omega) (by omega)
  omega
 ·intro a b
  have h:z.length*n.toNat<=1000*1000:=Nat.mul_le_mul hz (by omega)
  have k:PZ=16777216:=by decide
  refine decide_eq_false ?_
  rw[k]
  omega
theorem ER:je X (Rw .Mult) L0:=by
 intro pins s σ H x y v u Q I rx ry h
 obtain⟨z,n,rfl,rfl,h0,h1,hz,q⟩:=h
 obtain⟨t,rfl⟩:=rx
 obtain⟨t',rfl⟩:=ry
 exact SB.mul (BU h0 h1 hz) fun t' k=>⟨.str (Vz z n),H,I.tok k,⟨t',rfl⟩,q⟩
noncomputable def oN(te:TE):TE:=fun σ H Q=>te σ H fun x H1=>∃z:PH,x=.str z/\(reprText z).length<=PZ/\Q (.str (reprText z)) H1
theorem gX{e:PY}{te:TE}{pos:Qi}(he:PE X e te):PE X (.FormattedValue e 114 none pos) (oN te):=by
 intro pins s σ H Q I h
 refine wpAny_FormattedValue_repr (cI (he pins s σ H _ I h) fun v s1 ⟨x,H1,I1,r1,z,hx,hl,q⟩=>?_)
 subst hx
 obtain⟨tk,rfl⟩:=r1
 refine wpAny_pyReprObj_gives (typeIs_str _ z tk) F.slot_str_repr F.entry_str_repr (F.args_str_repr_1 _) (gives_str_repr z tk) ?_ (hx:=hl)
 have fin:∀(t':Tok)(k:Nat),EP X pins σ Q (.str (reprText z) t') {s1 with toks:=k}:=fun t' k=>⟨.str (reprText z),H1,I1.tok k,⟨t',rfl⟩,q⟩
 exact wpAny_formatField_str (fin _ _) (fin _ _) (hx:=hl)
end
noncomputable def FK(K:PM)(C:PL)(i j:Nat)(t:XK->TE)(tb:TS):TS:=fun D σ H=>
 t (fun cls _ H'=>RY K cls C=some true/\∀a oe,H' a=none->oe.cls=cls->Vj oe=true->oe.dict=none->
  tb {nx:=fun σ' H''=>D.nx (σ'.set i none) H'',rt:=D.rt,bk:=fun σ' H''=>D.bk (σ'.set i none) H'',ct:=fun σ' H''=>D.ct (σ'.set i none) H''} (σ.set i (some (.ref a))) (upd H' a (.frz oe (.own a)))) σ H fun v H'=>D.nx (σ.set j (some v)) H'
section
variable {X:Cx}{x n y:PH}{j:Nat}{py:Qi}{C:PL}{i:Nat}{t:XK->TE}{tb:TS}{e:PY}{b₀:P5}{suite:List P5}{pos epos hpos np:Qi}
theorem Ho(hj:X.N[j]?=some y)(hy:X.env.scope.names.lookup y=some .local)(hx:∀b,b∉X.ex)(hst:X.stack=X.env::X.outer)(hN:X.N.Nodup)(hi:X.N[i]?=some n)(hn:X.env.scope.names.lookup n=some .local)(hl:X.env.kindOf n=some .local)(hg:Gl X x)(hm:X.mg x=some C)
  (he:∀E,PX X e E (t E)) (hb:∀v,xI (X.marked v) (b₀::suite) tb) (hdb:(x==("__debug__":PH))=false:=by decide) (hs:swapsWith e (some (.Name y py)) epos.line X.env=pure false:=by rfl):
  PS X (.Try [.Assign [.Name y py] e epos] [.ExceptHandler (some (.Name x np)) (some n) (b₀::suite) hpos] [] [] pos) (FK X.K C i j t tb):=by
 intro pins s σ H D I h
 refine wpAny_Try_except (wpAny_execs_cons ?_)
 refine wpAny_Assign_Name (Q5 (he _ pins s σ H _ I h) (fun v s1 ⟨z,H1,I1,r1,q1⟩=>?_) ?_) hs
 ·exact mU I1 hN hj (.inl hy) r1 (fun s2 I2=>Tg (Tg ⟨_,H1,I2,q1⟩)) (.inr hy)
 ·intro ev s1 hxp
  obtain⟨a,T,cls,H1,rfl,J,fa,fT,tr,q⟩:=hxp
  obtain⟨qc,qb⟩:=q
  have hf:X.env.frame=some X.env.locals:=Ai J.ok hst
  refine K0 (base:=X.base) (outer:=X.outer) (hst▸J.ok.frames) (hst▸J.stack) hf tr J.bk fun h2 k1 k2 ⟨T2,hT2,tr2⟩=>?_
  have J2:Inv X pins σ H1 {s1 with heap:=h2}:=J.left (ch:=[a,T]) (fun b hb=>by
   have hb':b=a\/b=T:=by simpa using hb
   rcases hb' with z|z
   ·rw[z];exact fa
   ·rw[z];exact fT) (fun b o hb hs hq=>k1 b o (fun z=>hb (by simp[z])) (fun z=>hb (by simp[z])) (hst▸hs) hq) (fun b o hb hq=>k2 b o (fun z=>hb (by simp[z])) (fun z=>hb (by simp[z])) hq)
  have fT2:IP X pins H1 T2:=J.fpO (Ux hT2) (hx T2) (J.hok.fresh hT2)
  have tr3:=tr2
  obtain⟨⟨oe,vs,oT,ts,t1,t2,tn,t3,t4,t5,t6,t7⟩,t8,t9⟩:=tr3
  subst t2
  have LT:YQ (model X.prog X.w) h2 (typeOf (.ref a)) oe.cls:=(aas t1).andThen .now
  refine wpAny_handleBy_cons (codeAny_handlers_test ?_) (by intro z;cases z)
  refine rb (X:=X.marked (.ref a)) (J2.marked (.ref a)) hg hm ?_ hdb
  refine(aam J2.kIn LT qc).here ?_
  refine codeAny_handlers_suite_as ?_
  refine Ew tr2 fun h3 k3=>?_
  have J3:=Inv.left (s:={s1 with heap:=h2}) (h':=h3) (ch:=[T2]) J2 (fun b hb=>by rw[QR.mp hb];exact fT2) (fun b o hb _ hq=>k3 b o (fun z=>hb (by simp[z])) hq) (fun b o hb hq=>⟨o.slots,k3 b o (fun z=>hb (by simp[z])) hq⟩)
  have h3a:h3.get? a=some oe:=k3 a oe (Qy t9) t1
  have J4:=J3.track (a:=a) (o:=.frz oe (.own a)) fa ⟨h3a,oe,h3a⟩
  refine mU (X:=X.marked (.ref a)) (v:=.ref a) (J4.marked (.ref a)) hN hi (.inl hn) rfl (fun s5 I5=>?_) (.inr hn)
  refine Q5 (hb (.ref a) pins s5 _ _ _ I5 (qb a oe fa.1 rfl (by unfold Vj;rw[t3]) tn)) (fun fl s6 hq=>?_) fun _ _ z=>z.elim
  have hp:(X.env.scope.kind==.class || (X.env.scope.kind==.module&&X.env.locals != X.env.globals))=false:=by rw[J.ok.kind];rfl
  have go:∀{σ6 H6 R},Inv (X.marked (.ref a)) pins σ6 H6 s6->(∀s7,Inv X pins (σ6.set i none) H6 s7->SP X pins D fl s7)->(R=fun (_:Unit) s7=>SP X pins D fl s7)->PQ (model X.prog X.w) X.A (do bindName X.env n .none;unbindBehindTheSuite X.env n hpos) R X.xe s6:=fun {σ6 H6 R} I6 w e=>by
   subst e
   have I7:=Inv.unmarked J.ok I6
   obtain⟨m,hn6,hl6⟩:=id I7.loc
   exact wpAny_nameGoes_keeps hl hn6 hp fun h7 v7 hn7 hs7=>w _ (I7.forget hN hi hn6 hl6 hn7 hs7)
  cases fl with
  |next=>
   obtain⟨σ6,H6,I6,q6⟩:=hq
   exact go I6 (fun s7 I7=>⟨_,_,I7,q6⟩) rfl
  |brk=>
   obtain⟨σ6,H6,I6,q6⟩:=hq
   exact go I6 (fun s7 I7=>⟨_,_,I7,q6⟩) rfl
  |cont=>
   obtain⟨σ6,H6,I6,q6⟩:=hq
   exact go I6 (fun s7 I7=>⟨_,_,I7,q6⟩) rfl
  |ret u=>
   obtain⟨v6,σ6,H6,I6,r6,q6⟩:=hq
   exact go I6 (fun s7 I7=>⟨v6,_,_,I7,r6,q6⟩) rfl
end
structure HS(mg:PH->Option PL)(x:PH)(i:PH):Prop where
 ex:∃t,mg x=some (.str i t)
theorem HS.pe{X:Cx}{x:PH}{i:PH}{pos:Qi}(k:HS X.mg x i)(hg:Gl X x)(hd:(x==("__debug__":PH))=false:=by decide):PE X (.Name x pos) (tC (.str i)):=by
 obtain⟨t,e⟩:=k.ex
 exact Bb hg e ⟨t,rfl⟩ hd
theorem LJ{K:PM}{mg:PH->Option PL}{h:P0}{x:PH}{i:PH}{t:Tok}(X:K.In h)(G:h.Ns QH mg)(z:Rm K QH x=some (some (.str i t))):HS mg x i:=⟨t,So X G z⟩
noncomputable def dh:R2:=fun x y H Q=>∃i j,x=.str i/\y=.str j/\i.length+j.length<=PZ/\Q (.str (i++j)) H
noncomputable def HN:R2:=fun x y H Q=>∃i j,x=.str i/\y=.str j/\Q (.bl (!(TQ j i 0 j.length 1).isEmpty)) H
noncomputable def qm:List V->Hp->VK->Prop:=fun xs H Q=>∃i,xs=[.int i]/\i.natAbs.log2<1920/\Q (.str (toString i)) H
noncomputable def vq:List V->Hp->VK->Prop:=fun xs H Q=>∃z:PH,xs=[.str z]/\z.length<=PZ/\Q (.int z.length) H
section
variable {X:Cx}
theorem bX:je X (Rw .Add) dh:=D6
theorem Ja:je X (QP .In) HN:=F9
theorem ie:fJ X (.type "str") qm:=zO
theorem nU:fJ X (.builtin "len") vq:=AG
end
structure cw(K:PM)(c m qual:PH)(st:P5)(ps:List PH):Prop where
 ex:∃f fd,F0 K (ao K c) m f/\MC K m qual st f fd/\∀us:List PL,us.length=ps.length->bindArgs fd ⟨us,[]⟩=pure (ps.zip us)
structure eO(CX:FT)(P:Qc)(w:P8)(K:PM)(mg:PH->Option PL)(base:P0)(k:Nat)(c m:PH)(ps:List PH)(sp:Sp):Prop where
 ex:∃f fd,F0 K (ao K c) m f/\Binds K fd ps []/\mG P w K mg base CX k f fd ps sp
structure mF(K:PM)(mg:PH->Option PL)(c:PH):Prop where
 bound:mg c=some (.ref (ao K c))
 cls:gY K (ao K c)
 makes:UU K (ao K c)=true
 kp:RN K (.ref (ao K c))=true
section
variable {P:Qc}{w:P8}{K:PM}{mg:PH->Option PL}{base:P0}
theorem cw.cal{c m qual:PH}{st:P5}{ps N:List PH}{rd:TS}{k:Nat}{sp:Sp}(F:cw K c m qual st ps)(S:aB N ps (aq st))(len:∀vs H Q E,sp vs H Q E->vs.length=ps.length)
  (hb:∀(f:PK)(cdv:PL)(A:Qg)(outer:List Qq)(s:PN)(H:Hp)(E:XK),di k (A.deeper (Q7 qual (aq st) s.heap.objs.size f cdv))->xI (cv sD P w K mg base N qual (aq st) f cdv A outer s H E).nox (dI st) rd)
  (hr:∀vs H Q E,sp vs H Q E->rd {nx:=fun _ H'=>Q .non H',rt:=Q} (start N vs) H):eO sD P w K mg base (k+1) c m ps sp:=by
 obtain⟨a,fd,hm,hF,hbd⟩:=F.ex
 exact⟨a,fd,hm,.all hbd,hF.ok S len fun cdv A outer s H vs Q E room h=>⟨rd,hb a cdv A outer s H E room,hr vs H Q E h⟩⟩
theorem cw.calX{c m qual:PH}{st:P5}{ps N:List PH}{rd:XK->TS}{k:Nat}{sp:Sp}(F:cw K c m qual st ps)(S:aB N ps (aq st))(len:∀vs H Q E,sp vs H Q E->vs.length=ps.length)
  (hb:∀(f:PK)(cdv:PL)(A:Qg)(outer:List Qq)(s:PN)(H:Hp)(E:XK),di k (A.deeper (Q7 qual (aq st) s.heap.objs.size f cdv))->xI (cv (eC P w base) P w K mg base N qual (aq st) f cdv A outer s H E) (dI st) (rd E))
  (hr:∀vs H Q E,sp vs H Q E->rd E {nx:=fun _ H'=>Q .non H',rt:=Q} (start N vs) H):eO (eC P w base) P w K mg base (k+1) c m ps sp:=by
 obtain⟨a,fd,hm,hF,hbd⟩:=F.ex
 exact⟨a,fd,hm,.all hbd,hF.okX S len fun cdv A outer s H vs Q E room h=>⟨rd E,hb a cdv A outer s H E room,hr vs H Q E h⟩⟩
theorem Lq{h:P0}{c m qual:PH}{st:P5}{ps:List PH}{C f:PK}{oc:PL}{od an:Option PK}{osl:Array (Option PL)}{kV doc pm cdv ct:PL}
  (a:Rm K QH c=some (some (.ref C))) (a4:Q9 K (.ref C) m=some (some (.ref f))) (fn:UJ K (.ref f)=true) (l4:K.lookup f=some ⟨oc,od,.func (Sf m qual (lE st) (dI st) (aq st) .none kV doc pm an cdv ct),osl⟩)
  (c4:T8 K cdv qual=true) (k4:RN K (.ref f)=true)
  (hb:∀(kV doc pm:PL)(an:Option PK)(cdv ct:PL)(us:List PL),us.length=ps.length->bindArgs (Sf m qual (lE st) (dI st) (aq st) .none kV doc pm an cdv ct) ⟨us,[]⟩=pure (ps.zip us)):cw K c m qual st ps:=
 ⟨f,_,by rw[gq a];exact⟨a4,fn,k4⟩,JC l4 c4 k4,hb kV doc pm an cdv ct⟩
theorem Nv{h:P0}{c:PH}{C:PK}(X:K.In h)(G:h.Ns QH mg)(a:Rm K QH c=some (some (.ref C)))(pg:Ub K C Qp=true)(hd:U4 K C=true)(po:VM K C=true)
  (sa:Q9 K (.ref C) "__setattr__"=some (some (.builtin "object.__setattr__"))) (mk:UU K C=true) (kp:RN K (.ref C)=true):mF K mg c:=by
 have e:=gq a
 exact⟨by rw[e];exact So X G a,by rw[e];exact⟨pg,hd,po,sa⟩,by rw[e];exact mk,by rw[e];exact kp⟩
theorem FU{c f:PH}{C:PK}(a:Rm K QH c=some (some (.ref C)))(n:Q9 K (.ref C) f=some none):dg K (ao K c) f:=by
 rw[gq a];exact n
end
section
variable {X:Cx}{k:Nat}{c m:PH}{ps:List PH}{sp:Sp}{o e:PY}{es:List PY}{ta:TE}{t:TA}{apos pos p:Qi}{pl:Sem Bool}
theorem rj(M:eO sD X.prog X.w X.K X.mg X.base k c m ps sp)(C:mF X.K X.mg c)(hr:di k X.A)(he:PE X o ta)(ha:PA X (e::es) t)
  (hst:Qf (e::es) X.env=(false,eval e X.env)::Qf es X.env:=by rfl) (hpl:(QF pos (Qf es X.env)).any (·.1)=false:=by rfl)
  (ht:eval (.Call (.Attribute o m apos) (e::es) [] pos) X.env=(do
   let ov <-eval o X.env
   standAt apos.atName
   let (f,first) <-holding [ov] (R0 ov m pl)
   callWith pos f first (QF pos (Qf (e::es) X.env)) (RW pos (RO [] X.env))):=by rfl):PE X (.Call (.Attribute o m apos) (e::es) [] pos) (cD (ao X.K c) m sp [] E0 ta t):=by
 obtain⟨f,fd,hm,hb,F⟩:=M.ex
 exact AN he C.cls hm F hr hb .nil Fo ha hst hpl ht
theorem nM(M:eO sD X.prog X.w X.K X.mg X.base k c m ps sp)(C:mF X.K X.mg c)(hr:di k X.A)(he:PE X o ta)
  (ht:eval (.Call (.Attribute o m apos) [] [] pos) X.env=(do
   let ov <-eval o X.env
   standAt apos.atName
   let (f,first) <-holding [ov] (R0 ov m pl)
   callWith pos f first (QF pos (Qf [] X.env)) (RW pos (RO [] X.env))):=by rfl):PE X (.Call (.Attribute o m apos) [] [] pos) (cD (ao X.K c) m sp [] E0 ta az):=by
 obtain⟨f,fd,hm,hb,F⟩:=M.ex
 exact HM he C.cls hm F hr hb .nil Fo ht
theorem JR(M:eO (eC X.prog X.w X.base) X.prog X.w X.K X.mg X.base k c m ps sp)(C:mF X.K X.mg c)(hr:di k X.A)(he:PE X o ta)(ha:PA X (e::es) t)
  (hst:Qf (e::es) X.env=(false,eval e X.env)::Qf es X.env:=by rfl) (hpl:(QF pos (Qf es X.env)).any (·.1)=false:=by rfl)
  (ht:eval (.Call (.Attribute o m apos) (e::es) [] pos) X.env=(do
   let ov <-eval o X.env
   standAt apos.atName
   let (f,first) <-holding [ov] (R0 ov m pl)
   callWith pos f first (QF pos (Qf (e::es) X.env)) (RW pos (RO [] X.env))):=by rfl):PE X (.Call (.Attribute o m apos) (e::es) [] pos) (cD (ao X.K c) m sp [] E0 ta t):=by
 obtain⟨f,fd,hm,hb,F⟩:=M.ex
 exact AN he C.cls hm F hr hb .nil MD ha hst hpl ht
theorem su(M:eO sD X.prog X.w X.K X.mg X.base k c "__init__" ps sp)(C:mF X.K X.mg c)(hr:di (k+1) X.A)(hg:Gl X c:=by rfl)(hdb:(c==("__debug__":PH))=false:=by decide):PE X (.Call (.Name c p) [] [] pos) (yP (ao X.K c) sp [] E0 az):=by
 obtain⟨f,fd,hm,hb,F⟩:=M.ex
 exact IC ⟨C.makes,hm.at_,hm.fn,C.kp⟩ F hr hg C.bound hb .nil Fo hdb
end
section
variable {P:Qc}{w:P8}{K:PM}{mg:PH->Option PL}{base:P0}{N:List PH}{qual:PH}{scope:QT}{f:PK}{cd:PL}{A:Qg}{outer:List Qq}{s0:PN}{H0:Hp}{E:XK}{k:Nat}{ps:List PH}{sp:Sp}{c m:PH}{apos pos:Qi}{o e:PY}{es:List PY}{ta:TE}{t:TA}{pl:Sem Bool}
theorem cU(M:eO (eC P w base) P w K mg base k c m ps sp)(C:mF K mg c)(hr:di k (cv (eC P w base) P w K mg base N qual scope f cd A outer s0 H0 E).A)(he:PE (cv (eC P w base) P w K mg base N qual scope f cd A outer s0 H0 E) o ta)(ha:PA (cv (eC P w base) P w K mg base N qual scope f cd A outer s0 H0 E) (e::es) t)
  (hst:Qf (e::es) (cv (eC P w base) P w K mg base N qual scope f cd A outer s0 H0 E).env=(false,eval e (cv (eC P w base) P w K mg base N qual scope f cd A outer s0 H0 E).env)::Qf es (cv (eC P w base) P w K mg base N qual scope f cd A outer s0 H0 E).env:=by rfl)
  (hpl:(QF pos (Qf es (cv (eC P w base) P w K mg base N qual scope f cd A outer s0 H0 E).env)).any (·.1)=false:=by rfl)
  (ht:eval (.Call (.Attribute o m apos) (e::es) [] pos) (cv (eC P w base) P w K mg base N qual scope f cd A outer s0 H0 E).env=(do
   let ov <-eval o (cv (eC P w base) P w K mg base N qual scope f cd A outer s0 H0 E).env
   standAt apos.atName
   let (f',first) <-holding [ov] (R0 ov m pl)
   callWith pos f' first (QF pos (Qf (e::es) (cv (eC P w base) P w K mg base N qual scope f cd A outer s0 H0 E).env)) (RW pos (RO [] (cv (eC P w base) P w K mg base N qual scope f cd A outer s0 H0 E).env))):=by rfl):
  PE (cv (eC P w base) P w K mg base N qual scope f cd A outer s0 H0 E) (.Call (.Attribute o m apos) (e::es) [] pos) (cD (ao K c) m sp [] E ta t):=by
 obtain⟨f',fd,hm,hb,F⟩:=M.ex
 exact AN he C.cls hm F hr hb .nil Cs ha hst hpl ht
end
section
variable {κ:Type} [DecidableEq κ]
noncomputable def gK(kvs:List (κ×V))(k:κ):Option V:=(kvs.find? fun kv=>decide (kv.1=k)).map (·.2)
noncomputable def putK(kvs:List (κ×V))(k:κ)(v:V):List (κ×V):=
 if(kvs.any fun kv=>decide (kv.1=k))=true then kvs.map (fun kv=>if kv.1=k then(kv.1,v)else kv)else kvs++[(k,v)]
noncomputable def rn(kvs:List (κ×V))(k:κ):List (κ×V):=kvs.filter fun kv=>decide (kv.1≠k)
theorem qj{p:κ×V}{r:List (κ×V)}{k:κ}(e:p.1=k):gK (p::r) k=some p.2:=by simp[gK,Ti,e]
theorem mQ{p:κ×V}{r:List (κ×V)}{k:κ}(e:¬p.1=k):gK (p::r) k=gK r k:=by simp[gK,Ti,e]
theorem u6(k:κ):∀kvs:List (κ×V),(kvs.any fun kv=>decide (kv.1=k))=(gK kvs k).isSome
 |[]=>rfl
 |p::r=>by
  rw[R7]
  by_cases e:p.1=k
  ·simp only[qj e,decide_eq_true e,Bool.true_or,Yv]
  ·rw[mQ e,decide_eq_false e,WV];exact u6 k r
theorem sX(kvs:List (κ×V))(k:κ)(v:V):(putK kvs k v).length<=kvs.length+1:=by
 unfold putK
 split
 ·rw[P7];omega
 ·rw[QU,QV,VI];omega
theorem J9{kvs:List (κ×V)}{k:κ}(v:V)(h:gK kvs k=none):putK kvs k v=kvs++[(k,v)]:=by
 unfold putK
 rw[u6,h]
 exact if_neg (by decide)
theorem ni.isSome_eq{o:Option V}{u:Option PL}(r:ni o u):o.isSome=u.isSome:=by
 cases o with
 |none=>cases u with
  |none=>rfl
  |some _=>exact(show False from r).elim
 |some _=>cases u with
  |none=>exact(show False from r).elim
  |some _=>rfl
theorem KV.val{kvs:List (κ×V)}{vs:List (κ×PL)}(r:KV kvs vs)(k:κ):ni (gK kvs k) (valueAt vs k):=by
 unfold KV at r
 induction r with
 |nil=>exact SF
 |@cons p q ps qs h t ih=>
  obtain⟨h1,h2⟩:=h
  by_cases e:p.1=k
  ·have e':q.1=k:=h1.symm.trans e
   have b:valueAt (q::qs) k=some q.2:=by simp[valueAt,Ti,e']
   rw[qj e,b];exact h2
  ·have e':¬q.1=k:=fun z=>e (h1.trans z)
   have b:valueAt (q::qs) k=valueAt qs k:=by simp[valueAt,Ti,e']
   rw[mQ e,b];exact ih
theorem KV.any{kvs:List (κ×V)}{vs:List (κ×PL)}(r:KV kvs vs)(k:κ):(kvs.any fun kv=>decide (kv.1=k))=vs.any fun kv=>decide (kv.1=k):=by
 unfold KV at r
 induction r with
 |nil=>rfl
 |cons h t ih=>rw[R7,R7,ih,h.1]
theorem KV.repl{kvs:List (κ×V)}{vs:List (κ×PL)}(r:KV kvs vs)(k:κ){y:V}{u:PL}(ry:RelV y u):
  KV (kvs.map fun kv=>if kv.1=k then(kv.1,y)else kv) (vs.map fun kv=>if kv.1=k then(kv.1,u)else kv):=by
 unfold KV at r ⊢
 induction r with
 |nil=>exact .nil
 |@cons p q ps qs h t ih=>
  rw[Qu,Qu]
  refine .cons ?_ ih
  obtain⟨h1,h2⟩:=h
  by_cases e:p.1=k
  ·rw[if_pos e,if_pos (h1.symm.trans e)];exact⟨h1,ry⟩
  ·rw[if_neg e,if_neg (fun z=>e (h1.trans z))];exact⟨h1,h2⟩
theorem KV.put{kvs:List (κ×V)}{vs:List (κ×PL)}(r:KV kvs vs)(k:κ){y:V}{u:PL}(ry:RelV y u):KV (putK kvs k y) (stored vs k u):=by
 unfold putK stored
 rw[r.any k]
 by_cases e:(vs.any fun kv=>decide (kv.1=k))=true
 ·rw[if_pos e,if_pos e];exact r.repl k ry
 ·rw[if_neg e,if_neg e];exact WG r ⟨rfl,ry⟩
theorem KV.drop{kvs:List (κ×V)}{vs:List (κ×PL)}(r:KV kvs vs)(k:κ):KV (rn kvs k) (without vs k):=by
 unfold KV at r ⊢
 unfold rn without
 induction r with
 |nil=>exact .nil
 |@cons p q ps qs h t ih=>
  obtain⟨h1,h2⟩:=h
  rw[SR,SR]
  by_cases e:p.1=k
  ·have a:¬decide (p.1≠k)=true:=by simp[e]
   have b:¬decide (q.1≠k)=true:=by simp[h1.symm.trans e]
   rw[if_neg a,if_neg b];exact ih
  ·have e':¬q.1=k:=fun z=>e (h1.trans z)
   have a:decide (p.1≠k)=true:=by simp[e]
   have b:decide (q.1≠k)=true:=by simp[e']
   rw[if_pos a,if_pos b];exact .cons ⟨h1,h2⟩ ih
theorem KV.length{kvs:List (κ×V)}{vs:List (κ×PL)}(r:KV kvs vs):kvs.length=vs.length:=Qw r
theorem CJ(kvs:List (κ×V))(k:κ):(rn kvs k).length<=kvs.length:=RB _ _
end
theorem tK{P:Qc}{w:P8}{k:Key}{u:PL}(r:RelV (kV k) u):(aX P w).is k u=true:=by
 cases k with
 |inl i=>obtain⟨t,e⟩:=(show ∃t,u=RZ i t from r);subst e;exact Cj P w i t
 |inr x=>obtain⟨t,e⟩:=(show ∃t,u=SU x t from r);subst e;exact Cg P w x t
theorem zD{P:Qc}{w:P8}:∀{ks:List Key}{us:List PL},bR (ks.map kV) us->ItemsAre (aX P w) ks us
 |[],_,r=>by rw[S7]at r;cases r;exact .nil
 |k::ks,_,r=>by
  rw[Qu]at r
  cases r with
  |cons h t=>exact .cons (tK h) (zD t)
noncomputable abbrev KT(H:Hp):List (List Key×V)->List (List Key×PK×PL)->Prop:=Qd fun p q=>p.1=q.1/\H q.2.1=some (.tup (p.1.map kV))/\RelV p.2 q.2.2
theorem KT.val{H:Hp}{kvs:List (List Key×V)}{xs:List (List Key×PK×PL)}(r:KT H kvs xs)(k:List Key):ni (gK kvs k) ((atKey xs k).map (·.2)):=by
 induction r with
 |nil=>exact SF
 |@cons p q ps qs h t ih=>
  obtain⟨h1,_,h2⟩:=h
  by_cases e:p.1=k
  ·have e':q.1=k:=h1.symm.trans e
   have b:atKey (q::qs) k=some q.2:=by simp[atKey,Ti,e']
   rw[qj e,b];exact h2
  ·have e':¬q.1=k:=fun z=>e (h1.trans z)
   have b:atKey (q::qs) k=atKey qs k:=by simp[atKey,Ti,e']
   rw[mQ e,b];exact ih
theorem KT.repl{H:Hp}{kvs:List (List Key×V)}{xs:List (List Key×PK×PL)}(r:KT H kvs xs)(k:List Key){y:V}{u:PL}(ry:RelV y u):
  KT H (kvs.map fun kv=>if kv.1=k then(kv.1,y)else kv) (xs.map (putAt k u)):=by
 induction r with
 |nil=>exact .nil
 |@cons p q ps qs h t ih=>
  rw[Qu,Qu]
  refine .cons ?_ ih
  obtain⟨h1,h2,h3⟩:=h
  unfold putAt
  by_cases e:p.1=k
  ·rw[if_pos e,if_pos (h1.symm.trans e)];exact⟨h1,h2,ry⟩
  ·rw[if_neg e,if_neg (fun z=>e (h1.trans z))];exact⟨h1,h2,h3⟩
theorem KT.put{H:Hp}{kvs:List (List Key×V)}{xs:List (List Key×PK×PL)}(r:KT H kvs xs)(k:List Key){b:PK}{y:V}{u:PL}(hb:H b=some (.tup (k.map kV)))(ry:RelV y u):
  KT H (putK kvs k y) (storedH xs k b u):=by
 have e:(kvs.any fun kv=>decide (kv.1=k))=(atKey xs k).isSome:=by
  rw[u6,(r.val k).isSome_eq,VU]
 unfold putK storedH
 rw[e]
 by_cases q:(atKey xs k).isSome=true
 ·rw[if_pos q,if_pos q];exact r.repl k ry
 ·rw[if_neg q,if_neg q];exact WG r ⟨rfl,hb,ry⟩
theorem KT.keeps{H H':Hp}{kvs:List (List Key×V)}{xs:List (List Key×PK×PL)}(r:KT H kvs xs)(ht:∀b ys,H b=some (.tup ys)->H' b=some (.tup ys)):KT H' kvs xs:=
 Paired.mapP r fun _ _ z=>⟨z.1,ht _ _ z.2.1,z.2.2⟩
section
variable {P:Qc}{w:P8}{H:Hp}{h:P0}{a:PK}
theorem L6{u:HO}(ok:oj P w H h)(e:Rd H a u):dc P w H h a u:=e.ok ok
theorem gA{kvs:List (Key×V)}(ok:oj P w H h)(e:Rd H a (.dK kvs)):kvs.length<=PZ/\(a==RD)=false/\∃vs,KV kvs vs/\h.DictOf (aX P w) a vs:=
 show dc P w H h a (.dK kvs)from L6 ok e
theorem JE{kvs:List (Key×V)}(ok:oj P w H h)(e:H a=some (.dK kvs)):kvs.length<=PZ/\(a==RD)=false/\∃vs,KV kvs vs/\h.DictOf (aX P w) a vs:=gA ok (.inl e)
theorem wy{ks:List Key}(ok:oj P w H h)(e:H a=some (.tup (ks.map kV))):(tupleKind (aX P w)).is h ks a:=by
 obtain⟨_,its,r,o,h1,h2,n,h3⟩:=(show dc P w H h a (.tup (ks.map kV))from ok a _ e)
 exact⟨o,its.toArray,n,h1,h2,h3,by simpa using zD r⟩
theorem zr{kvs:List (List Key×V)}(ok:oj P w H h)(e:Rd H a (.dT kvs)):kvs.length<=PZ/\(a==RD)=false/\
  ∃xs,KT H kvs xs/\h.DictOfH (tupleKind (aX P w)) a xs:=by
 obtain⟨z,y,xs,r,o,es,ep,h1,h2,h3,h4,h5⟩:=(show dc P w H h a (.dT kvs)from L6 ok e)
 refine⟨z,y,xs,r,o,es,ep,h1,h2,h3,h4,fun x hx=>?_,h5⟩
 have all:∀{l:List (List Key×V)}{m:List (List Key×PK×PL)},KT H l m->∀x∈m,(tupleKind (aX P w)).is h x.1 x.2.1:=by
  intro l m q
  induction q with
  |nil=>intro x hx;exact nomatch hx
  |@cons p q ps qs hq t ih=>
   intro x hx
   rcases Qa.mp hx with e|hx
   ·subst e
    exact wy ok (by rw[<-hq.1];exact hq.2.1)
   ·exact ih x hx
 exact all r x hx
theorem Oo{kvs:List (List Key×V)}(ok:oj P w H h)(e:H a=some (.dT kvs)):kvs.length<=PZ/\(a==RD)=false/\
  ∃xs,KT H kvs xs/\h.DictOfH (tupleKind (aX P w)) a xs:=zr ok (.inl e)
end
noncomputable def qg(H:Hp)(a:PK)(y:V)(r:Option V):Prop:=
 (∃kvs k,Rd H a (.dK kvs)/\y=kV k/\r=gK kvs k)\/∃kvs k b,Rd H a (.dT kvs)/\y=.ref b/\H b=some (.tup (k.map kV))/\r=gK kvs k
noncomputable def Gk(H:Hp)(a:PK)(y v:V)(H':Hp):Prop:=
 (∃kvs k,H a=some (.dK kvs)/\y=kV k/\kvs.length<PZ/\H'=upd H a (.dK (putK kvs k v)))\/
 ∃kvs k b,H a=some (.dT kvs)/\y=.ref b/\H b=some (.tup (k.map kV))/\kvs.length<PZ/\H'=upd H a (.dT (putK kvs k v))
theorem qg.k{H:Hp}{a:PK}{kvs:List (Key×V)}{k:Key}(e:H a=some (.dK kvs)):qg H a (kV k) (gK kvs k):=.inl ⟨kvs,k,.inl e,rfl,rfl⟩
theorem Gk.k{H:Hp}{a:PK}{kvs:List (Key×V)}{k:Key}{v:V}(e:H a=some (.dK kvs))(hl:kvs.length<PZ):Gk H a (kV k) v (upd H a (.dK (putK kvs k v))):=.inl ⟨kvs,k,e,rfl,hl,rfl⟩
section
variable {X:Cx}{pins:List (PK×PV)}{σ:St}{H:Hp}{s:PN}{a:PK}{y v:V}{u r:PL}{o:Option V}{A:Qg}{E:PL->PN->Prop}
theorem Inv.big(I:Inv X pins σ H s):RD<s.heap.objs.size:=by
 have h:QH<s.heap.objs.size:=(I.mod.glob.keeps I.bk).lt
 exact Uy (by decide) h
theorem GQ{Q:PL->PN->Prop}(hu:A.units+1<cLine)(I:Inv X pins σ H s)(g:qg H a y (some v))(ry:RelV y u)(h:∀w' s',Inv X pins σ H s'->RelV v w'->Q w' s'):
  PQ (model X.prog X.w) A (getItem (.ref a) u) Q E s:=by
 rcases g with⟨kvs,k,e,ey,l⟩|⟨kvs,k,b,e,ey,eb,l⟩
 ·subst ey
  obtain⟨z,hd,vs,rel,dd⟩:=gA I.hok e
  obtain⟨w',hw,rw'⟩:=ni.some_of (v:=v) (o:=valueAt vs k) (by rw[l];exact rel.val k)
  exact wpAny_getItem_of (tK ry) dd.mapOf hw (h w' _ (I.tok _) rw')
 ·subst ey
  cases(show u=Qo b from ry)
  obtain⟨z,hd,xs,rel,dd⟩:=zr I.hok e
  obtain⟨w',hw,rw'⟩:=ni.some_of (v:=v) (o:=(atKey xs k).map (·.2)) (by rw[l];exact rel.val k)
  obtain⟨p,hp,hp2⟩:=Option.map_eq_some_iff.mp hw
  refine wpAny_getItem_heap (UZ hu) (wy I.hok eb) dd hp ?_
  rw[hp2]
  exact h w' _ (I.tok _) rw'
theorem Pj{Q:PL->PN->Prop}(hu:A.units+1<cLine)(I:Inv X pins σ H s)(g:qg H a y o)(ry:RelV y u)(h:∀s',Inv X pins σ H s'->Q (.bool o.isSome) s'):
  PQ (model X.prog X.w) A (QP .In u (.ref a)) Q E s:=by
 rcases g with⟨kvs,k,e,ey,l⟩|⟨kvs,k,b,e,ey,eb,l⟩
 ·subst ey
  obtain⟨z,hd,vs,rel,dd⟩:=gA I.hok e
  refine wpAny_in_of (tK ry) hd dd.mapOf ?_
  rw[<-(rel.val k).isSome_eq,<-l]
  exact h _ (I.tok _)
 ·subst ey
  cases(show u=Qo b from ry)
  obtain⟨z,hd,xs,rel,dd⟩:=zr I.hok e
  refine wpAny_in_heap (UZ hu) (wy I.hok eb) hd dd ?_
  have q:=(rel.val k).isSome_eq
  rw[VU]at q
  rw[<-q,<-l]
  exact h _ (I.tok _)
theorem Lv{Q:PL->PN->Prop}(hu:A.units+1<cLine)(I:Inv X pins σ H s)(g:qg H a y o)(ry:RelV y u)(h:∀s',Inv X pins σ H s'->Q (.bool (!o.isSome)) s'):
  PQ (model X.prog X.w) A (QP .NotIn u (.ref a)) Q E s:=by
 rcases g with⟨kvs,k,e,ey,l⟩|⟨kvs,k,b,e,ey,eb,l⟩
 ·subst ey
  obtain⟨z,hd,vs,rel,dd⟩:=gA I.hok e
  refine wpAny_notIn_of (tK ry) hd dd.mapOf ?_
  rw[<-(rel.val k).isSome_eq,<-l]
  exact h _ (I.tok _)
 ·subst ey
  cases(show u=Qo b from ry)
  obtain⟨z,hd,xs,rel,dd⟩:=zr I.hok e
  refine wpAny_notIn_heap (UZ hu) (wy I.hok eb) hd dd ?_
  have q:=(rel.val k).isSome_eq
  rw[VU]at q
  rw[<-q,<-l]
  exact h _ (I.tok _)
theorem uW{h':P0}{t':Nat}{ob:HO}(I:Inv X pins σ H s)(mu:Ou (H a))(hs:RT a s.heap h')(he:∃q,h'.get? a=some q)(new:dc X.prog X.w (upd H a ob) h' a ob):
  Inv X pins σ (upd H a ob) {s with heap:=h',toks:=t'}:=
 I.write (x:=a) (e:=a) mu (.inl rfl) (fun b q hb z=>(hs.2 b hb).trans z) he new
theorem wI{P:Qc}{w:P8}{H':Hp}{h':P0}{kvs:List (Key×V)}{vs:List (Key×PL)}(z:kvs.length<=PZ)(hd:(a==RD)=false)(rel:KV kvs vs)(dd:h'.DictOf (aX P w) a vs):
  dc P w H' h' a (.dK kvs):=⟨z,hd,vs,rel,dd⟩
theorem GA{H':Hp}{Q:Unit->PN->Prop}(hu:A.units+1<cLine)(I:Inv X pins σ H s)(g:Gk H a y v H')(ry:RelV y u)(rv:RelV v r)(h:∀s',Inv X pins σ H' s'->Q () s'):
  PQ (model X.prog X.w) A (setItem (.ref a) u r) Q E s:=by
 rcases g with⟨kvs,k,e,ey,l,eH⟩|⟨kvs,k,b,e,ey,eb,l,eH⟩
 ·subst ey eH
  obtain⟨z,hd,vs,rel,dd⟩:=JE I.hok e
  have hz:vs.length<=PZ:=by rw[<-rel.length];exact z
  have hl:(putK kvs k v).length<=PZ:=by have:=sX kvs k v;omega
  refine wpAny_setItem_pairs (hsz:=hz) (tK ry) dd fun h' dd' hs=>h _ ?_
  have he:∃q,h'.get? a=some q:=let ⟨q,_,_,hq,_⟩:=dd';⟨q,hq⟩
  exact uW I (by rw[e];exact SF) hs he (wI hl hd (rel.put k rv) dd')
 ·subst ey eH
  cases(show u=Qo b from ry)
  obtain⟨z,hd,xs,rel,dd⟩:=Oo I.hok e
  have hz:xs.length<=PZ:=by rw[<-Qw rel];exact z
  have hl:(putK kvs k v).length<=PZ:=by have:=sX kvs k v;omega
  refine wpAny_setItem_heap (hsz:=hz) (UZ hu) (wy I.hok eb) dd fun h' dd' hs=>h _ ?_
  obtain⟨q,es,ep,hq,h2,h3,h4,_,h5⟩:=dd'
  refine uW I (by rw[e];exact SF) hs ⟨q,hq⟩ ⟨hl,hd,_,(rel.put k eb rv).keeps fun c ys ec=>?_,q,es,ep,hq,h2,h3,h4,h5⟩
  rw[ak (Og ec e (fun z=>nomatch z))]
  exact ec
end
section
variable {X:Cx}{pins:List (PK×PV)}{σ:St}{H:Hp}{s:PN}{a:PK}{kvs:List (Key×V)}{k:Key}{u:PL}{A:Qg}{E:PL->PN->Prop}
theorem NJ{Q:Unit->PN->Prop}(I:Inv X pins σ H s)(e:H a=some (.dK kvs))(ry:RelV (kV k) u)(l:(gK kvs k).isSome=true)(h:∀s',Inv X pins σ (upd H a (.dK (rn kvs k))) s'->Q () s'):
  PQ (model X.prog X.w) A (delItem (.ref a) u) Q E s:=by
 obtain⟨z,hd,vs,rel,dd⟩:=JE I.hok e
 refine wpAny_delItem_slot dd.typeIs (by decide) WX
  (TU WX dd.typeIs ZZ (ZE _ _) (meets_dict_delitem_pairs (aX X.prog X.w) a (tK ry)) ⟨vs,dd,by rw[<-rel.length];exact z,by rw[<-(rel.val k).isSome_eq];exact l,fun h' dd' hs=>h _ ?_⟩)
 have he:∃q,h'.get? a=some q:=let ⟨q,_,_,hq,_⟩:=dd';⟨q,hq⟩
 exact uW I (by rw[e];exact SF) hs he (wI (P6 (CJ kvs k) z) hd (rel.drop k) dd')
theorem N7{v:V}{more:List PL}{Q:PL->PN->Prop}(I:Inv X pins σ H s)(e:H a=some (.dK kvs))(ry:RelV (kV k) u)(l:gK kvs k=some v)(hm:more=[]\/∃x,more=[x])
  (h:∀w' s',Inv X pins σ (upd H a (.dK (rn kvs k))) s'->RelV v w'->Q w' s'):PQ (model X.prog X.w) A (call (.builtin "dict.pop") (.ref a::u::more)) Q E s:=by
 obtain⟨z,hd,vs,rel,dd⟩:=JE I.hok e
 obtain⟨w',hw,rw'⟩:=ni.some_of (v:=v) (o:=valueAt vs k) (by rw[<-l];exact rel.val k)
 have hp:(keyPart u).isSome=true:=by
  cases k with
  |inl i=>obtain⟨t,q⟩:=(show ∃t,u=RZ i t from ry);subst q;rfl
  |inr x=>obtain⟨t,q⟩:=(show ∃t,u=SU x t from ry);subst q;rfl
 have ha:argsOk "dict.pop" ⟨.ref a::u::more,[]⟩:=by
  rcases hm with q|⟨x,q⟩
  ·subst q;exact aaH _ _
  ·subst q;exact Zm _ _ _
 refine TU XW dd.typeIs Y0 ha (meets_dict_pop_there (aX X.prog X.w) a (tK ry) more hm hp)
  ⟨vs,w',dd,by rw[<-rel.length];exact z,hw,fun h' dd' hs=>h w' _ ?_ rw'⟩
 have he:∃q,h'.get? a=some q:=let ⟨q,_,_,hq,_⟩:=dd';⟨q,hq⟩
 exact uW I (by rw[e];exact SF) hs he (wI (P6 (CJ kvs k) z) hd (rel.drop k) dd')
theorem NP{Q:PL->PN->Prop}(I:Inv X pins σ H s)(e:Rd H a (.dK kvs))(h:∀t s',Inv X pins σ H s'->Q (.int kvs.length t) s'):PQ (model X.prog X.w) A (call (.builtin "len") [.ref a]) Q E s:=by
 obtain⟨z,hd,vs,rel,dd⟩:=gA I.hok e
 refine call_len_dict hd dd (by rw[<-rel.length];rw[sizeLine_eq]at z;omega) ?_
 rw[<-rel.length]
 exact h _ _ (I.tok _)
theorem KS{Q:Bool->PN->Prop}(I:Inv X pins σ H s)(e:Rd H a (.dK kvs))(h:∀s',Inv X pins σ H s'->Q (!kvs.isEmpty) s'):PQ (model X.prog X.w) A (truthy (.ref a)) Q E s:=by
 obtain⟨z,hd,vs,rel,dd⟩:=gA I.hok e
 refine wpAny_truthy_dict hd dd (by rw[<-rel.length];rw[sizeLine_eq]at z;omega) ?_
 have q:kvs.isEmpty=vs.isEmpty:=by cases rel<;>rfl
 rw[<-q]
 exact h _ (I.tok _)
end
noncomputable def Oj(i:PY):Prop:=∀ov iv,subscripted i false ov iv=operate [ov,iv] (getItem ov iv)
theorem Kn{prog:Qc}{w:P8}{A:Qg}{E:PL->PN->Prop}{s:PN}{env:Qq}{value slice:PY}{pos:Qi}{T id:String}{Q:PL->PN->Prop}
  (hl:Ut (.type T) "__getitem__"=pure (some (.builtin id))) (hs:Oj slice)
  (h:PQ (model prog w) A (eval value env) (fun o s₁=>PQ (model prog w) A (eval slice env) (fun i s₂=>s₂.TypeIs o T/\PQ (model prog w) A (getItem o i) Q E s₂) E s₁) E s):
  PQ (model prog w) A (eval (.Subscript value slice pos) env) Q E s:=by
 refine Subscript_ (Q5 h (fun o s₁ h₁=>Q5 h₁ (fun i s₂ h₂=>?_) fun _ _ x=>x) fun _ _ x=>x)
 obtain⟨hT,h₂⟩:=h₂
 unfold subscriptTail
 refine PR ?_
 rw[getitemInPython_of_ne hT.not_modules]
 refine PR (wpAny_specialOf hT hl ?_)
 have fin:PQ (model prog w) A (subscripted slice false o i) (fun r s₃=>PQ (model prog w) A (letTemporaryGo value o r >>= fun _=>pure r) Q E s₃) E s₂:=by
  rw[hs o i]
  exact wpAny_operating (Q5 h₂ (fun r s₃ h₃=>PR (wpAny_letTemporaryGo (Qh h₃))) fun _ _ x=>x)
 first
  |exact Qh (PR fin)
  |exact PR (Qh (PR fin))
  |exact PR fin
theorem Cc{X:Cx}{pins:List (PK×PV)}{σ:St}{H:Hp}{s:PN}{a:PK}{y:V}{o:Option V}(I:Inv X pins σ H s)(g:qg H a y o):s.TypeIs (.ref a) "dict":=by
 rcases g with⟨kvs,k,e,_,_⟩|⟨kvs,k,b,e,_,_,_⟩
 ·obtain⟨_,_,vs,_,dd⟩:=gA I.hok e
  exact dd.typeIs
 ·obtain⟨_,_,xs,_,dd⟩:=zr I.hok e
  exact dd.typeIs
noncomputable def Fb(td ty:TE):TE:=fun σ H Q=>td σ H fun x H1=>ty σ H1 fun y H2=>∃a v,x=.ref a/\qg H2 a y (some v)/\Q v H2
noncomputable def Nu(ty td:TE):TE:=fun σ H Q=>ty σ H fun y H1=>td σ H1 fun x H2=>∃a o,x=.ref a/\qg H2 a y o/\Q (.bl o.isSome) H2
noncomputable def uY(ty td:TE):TE:=fun σ H Q=>ty σ H fun y H1=>td σ H1 fun x H2=>∃a o,x=.ref a/\qg H2 a y o/\Q (.bl (!o.isSome)) H2
noncomputable def Ft(td ty tv:TE):TS:=fun D σ H=>tv σ H fun v H1=>td σ H1 fun x H2=>ty σ H2 fun y H3=>∃a H4,x=.ref a/\Gk H3 a y v H4/\D.nx σ H4
section
variable {X:Cx}{o i e value:PY}{pos pos' tpos:Qi}{td ty tv:TE}
theorem EW(hu:X.A.units+1<cLine)(ho:PE X o td)(hi:PE X i ty)(hs:Oj i):PE X (.Subscript o i pos) (Fb td ty):=by
 intro pins s σ H Q I h
 refine Kn ZR.lookup hs (cI (ho pins s σ H _ I h) fun u s1 ⟨x,H1,I1,rx,q1⟩=>cI (hi pins s1 σ H1 _ I1 q1) fun iv s2 ⟨y,H2,I2,ry,a,v,ex,g,q2⟩=>?_)
 subst ex
 obtain rfl:u=Qo a:=rx
 exact⟨Cc I2 g,GQ hu I2 g ry fun w' s3 I3 rw'=>⟨v,H2,I3,rw',q2⟩⟩
theorem Mt(hu:X.A.units+1<cLine)(hi:PE X i ty)(ho:PE X o td):PC X .In i o (Nu ty td):=by
 intro pins s σ H Q I h
 refine cI (hi pins s σ H _ I h) fun iv s1 ⟨y,H1,I1,ry,q1⟩=>cI (ho pins s1 σ H1 _ I1 q1) fun u s2 ⟨x,H2,I2,rx,a,ov,ex,g,q2⟩=>?_
 subst ex
 obtain rfl:u=Qo a:=rx
 exact Pj hu I2 g ry fun s3 I3=>⟨.bl ov.isSome,H2,I3,rfl,q2⟩
theorem zy(hu:X.A.units+1<cLine)(hi:PE X i ty)(ho:PE X o td):PC X .NotIn i o (uY ty td):=by
 intro pins s σ H Q I h
 refine cI (hi pins s σ H _ I h) fun iv s1 ⟨y,H1,I1,ry,q1⟩=>cI (ho pins s1 σ H1 _ I1 q1) fun u s2 ⟨x,H2,I2,rx,a,ov,ex,g,q2⟩=>?_
 subst ex
 obtain rfl:u=Qo a:=rx
 exact Lv hu I2 g ry fun s3 I3=>⟨.bl (!ov.isSome),H2,I3,rfl,q2⟩
theorem Fp(hu:X.A.units+1<cLine)(ho:PE X o td)(hi:PE X i ty)(hv:PE X value tv)(hs:swapsWith value (some (.Subscript o i pos')) pos.line X.env=pure false):
  PS X (.Assign [.Subscript o i pos'] value pos) (Ft td ty tv):=by
 intro pins s σ H D I h
 refine wpAny_Assign_Subscript (cI (hv pins s σ H _ I h) fun r s1 ⟨v,H1,I1,rv,q1⟩=>cI (ho pins s1 σ H1 _ I1 q1) fun u s2 ⟨x,H2,I2,rx,q2⟩=>cI (hi pins s2 σ H2 _ I2 q2) fun iv s3 ⟨y,H3,I3,ry,a,H4,ex,g,q3⟩=>?_) hs
 subst ex
 obtain rfl:u=Qo a:=rx
 exact GA hu I3 g ry rv fun s4 I4=>⟨σ,H4,I4,q3⟩
end
theorem HE{P:Qc}{w:P8}{H:Hp}(h:P0)(hb:RD<h.objs.size):dc P w H (h.push {cls:=.type "dict",data:=.dict #[]}) h.objs.size (.dK []):=
 ⟨Q3 _,beq_eq_false_iff_ne.mpr (Qy (Qt hb)),[],.nil,VB h⟩
noncomputable def Au:TE:=fun _ H Q=>∀p,H p=none->Q (.ref p) (upd H p (.dK []))
section
variable {X:Cx}{pos:Qi}
theorem Ce:PE X (.Dict [] [] pos) Au:=fun pins s σ H Q I h=>
 wpAny_Dict_empty ⟨.ref s.heap.objs.size,_,I.laid (a:=s.heap.objs.size) (o:=.dK []) (t':=s.toks) (fun _ _ q=>Qr _ q) (Qe _) (HE s.heap I.big),rfl,h _ (I.hok.fresh (Qe _))⟩
end
structure M1(X:Cx)(o:PY)(m:PH)(apos:Qi)(e:PY)(cpos:Qi):Prop where
 base:SK o m X.env (eval o X.env)=eval o X.env
 few:((QF cpos (Qf [e] X.env)).all (fun x=>!x.1)&&(RW cpos (RO [] X.env)).all (fun x=>x.1.isSome)
  && decide (([e]:List PY).length+([]:List Keyword).length+(if([]:List Keyword).isEmpty then 0 else 1)<30))=true
 line:(apos.endLine==cpos.line)=true
 trees:QF cpos (Qf [e] X.env)=[(false,eval e X.env)]
noncomputable def Pc(H:Hp)(a:PK):Prop:=(∃kvs,Rd H a (.dK kvs))\/∃kvs,Rd H a (.dT kvs)
theorem Nr{X:Cx}{pins:List (PK×PV)}{σ:St}{H:Hp}{s:PN}{a:PK}(I:Inv X pins σ H s)(d:Pc H a):
  s.TypeIs (.ref a) "dict"/\(∀b,Qo a=.ref b->∃ob,s.heap.get? b=some ob/\ob.dict=none)/\(a==RD)=false:=by
 rcases d with⟨kvs,e⟩|⟨kvs,e⟩
 ·obtain⟨_,hd,vs,_,dd⟩:=gA I.hok e
  refine⟨dd.typeIs,fun b q=>?_,hd⟩
  cases q
  obtain⟨ob,_,_,h1,h2,_⟩:=dd
  exact⟨ob,h1,h2.2.1⟩
 ·obtain⟨_,hd,xs,_,dd⟩:=zr I.hok e
  refine⟨dd.typeIs,fun b q=>?_,hd⟩
  cases q
  obtain⟨ob,_,_,h1,h2,_⟩:=dd
  exact⟨ob,h1,h2.2.1⟩
section
variable {X:Cx}{pins:List (PK×PV)}{σ:St}{H:Hp}{s:PN}{a:PK}{y d:V}{u r:PL}{o:Option V}{A:Qg}{E:PL->PN->Prop}
end
noncomputable def AZ(td ty:TE):TE:=fun σ H Q=>td σ H fun x H1=>∃a,x=.ref a/\Pc H1 a/\ty σ H1 fun y H2=>∃kvs k v,H2 a=some (.dK kvs)/\y=kV k/\gK kvs k=some v/\Q v (upd H2 a (.dK (rn kvs k)))
section
variable {X:Cx}{o e f:PY}{apos cpos:Qi}{td ty tx:TE}
theorem Cp(ho:PE X o td)(he:PE X e ty)(m:M1 X o "pop" apos e cpos):PE X (.Call (.Attribute o "pop" apos) [e] [] cpos) (AZ td ty):=by
 intro pins s σ H Q I h
 refine wpAny_Call_method m.base m.few m.line UM XW Zw (cI (ho pins s σ H _ I h) fun u s1 ⟨x,H1,I1,rx,a,ex,d,q1⟩=>?_)
 subst ex
 obtain rfl:u=Qo a:=rx
 obtain⟨t1,t2,_⟩:=Nr I1 d
 exists t1,t2
 rw[m.trees]
 refine Um rfl (Vg (We (cI (he pins s1 σ H1 _ I1 q1) fun iv s2 ⟨y,H2,I2,ry,kvs,k,v,ea,ey,l,q2⟩=>V4 ?_)))
 subst ey
 exact N7 I2 ea ry l (.inl rfl) fun w' s3 I3 rw'=>⟨v,_,I3,rw',q2⟩
end
section
variable {X:Cx}{pins:List (PK×PV)}{σ:St}{H:Hp}{s:PN}{a:PK}{kvs:List (Key×V)}{A:Qg}{E:PL->PN->Prop}
end
section
variable {X:Cx}{pins:List (PK×PV)}{σ:St}{H:Hp}{s:PN}{a:PK}{y:V}{u:PL}{A:Qg}{E:PL->PN->Prop}
end
section
variable {X:Cx}
theorem GB:fJ X (.builtin "len") (fun xs H Q=>∃a kvs,xs=[V.ref a]/\H a=some (.dK kvs)/\Q (.int kvs.length) H):=by
 intro pins s σ H xs us Q I r h
 obtain⟨a,kvs,rfl,ha,q⟩:=h
 obtain⟨u,rfl,ru⟩:=vals1 r
 cases ru
 exact NP I (.inl ha) fun t s' I'=>⟨.int kvs.length,H,I',⟨t,rfl⟩,q⟩
end
section
variable {κ:Type} [DecidableEq κ]
end
end L2
namespace L2
open PySem PySem.Spec PyProof.Rows PySem.W
section
variable {X:Cx}{pins:List (PK×PV)}{σ:List (Option V)}{H H':Hp}{s:PN}{h':P0}
noncomputable def zg(v d:PK):HO:=.ext fun h=>h.IsItemsView v d
theorem wB{k:Key}{u:PL}{prog:Qc}{w:P8}(h:(aX prog w).is k u=true):RelV (kV k) u:=by
 rcases cS (show vb k u=true from h)with⟨i,t,rfl,rfl⟩|⟨x,t,rfl,rfl⟩
 ·exact⟨t,rfl⟩
 ·exact⟨t,rfl⟩
theorem nj{κ:Type}:∀{kvs:List (κ×V)}{vs:List (κ×PL)},KV kvs vs->∀(i:Nat)(p:κ×PL),vs[i]?=some p->∃q,kvs[i]?=some q/\q.1=p.1/\RelV q.2 p.2
 |_,_,.nil,i,p,h=>by simp at h
 |q::_,_,.cons hq _,0,p,h=>by
  simp at h
  subst h
  exact⟨q,rfl,hq.1,hq.2⟩
 |_,_,.cons _ t,i+1,p,h=>by
  obtain⟨q,h1,h2⟩:=nj t i p (by simpa using h)
  exact⟨q,by simpa using h1,h2⟩
end
theorem m9:Ut (.type "list") "keys"=pure none:=by rw[Vo,builtinLookup_eq_fast];kernel_rfl
section
variable {prog:Qc}{w:P8}{A:Qg}{E:PL->PN->Prop}{s:PN}
theorem GG{a:PK}{o:PV}{xs:Array PL}{k:Nat}{Q:Option PL->PN->Prop}(hx:s.heap.get? a=some o)(hc:o.cls=.type "list")(hdat:o.data=.seq xs k)(hd:o.dict=none)(hA:A.handled=none)
  (h:∀h' tk,(∀b o,s.heap.get? b=some o->h'.get? b=some o)->Q none {s with heap:=h',toks:=tk}):PQ (model prog w) A (getAttr? (.ref a) "keys") Q E s:=by
 obtain⟨c,dct,dat,sl⟩:=o
 simp only at hc hdat hd
 subst hc hdat hd
 obtain⟨hp,g,d,tk,os⟩:=s
 have hT:∀tk',(⟨hp,g,d,tk',os⟩:PN).TypeIs (.ref a) "list":=fun _=>⟨_,hx,rfl⟩
 have f1:=sub_AttributeError
 have f3:=VO.lookup
 have f4:=VO.bind (.ref a)
 have f5:=am_list_getattr_none
 have f6:=m9
 unfold getAttr? getAttrBy? getAttrBy
 repeat (any_goals (first|assumption|exact hT _|((with_reducible show PQ _ _ (call (Ta "list.__getattribute__") _ _) _ _ _);refine RJ VO (hT _) am_entry_list_getattribute (aaT _ _) (meets_getattribute_miss_list a xs k sl "keys" _ m9 (by decide)) ⟨hx,hA,fun h' tk' e hx'=>?_⟩)|wp_step))
 obtain⟨t',u',he⟩:=hx'.there
 show PQ _ _ (Vc _ _ _ _ _ _ _) _ _ _
 unfold Vc
 repeat (any_goals (first|assumption|wp_step))
 exact h _ _ hx'.keeps
end
section
variable {prog:Qc}{w:P8}{K:Type} [DecidableEq K] {knd:KeyKind prog w K}{A:Qg}{R:Result->PN->Prop}{I:PK}{fp wr:List PK}{G:Array GenState->Array GenState->Prop}{n:Nat}{P:Nat->PL->Prop}{St:Nat->PN->Prop}
theorem oi:entryFor table "dict.update.loop"=some RG.«dict.update.loop»:=entryFor_of_tree (by kernel_rfl)
theorem eW:plainId "dict.update.loop"=true:=by decide +kernel
noncomputable def uZ(knd:KeyKind prog w K)(h:P0)(T:PK)(kv:K×PL):Prop:=∃o key m,h.get? T=some o/\o.cls=.type "tuple"/\o.data=.seq #[key,kv.2] m/\knd.is kv.1 key=true
theorem Dp(W:WalksS prog w A.in1 I fp wr G n P St)(D:PK)(hDf:D∉fp)(vs:List (K×PL))(ts:List PK)(res:PL)(hvn:vs.length=n)(htn:ts.length=n)(hval:∀i v,P i v->∃t,ts[i]?=some t/\v=.ref t)(hT:∀t∈ts,t≠D/\t∉wr)(hn:n<=1000)(nd:(vs.map (·.1)).Nodup):
  ∀(k i:Nat)(s:PN),n-i=k->i<=n->St i s->(∀(j:Nat)(t:PK)(p:K×PL),ts[j]?=some t->vs[j]?=some p->uZ knd s.heap t p)->s.heap.DictOf knd D (vs.take i)->
   (∀s',Moved (D::wr) G s s'->s'.heap.DictOf knd D vs->R (.ok (.ret res)) s')->
   RP (model prog w) A (.builtin "dict.update.loop" ⟨[.ref D,.ref I,.int i 0,res],[]⟩) R s:=by
 have hDw:D∉wr:=fun h=>hDf (W.sub _ h)
 have hsub:∀b∈wr,b∈D::wr:=fun b hb=>Qs _ hb
 have dstay:∀{kvs:List (K×PL)}{h h':P0},h.DictOf knd D kvs->(∀o,h.get? D=some o->h'.get? D=some o)->h'.DictOf knd D kvs:=fun x k=>let ⟨o,es,ep,ho,r⟩:=x;⟨o,es,ep,k o ho,r⟩
 intro k
 induction k with
 |zero=>
  intro i s hk hi hst hP hD hR
  have hin:i=n:=by omega
  subst hin
  rw[RI (by omega)]at hD
  refine codeAny_builtin oi ?_
  rw[Ve eW _]
  show PQ _ A.in1 (Rc (.ref I) >>= _) _ _ s
  refine PR (W.done s _ _ hst fun s' hm=>?_)
  show PQ _ A.in1 (Yh D [] >>= fun _=>ret res) _ _ s'
  exact PR (Qh (Qh (hR s' (hm.mono hsub) (dstay hD fun o e=>hm.heap D _ hDw e))))
 |succ k ih=>
  intro i s hk hi hst hP hD hR
  have hlt:i<n:=by omega
  refine codeAny_builtin oi ?_
  rw[Ve eW _]
  show PQ _ A.in1 (Rc (.ref I) >>= _) _ _ s
  refine PR (W.item i s _ _ hlt hst fun v s' hPv hst' hm=>?_)
  obtain⟨t,ht,rfl⟩:=hval i v hPv
  have hvi:vs[i]?=some vs[i]:=Qj (by omega)
  generalize vs[i]=p at hvi
  have hD':=dstay hD fun o e=>hm.heap D _ hDw e
  have hP':∀(j:Nat)(t:PK)(p:K×PL),ts[j]?=some t->vs[j]?=some p->uZ knd s'.heap t p:=fun j t p e1 e2=>by
   obtain⟨o,key,m,h1,h2⟩:=hP j t p e1 e2
   exact⟨o,key,m,hm.heap _ _ (hT t (Tv e1)).2 h1,h2⟩
  obtain⟨o,key,m,h1,h2,h3,h4⟩:=hP' i t p ht hvi
  show PQ _ A.in1 (holding [Qo t] _ >>= _) _ _ s'
  refine PR (SO ?_)
  refine PR (wpAny_tryCatch ?_)
  unfold XI
  refine PR (U5 (T:="tuple") ⟨o,h1,h2⟩ ?_)
  rw[if_pos (by decide)]
  refine PR (R8 h1 h3 (Qh ?_))
  show PQ _ A.in1 (holding [key,p.2] (dictSet D key p.2)) _ _ s'
  refine SO (wpAny_dictSet_pairs (knd:=knd) h4 hD' (fun h' hd' hsb=>?_) (by rw[QY,sizeLine_eq];omega))
  have hst2:stored (vs.take i) p.1 p.2=vs.take (i+1):=by
   unfold stored
   rw[if_neg]
   ·rw[Us,hvi];rfl
   ·intro z
    obtain⟨x,hx,e⟩:=Wa.mp z
    obtain⟨j,hj,ej⟩:=Tq hx
    have hj':j<i/\j<vs.length:=by rw[QY]at hj;omega
    rw[VJ]at ej
    have e:x.1=p.1:=by simpa using e
    obtain⟨hi',ei⟩:=QN.mp hvi
    have:=T4.mp nd j i (by simp;omega) (by simp;omega) hj'.1
    simp only[Vp]at this
    rw[ej,ei]at this
    exact this e
  rw[hst2]at hd'
  refine Qh ⟨plainId_quiet eW _,?_⟩
  refine ih (i+1) _ (by omega) hlt (W.frame _ s' _ _ hst' (Rz _) fun b hb o e=>?_) (fun j t p e1 e2=>?_) hd' fun s'' hm'' hS''=>?_
  ·rw[hsb.2 b (fun h:b=D=>hDf (by rw[<-h];exact hb))];exact e
  ·obtain⟨o,key,m,h1,h2⟩:=hP' j t p e1 e2
   exact⟨o,key,m,by rw[hsb.2 _ (hT t (Tv e1)).1];exact h1,h2⟩
  ·refine hR s'' (Moved.trans W.gtrans ((hm.mono hsub).then_heap (Rz _) fun b o hb e=>?_) hm'') hS''
   rw[hsb.2 b (fun h:b=D=>hb (by rw[h];exact QI))];exact e
end
section
variable {prog:Qc}{w:P8}{K:Type} [DecidableEq K] {knd:KeyKind prog w K}{A:Qg}{E:PL->PN->Prop}{s:PN}
theorem ue{l:PK}{ts:List PK}{vs:List (K×PL)}{Q:PL->PN->Prop}(hh:A.handled=none)(hl:∃m,s.heap.get? l=some {cls:=.type "list",data:=.seq (ts.map Qo).toArray m})(hlen:ts.length=vs.length)
  (hp:∀(j:Nat)(t:PK)(p:K×PL),ts[j]?=some t->vs[j]?=some p->uZ knd s.heap t p) (nd:(vs.map (·.1)).Nodup) (hn:vs.length<=1000)
  (h:∀(h':P0)(tk:Nat),(∀b o,s.heap.get? b=some o->h'.get? b=some o)->h'.DictOf knd s.heap.objs.size vs->Q (.ref s.heap.objs.size) {s with heap:=h',toks:=tk}):
  PQ (model prog w) A (call (.type "dict") [.ref l]) Q E s:=by
 obtain⟨m,hl⟩:=hl
 refine callType_codes (Q₁:=fun obj s₁=>obj=.ref s.heap.objs.size/\s₁={s with heap:=s.heap.push {cls:=.type "dict",data:=.dict #[]}}) Xo (Ye _) XQ (kt_code_dict_new _ ⟨rfl,rfl⟩) ?_
 rintro obj s₁ ⟨rfl,rfl⟩
 have hnew:(s.heap.push {cls:=.type "dict",data:=.dict #[]}).DictOf knd s.heap.objs.size []:=VB s.heap
 have hl1:(s.heap.push {cls:=.type "dict",data:=.dict #[]}).get? l=some {cls:=.type "list",data:=.seq (ts.map Qo).toArray m}:=Qr _ hl
 exists hnew.typeIs,Yk _ _
 unfold RG.«dict.__init__»
 refine PR ?_
 unfold XG
 refine PR (wpAny_notOrdered_dict hnew.typeIs ?_)
 show PQ _ _ (pure (s.heap.objs.size,[Qo l])) _ _ _
 refine Qh ?_
 show PQ _ _ (UE "dict.__init__" s.heap.objs.size (.ref l) [] .none) _ _ _
 unfold UE
 refine PR (U5 (T:="list") ⟨_,hl1,rfl⟩ ?_)
 rw[if_pos (by decide)]
 refine PR (GG hl1 rfl rfl rfl hh fun h2 tk2 k2=>?_)
 simp only[W7,if_true]
 refine PR (wpAny_rule ?_)
 have hl2:h2.IsList l (ts.map Qo).toArray:=⟨_,k2 _ _ hl1,rfl,m,rfl⟩
 refine PR (UR hl2 ?_)
 have hdlt:s.heap.objs.size<h2.objs.size:=by
  obtain⟨o,_,_,ho,_⟩:=hnew
  exact Qk (k2 _ _ ho)
 have hllt:l<h2.objs.size:=Qk (k2 _ _ hl1)
 have hls:l<s.heap.objs.size:=Qk hl
 have keep:∀b o,s.heap.get? b=some o->(h2.push {cls:=.type "list_iterator",data:=.fields #[.ref l,.int 0 0]}).get? b=some o:=fun b o e=>Qr _ (k2 _ _ (Qr _ e))
 have hsz:(ts.map Qo).toArray.size=vs.length:=by simp[hlen]
 have htl:∀t∈ts,t<s.heap.objs.size:=fun t ht=>by
  obtain⟨j,hj,e⟩:=Tq ht
  obtain⟨o,_,_,h1,_⟩:=hp j t vs[j] (by rw[Qj hj,e]) (Qj (by omega))
  exact Qk h1
 refine Qh ⟨plainId_quiet eW _,?_⟩
 refine Dp (knd:=knd) ((Xb (A:=A.in1.in1) hh h2.objs.size l (Qt hllt) (ts.map Qo).toArray).toS) s.heap.objs.size (by simp only[Qa,Rf,or_false,not_or];exact⟨Qt hdlt,Ro hls⟩)
  vs ts .none hsz.symm (by rw[hsz,hlen]) (fun i v hv=>?_) (fun t ht=>⟨Qt (htl t ht),fun z=>?_⟩) (by rw[hsz];exact hn) nd _ 0 _ rfl (Q3 _) ⟨⟨_,Qz _ rfl,rfl,rfl⟩,hl2.push _⟩ (fun j t p e1 e2=>?_) ?_ fun s' hm hD=>?_
 ·have hv:(ts.map Qo).toArray[i]?=some v:=hv
  rw[List.getElem?_toArray,Se]at hv
  cases e:ts[i]? with
  |none=>rw[e]at hv;cases hv
  |some t=>rw[e]at hv;exact⟨t,rfl,(QW hv).symm⟩
 ·rw[QR.mp z]at ht
  exact YH hdlt (htl _ ht)
 ·obtain⟨o,key,m',h1,h3⟩:=hp j t p e1 e2
  exact⟨o,key,m',keep _ _ h1,h3⟩
 ·obtain⟨o,es,ep,ho,r⟩:=hnew
  exact⟨o,es,ep,Qr _ (k2 _ _ ho),r⟩
 ·rw[Moved.eq_with hm]
  refine⟨rfl,h s'.heap s'.toks (fun b o e=>hm.heap b o (fun z=>?_) (keep b o e)) hD⟩
  have hb:=Qk e
  rcases Qa.mp z with z|z
  ·rw[z]at hb;exact RA _ hb
  ·rw[QR.mp z]at hb;exact YH hdlt hb
end
noncomputable def JJ(K:PM):List V->Hp->VK->Prop:=fun xs H Q=>∃(l:PK)(ts:List PK)(kvs:List (Key×V)),xs=[.ref l]/\H l=some (.lst (ts.map V.ref))/\Qd (fun (p:Key×V) t=>kN K H t [kV p.1,p.2]) kvs ts/\(kvs.map (·.1)).Nodup/\kvs.length<=1000/\
 ∀d,H d=none->Q (.ref d) (upd H d (.dK kvs))
section
variable {X:Cx}
theorem Fs:∀{ts:List PK}{its:List PL},bR (ts.map V.ref) its->its=ts.map Qo
 |[],_,.nil=>rfl
 |t::ts,_,.cons h r=>by
  cases(show _=Qo t from h)
  rw[Fs r];rfl
theorem DR(hc:X.calm=true):fJ X (.type "dict") (JJ X.K):=by
 intro pins s σ H xs us Q I r h
 obtain⟨l,ts,kvs,rfl,hl,hp,nd,hn,q⟩:=h
 obtain⟨u,rfl,ru⟩:=vals1 r
 cases ru
 obtain⟨z,its,m,rv,hg⟩:=(show dc X.prog X.w H s.heap l (.lst (ts.map V.ref))from I.hok l _ hl)
 have ei:=Fs rv
 subst ei
 have hl':kvs.length=ts.length:=Qw hp
 have go:∀(ks:List (Key×V))(bs:List PK),Qd (fun (p:Key×V) t=>kN X.K H t [kV p.1,p.2]) ks bs->∃vs:List (Key×PL),KV ks vs/\∀(j:Nat)(t:PK)(p:Key×PL),bs[j]?=some t->vs[j]?=some p->uZ (aX X.prog X.w) s.heap t p:=by
  intro ks bs hpr
  induction hpr with
  |nil=>exact⟨[],.nil,fun j t p e=>by simp at e⟩
  |@cons p t ks bs hq _ ih=>
   obtain⟨vs,h1,h2⟩:=ih
   obtain⟨its,rv,⟨o,e1,e2,n,e3⟩,_⟩:=I.tuple hq
   cases rv with
   |@cons _ key _ _ rk rr=>
   cases rr with
   |@cons _ x _ _ rx rr=>
   cases rr
   refine⟨(p.1,x)::vs,.cons ⟨rfl,rx⟩ h1,fun j t' p' f1 f2=>?_⟩
   cases j with
   |zero=>
    simp at f1 f2
    subst f1;subst f2
    exact⟨o,key,n,e1,e2,e3,tK rk⟩
   |succ j=>exact h2 j t' p' (by simpa using f1) (by simpa using f2)
 obtain⟨vs,hkv,hpa⟩:=go kvs ts hp
 have hvl:kvs.length=vs.length:=Qw hkv
 have ek:vs.map (·.1)=kvs.map (·.1):=by
  clear hpa hvl go hp q nd hn hl' hl
  induction hkv with
  |nil=>rfl
  |cons h _ ih=>rw[Qu,Qu,ih,h.1]
 refine ue (knd:=aX X.prog X.w) (I.ok.hd hc) ⟨m,hg⟩ (by omega) hpa (by rw[ek];exact nd) (by omega) fun h' tk k' dd=>?_
 refine⟨.ref s.heap.objs.size,_,I.laid (t':=tk) (a:=s.heap.objs.size) (o:=.dK kvs) k' (Qe _) (wI (P6 hn (by decide)) (beq_eq_false_iff_ne.mpr (Qy (Qt I.big))) hkv dd),rfl,q _ (I.hok.fresh (Qe _))⟩
end
section
variable {X:Cx}{pins pins0:List (PK×PV)}{σ σ0:List (Option V)}{H H0:Hp}{s s0:PN}{d:PK}{u u' u0:HO}{o:PV}
theorem Inv.retag(I:Inv X pins σ H s)(hd:H d=some u)(h1:∀a,u≠.own a)(h2:∀xs,u≠.tup xs)(b1:∀xs,X.H₀ d≠some (.tup xs))(b2:∀o v,X.H₀ d≠some (.frz o v))(b3:∀ps,X.H₀ d≠some (.tbl ps))
  (new:dc X.prog X.w (upd H d u') s.heap d u'):Inv X pins σ (upd H d u') s:=by
 have ne:∀{b:PK},H b=none->b≠d:=fun h z=>by rw[z,hd]at h;cases h
 refine⟨I.ok,I.os,I.bare,⟨I.base.keep,I.base.slot,fun b ob q n hx=>?_,I.base.there,fun b xs q=>?_,fun b ob w q=>?_,fun b ps q=>?_⟩,I.loc,I.cell,?_,fun x c e=>?_,fun p hp=>?_,fun b w q=>?_,I.len⟩
 ·have:=I.base.free b ob q n hx
  rw[ak (ne this)];exact this
 ·rw[ak (fun z=>b1 xs (by rw[<-z];exact q))];exact I.base.tups b xs q
 ·rw[ak (fun z=>b2 ob w (by rw[<-z];exact q))];exact I.base.frzs b ob w q
 ·rw[ak (fun z=>b3 ps (by rw[<-z];exact q))];exact I.base.tbls b ps q
 ·rw[ak (ne I.free)];exact I.free
 ·rw[ak (ne (I.freeC x c e))];exact I.freeC x c e
 ·obtain⟨a1,a2,a3⟩:=I.pin p hp
  exact⟨a1,by rw[ak (ne a2)];exact a2,a3⟩
 ·by_cases hb:b=d
  ·subst hb
   rw[ax]at q
   cases q
   exact new
  ·rw[ak hb]at q
   refine(I.hok b w q).stay (fun c v _ q'=>q') (fun c q'=>?_) fun c xs q'=>?_
   ·rw[ak (fun z=>by rw[z,hd]at q';exact h1 b (QW q'))];exact q'
   ·rw[ak (fun z=>by rw[z,hd]at q';exact h2 xs (QW q'))];exact q'
theorem Inv.base_dK{kvs:List (Key×V)}(I:Inv X pins σ H s)(hd:H d=some (.dK kvs)):(∀xs,X.H₀ d≠some (.tup xs))/\(∀o v,X.H₀ d≠some (.frz o v))/\∀ps,X.H₀ d≠some (.tbl ps):=by
 refine⟨fun xs z=>?_,fun o v z=>?_,fun ps z=>?_⟩
 ·have:=I.base.tups d xs z;rw[hd]at this;cases this
 ·have:=I.base.frzs d o v z;rw[hd]at this;cases this
 ·obtain⟨m,this⟩:=I.base.tbls d ps z;rw[hd]at this;cases this
theorem Inv.freeze{kvs:List (Key×V)}(I:Inv X pins σ H s)(hd:H d=some (.dK kvs))(ho:s.heap.get? d=some o):Inv X pins σ (upd H d (.frz o (.dK kvs))) s:=by
 obtain⟨b1,b2,b3⟩:=I.base_dK hd
 exact I.retag hd (fun a z=>nomatch z) (fun xs z=>nomatch z) b1 b2 b3 ⟨ho,(show dc X.prog X.w H s.heap d (.dK kvs)from I.hok d _ hd)⟩
theorem Inv.thaw{kvs kvs0:List (Key×V)}(I0:Inv X pins0 σ0 H0 s0)(h0:H0 d=some (.dK kvs0))(I:Inv X pins σ H s)(hd:H d=some (.frz o (.dK kvs))):Inv X pins σ (upd H d (.dK kvs)) s:=by
 obtain⟨b1,b2,b3⟩:=I0.base_dK h0
 exact I.retag hd (fun a z=>nomatch z) (fun xs z=>nomatch z) b1 b2 b3 (show dc X.prog X.w H s.heap d (.frz o (.dK kvs))from I.hok d _ hd).2
end
noncomputable def OX(d:PK)(o:PV)(kvs:List (Key×V)):It:=
 ⟨fun i H=>H d=some (.frz o (.dK kvs))/\i<kvs.length,fun i H x H'=>∃T p,x=.ref T/\H T=none/\kvs[i]?=some p/\H'=upd H T (.tup [kV p.1,p.2]),fun i H=>H d=some (.frz o (.dK kvs))/\kvs.length<=i⟩
theorem jL{X:Cx}{pins:List (PK×PV)}{σ:List (Option V)}{H:Hp}{s:PN}{d:PK}{o:PV}{kvs:List (Key×V)}{es:Array RM}{ep:Nat}(I:Inv X pins σ H s)(hd:H d=some (.frz o (.dK kvs)))(ho:o.data=.dict es ep):
  ∃vs,KV kvs vs/\s.heap.DictAt (aX X.prog X.w) d vs ep:=by
 obtain⟨hg,_,_,vs,rel,o',es',ep',h1,h2,h3,h4⟩:=(show dc X.prog X.w H s.heap d (.frz o (.dK kvs))from I.hok d _ hd)
 rw[hg]at h1
 cases h1
 rw[ho]at h3
 cases h3
 exact⟨vs,rel,o,es,hg,h2,ho,h4⟩
theorem Er{P:Qc}{w:P8}{K:PM}{elts:List PY}{x1}{pos:Qi}(d it:PK)(o:PV)(es:Array RM)(ep:Nat)(ho:o.data=.dict es ep)(kvs:List (Key×V))(hne:d≠it):
  Turn P w K (.Tuple elts x1 pos) (OX d o kvs) [it] it (fun i h=>∃ok ov,IsItemIter h it d i kvs.length ep ok ov) where
 mem:=by simp
 obj:=fun i h st b hb=>by
  obtain⟨ok,ov,he⟩:=st
  have z:b=it:=by simpa using hb
  subst z
  exact⟨_,he,fun v z=>by
   have z':TH _=SJ v:=z
   cases z'⟩
 keep:=fun i h h' st k=>by
  obtain⟨ok,ov,he⟩:=st
  exact⟨ok,ov,k it (by simp) _ he⟩
 item:=by
  intro X hP hw hK hc i pins s σ H E I hf st hg
  subst hP hw hK
  obtain⟨ok,ov,he⟩:=st
  obtain⟨hd,hi⟩:=hg
  obtain⟨vs,rel,hat⟩:=jL I hd ho
  have hlen:kvs.length=vs.length:=Qw rel
  obtain⟨g0,g1,g2,g3,g4,g5⟩:=hf it (by simp)
  have fT:H s.heap.objs.size=none:=I.fresh
  have hvi:vs[i]?=some vs[i]:=Qj (by omega)
  obtain⟨p,hp1,hp2,hp3⟩:=nj rel i _ hvi
  rw[hlen]at he
  refine wpAny_pyNext_items_item (k:=(vs[i]).1) (v:=(vs[i]).2) he hat hvi fun key h' hkey heo ht hsz hk=>⟨_,rfl,?_⟩
  refine wpAny_letOwnedTupleGo_items heo fun h2 he2 hs2=>?_
  have hs2:RT it h' h2:=hs2
  have heT:it≠s.heap.objs.size:=Qt (Qk he)
  have oldK:∀b o,b≠it->s.heap.get? b=some o->h2.get? b=some o:=fun b o h1 q=>hs2.extBut b o h1 (hk b o h1 q)
  have hT2:h2.get? s.heap.objs.size=some {cls:=.type "tuple",data:=.seq #[key,(vs[i]).2]}:=hs2.extBut _ _ (Qy heT) ht
  have neT:∀b o,s.heap.get? b=some o->b≠s.heap.objs.size:=fun b o q=>Qt (Qk q)
  have nH:∀b w',H b=some w'->b≠it:=fun b w' q z=>by rw[z,g0]at q;cases q
  have I2:Inv X pins σ (upd H s.heap.objs.size (.tup [kV p.1,p.2])) {s with heap:=h2,toks:=s.toks}:=by
   refine I.step (g':=s.gens) (d':=s.drawn) (t':=s.toks) (ch:=[it]) (fun b hb=>?_) (fun b o _ _ hb q _=>?_) (fun b o _ _ hb q _=>?_) (fun b o _ q n=>?_) (fun b o hb q=>?_)
    (fun b ys q=>?_) (fun b o w' q=>?_) (fun b ps q=>?_) (fun m hm=>?_) (fun b w' q=>?_) I.bare
   ·have z:b=it:=by simpa using hb
    subst z;exact⟨g3,g1,g4,g5⟩
   ·exact oldK b o (fun z=>hb (by simp[z])) q
   ·exact⟨o.slots,oldK b o (fun z=>hb (by simp[z])) q⟩
   ·rw[ak (neT b o q)];exact n
   ·exact⟨o,oldK b o (fun z=>hb (by simp[z])) q⟩
   ·rw[ak (bc q fT)];exact q
   ·rw[ak (bc q fT)];exact q
   ·exact⟨#[],by rw[ak (bc q fT),q];simp⟩
   ·obtain⟨o,es,ep,ho,r⟩:=hm
    exact⟨o,es,ep,oldK _ o (Qy g1) ho,r⟩
   ·by_cases hb:b=s.heap.objs.size
    ·subst hb
     rw[ax]at q
     cases q
     exact⟨by show 2<=PZ;decide,[key,(vs[i]).2],.cons (by rw[hp2];exact wB hkey) (.cons hp3 .nil),_,hT2,rfl,_,rfl⟩
    ·rw[ak hb]at q
     refine(I.hok b w' q).stay (fun c v hc q'=>oldK c v ?_ q') (fun c q'=>?_) fun c ys q'=>?_
     ·rcases hc with z|z
      ·rw[z];exact nH b w' q
      ·exact nH c _ z
     ·rw[ak (bc q' fT)];exact q'
     ·rw[ak (bc q' fT)];exact q'
  refine⟨.ref s.heap.objs.size,_,I2,rfl,⟨s.heap.objs.size,p,rfl,fT,hp1,rfl⟩,⟨key,(vs[i]).2,?_⟩,fun b hb=>?_⟩
  ·rw[hlen];exact he2
  ·have z:b=it:=by simpa using hb
   rw[z,ak heT];exact g0
 done:=by
  intro X hP hw hK hc i pins s σ H E I hf st hg
  subst hP hw hK
  obtain⟨ok,ov,he⟩:=st
  obtain⟨hd,hi⟩:=hg
  obtain⟨vs,rel,hat⟩:=jL I hd ho
  have hlen:kvs.length=vs.length:=Qw rel
  obtain⟨g0,g1,g2,g3,g4,g5⟩:=hf it (by simp)
  rw[hlen]at he
  refine wpAny_pyNext_items_end (I.ok.hd hc) he hat (Sz (by omega)) fun h' eb=>⟨rfl,I.turned (t':=s.toks) (fun b o hb e'=>eb b o hb e') g0 g1 g3 g4 g5⟩
 self:=fun A i s Q E st h=>by
  obtain⟨ok,ov,he⟩:=st
  have hT:s.TypeIs (.ref it) "dict_itemiterator":=⟨_,he,rfl⟩
  refine wpAny_pyIter_slot hT Wm (Td Wm hT kcp_entry ?_ (aaR _))
  show PQ _ _ (ret (.ref it)) _ _ s
  exact Qh ⟨_,rfl,"dict_itemiterator",_,hT,aaD.lookup,h⟩
section
variable {X:Cx}
noncomputable def wH(td:TE):TI:=fun σ H R=>td σ H fun x H1=>∃(d:PK)(kvs:List (Key×V)),x=.ref d/\H1 d=some (.dK kvs)/\∀(o:PV)(v:PK),H1 v=none->v≠d->R (OX d o kvs) (upd (upd H1 v (zg v d)) d (.frz o (.dK kvs)))
theorem CW{e:PY}{td:TE}{elts:List PY}{x1}{apos cpos pt:Qi}(he:PE X e td)
  (hbase:SK e "items" X.env (eval e X.env)=eval e X.env:=by rfl) (hline:(apos.endLine==cpos.line)=true:=by rfl):
  PI X (.Tuple elts x1 pt) (.Call (.Attribute e "items" apos) [] [] cpos) (wH td):=by
 intro pins s σ H R I h
 refine wpAny_Call_method0_late hbase hline (cI (he pins s σ H _ I h) fun v s1 ⟨x,H1,I1,r1,d,kvs,ex,hd,q1⟩=>?_)
 subst ex
 cases(show v=Qo d from r1)
 obtain⟨z,hdS,vs,rel,dd⟩:=gA I1.hok (.inl hd)
 have hlen:kvs.length=vs.length:=Qw rel
 have h2:∀a,Qo d=.ref a->∃ob,s1.heap.get? a=some ob/\ob.dict=none:=fun a e=>by
  cases e
  obtain⟨o,_,_,ho,hex,_⟩:=id dd
  exact⟨o,ho,hex.2.1⟩
 refine⟨"dict","dict.items",UM,XU,aai,dd.typeIs,h2,Um rfl (Vt ?_)⟩
 refine TU XU dd.typeIs Zu (Z7 _) (meets_dict_items (aX X.prog X.w) d hdS) ⟨⟨vs,dd⟩,?_⟩
 have fV:H1 s1.heap.objs.size=none:=I1.hok.fresh (Qe _)
 have hdlt:d<s1.heap.objs.size:=I1.hok.lt hd
 have IV:Inv X pins σ (upd H1 s1.heap.objs.size (zg s1.heap.objs.size d)) {s1 with heap:=s1.heap.push {cls:=.type "dict_items",data:=.fields #[.ref d]},toks:=s1.toks}:=
  I1.laid (t':=s1.toks) (fun b u e=>Qr _ e) (Qe _) ⟨⟨_,Qz _ rfl,rfl,rfl⟩,⟨_,Qz _ rfl⟩,fun h1 h2 x k=>by
   obtain⟨o,ho,r⟩:=x
   exact⟨o,k o ho,r⟩⟩
 have hd':upd H1 s1.heap.objs.size (zg s1.heap.objs.size d) d=some (.dK kvs):=by rw[ak (Qt hdlt)];exact hd
 obtain⟨o,es,ep,ho,hex,hdat,r⟩:=id dd
 have ho1:(s1.heap.push {cls:=.type "dict_items",data:=.fields #[.ref d]}).get? d=some o:=Qr _ ho
 have IF:=IV.freeze hd' ho1
 have hat:(s1.heap.push {cls:=.type "dict_items",data:=.fields #[.ref d]}).DictAt (aX X.prog X.w) d vs ep:=⟨o,es,ho1,hex,hdat,r⟩
 show PQ _ _ (pyIter (.ref s1.heap.objs.size)) _ _ _
 refine wpAny_pyIter_items (knd:=aX X.prog X.w) (d:=d) ⟨_,Qz _ rfl,rfl,rfl⟩ hat ?_
 have hsz:s1.heap.objs.size<(s1.heap.push {cls:=.type "dict_items",data:=.fields #[.ref d]}).objs.size:=by rw[Rx];exact UL _
 refine⟨_,[_],_,OX d o kvs,_,rfl,IF.kept (t':=s1.toks) (fun b u e=>Qr _ e),Er d _ o es ep hdat kvs (Qt (Uy hdlt hsz)),⟨.none,.none,?_⟩,fun b hb=>?_,q1 o _ fV (Ro hdlt)⟩
 ·rw[hlen]
  exact Qz _ rfl
 ·have zb:b=(s1.heap.push {cls:=.type "dict_items",data:=.fields #[.ref d]}).objs.size:=by simpa using hb
  subst zb
  exact IF.fpOk (Qe _) (IF.hok.fresh (Qe _))
noncomputable def gP(te:TE):TE:=fun σ H Q=>∃(d:PK)(kvs0:List (Key×V)),H d=some (.dK kvs0)/\te σ H fun v H'=>∃o kvs,H' d=some (.frz o (.dK kvs))/\Q v (upd H' d (.dK kvs))
theorem uU{e:PY}{te:TE}(he:PE X e te):PE X e (gP te):=by
 intro pins s σ H Q I h
 obtain⟨d,kvs0,hd,q⟩:=h
 refine cI (he pins s σ H _ I q) fun v s1 ⟨x,H1,I1,r1,o,kvs,hf,q1⟩=>?_
 exact⟨x,_,Inv.thaw I hd I1 hf,r1,q1⟩
end
section
variable {X:Cx}
noncomputable def NQ(t:TE):TT:=fun σ H Q=>t σ H fun x H1=>∃a kvs,x=.ref a/\H1 a=some (.dK kvs)/\Q (!kvs.isEmpty) H1
theorem DL{e:PY}{t:TE}(h:PE X e t)(he:∀whole,isTrue e X.env whole=(do let v <-whole;standAt e.pos;holding [v] (truthy v)):=by intro _;rfl):PT X e (NQ t):=by
 intro pins s σ H Q I hw
 refine isTrue_plain (cI (h pins s σ H _ I hw) fun v s1 ⟨x,H1,I1,r1,q1⟩=>?_) (he _)
 obtain⟨a,kvs,rfl,hd,q⟩:=q1
 cases r1
 exact KS I1 (.inl hd) fun s' I'=>⟨H1,I',q⟩
noncomputable def wk:List V->Hp->VK->Prop:=fun xs H Q=>∃a kvs,xs=[V.ref a]/\H a=some (.dK kvs)/\Q (.int kvs.length) H
theorem i3:fJ X (.builtin "len") wk:=GB
end
section
variable {K:PM}{σ:St}{H:Hp}{Q:VK}{D:Ends}{R:Hp->Prop}{ta td ty tv:TE}{t:TA}{f m n:PH}{sp:Sp}{E:XK}{C c d dx:PK}{fs:List (PH×V)}{v y:V}{kvs:List (Key×V)}
noncomputable def OM(K:PM)(f:PH)(Q:VK):VK:=fun x H1=>∃a C dx fs v,x=.ref a/\H1 a=some (.ins C dx fs)/\gY K C/\dg K C f/\fs.lookup f=some v/\Q v H1
theorem Oz(h:ta σ H (OM K f Q)):c7 K ta f σ H Q:=h
theorem bW(h:H c=some (.ins C dx fs))(cl:gY K C)(na:dg K C f)(l:fs.lookup f=some v)(q:Q v H):OM K f Q (.ref c) H:=⟨c,C,dx,fs,v,rfl,h,cl,na,l,q⟩
noncomputable def Ov(K:PM)(f:PH)(y:V)(R:Hp->Prop):VK:=fun x H2=>∃a C dx fs,x=.ref a/\H2 a=some (.ins C dx fs)/\gY K C/\dg K C f/\fs.length<1000/\R (upd H2 a (.ins C dx (b9 f y fs)))
theorem Nq(h:tv σ H fun y H1=>ta σ H1 (Ov K f y (D.nx σ))):qT K ta tv f D σ H:=h
theorem lP(h:H c=some (.ins C dx fs))(cl:gY K C)(na:dg K C f)(l:fs.length<1000)(q:R (upd H c (.ins C dx (b9 f y fs)))):Ov K f y R (.ref c) H:=⟨c,C,dx,fs,rfl,h,cl,na,l,q⟩
noncomputable def OD(K:PM)(f:PH)(tv:TE)(rd:V->V->Hp->VK->Prop)(σ:St)(R:Hp->Prop):VK:=fun x H1=>∃a C dx fs v,x=.ref a/\H1 a=some (.ins C dx fs)/\gY K C/\dg K C f/\fs.lookup f=some v/\
 tv σ H1 fun y H2=>rd v y H2 fun z H3=>∃dx' fs',H3 a=some (.ins C dx' fs')/\fs'.length<1000/\R (upd H3 a (.ins C dx' (b9 f z fs')))
theorem Md{rd:V->V->Hp->VK->Prop}(h:ta σ H (OD K f tv rd σ (D.nx σ))):jr K ta tv rd f D σ H:=h
theorem yU{rd:V->V->Hp->VK->Prop}(h:H c=some (.ins C dx fs))(cl:gY K C)(na:dg K C f)(l:fs.lookup f=some v)
  (q:tv σ H fun y H2=>rd v y H2 fun z H3=>∃dx' fs',H3 c=some (.ins C dx' fs')/\fs'.length<1000/\R (upd H3 c (.ins C dx' (b9 f z fs')))):OD K f tv rd σ R (.ref c) H:=⟨c,C,dx,fs,v,rfl,h,cl,na,l,q⟩
noncomputable def KN(C:PK)(m:PH)(sp:Sp)(E:XK)(t:TA)(σ:St)(Q:VK):VK:=fun x H1=>∃a dx fs,x=.ref a/\H1 a=some (.ins C dx fs)/\fs.lookup m=none/\t σ H1 fun vs H2=>sp (x::vs) H2 Q E
theorem Nm(h:ta σ H (KN C m sp E t σ Q)):cD C m sp [] E ta t σ H Q:=by
 have e:(fun x H1=>∃a dx fs,x=V.ref a/\H1 a=some (HO.ins C dx fs)/\fs.lookup m=none/\t σ H1 fun vs H2=>sp (x::(vs++[])) H2 Q E)=KN C m sp E t σ Q:=by
  unfold KN
  simp only[TR]
 show ta σ H (fun x H1=>∃a dx fs,x=V.ref a/\H1 a=some (HO.ins C dx fs)/\fs.lookup m=none/\t σ H1 fun vs H2=>sp (x::(vs++[])) H2 Q E)
 rw[e]
 exact h
theorem cC(h:H c=some (.ins C dx fs))(l:fs.lookup m=none)(q:t σ H fun vs H2=>sp (.ref c::vs) H2 Q E):KN C m sp E t σ Q (.ref c) H:=⟨c,dx,fs,rfl,h,l,q⟩
theorem EG(h:∀x dx,H x=none->H dx=none->dx≠x->sp [.ref x] (upd (upd H dx (.own x)) x (.ins C dx [])) (fun v H2=>v=.non/\Q (.ref x) H2) E):yP C sp [] E az σ H Q:=h
noncomputable def Pw(Q:VK)(x y:V)(H:Hp):Prop:=∃a v,x=.ref a/\qg H a y (some v)/\Q v H
theorem NB(h:td σ H fun x H1=>ty σ H1 fun y H2=>Pw Q x y H2):Fb td ty σ H Q:=h
theorem IG(h:H d=some (.dK kvs))(l:gK kvs (.inr n)=some v)(q:Q v H):Pw Q (.ref d) (.str n) H:=⟨d,v,rfl,by rw[<-l];exact qg.k (k:=.inr n) h,q⟩
noncomputable def Px(v:V)(R:Hp->Prop)(x y:V)(H:Hp):Prop:=∃a H4,x=.ref a/\Gk H a y v H4/\R H4
theorem MB(h:tv σ H fun v H1=>td σ H1 fun x H2=>ty σ H2 fun y H3=>Px v (D.nx σ) x y H3):Ft td ty tv D σ H:=h
theorem HL(h:H d=some (.dK kvs))(l:kvs.length<PZ)(q:R (upd H d (.dK (putK kvs (.inr n) v)))):Px v R (.ref d) (.str n) H:=⟨d,_,rfl,Gk.k (k:=.inr n) h l,q⟩
noncomputable def MO(Q:VK)(neg:Bool)(y x:V)(H:Hp):Prop:=∃a o,x=.ref a/\qg H a y o/\Q (.bl (o.isSome != neg)) H
theorem NK(h:ty σ H fun y H1=>td σ H1 fun x H2=>MO Q false y x H2):Nu ty td σ H Q:=by
 have e:(fun y H1=>td σ H1 fun x H2=>MO Q false y x H2)=fun y H1=>td σ H1 fun x H2=>∃a o,x=.ref a/\qg H2 a y o/\Q (.bl o.isSome) H2:=by
  unfold MO
  simp only[TF]
 rw[e]at h
 exact h
theorem ME(h:ty σ H fun y H1=>td σ H1 fun x H2=>MO Q true y x H2):uY ty td σ H Q:=by
 have e:(fun y H1=>td σ H1 fun x H2=>MO Q true y x H2)=fun y H1=>td σ H1 fun x H2=>∃a o,x=.ref a/\qg H2 a y o/\Q (.bl (!o.isSome)) H2:=by
  unfold MO
  simp only[TZ]
 rw[e]at h
 exact h
theorem FO{neg:Bool}(h:H d=some (.dK kvs))(q:Q (.bl ((gK kvs (.inr n)).isSome != neg)) H):MO Q neg (.str n) (.ref d) H:=⟨d,_,rfl,qg.k (k:=.inr n) h,q⟩
noncomputable def Pg(ty:TE)(σ:St)(Q:VK):VK:=fun x H1=>∃a,x=.ref a/\Pc H1 a/\ty σ H1 fun y H2=>∃kvs k v,H2 a=some (.dK kvs)/\y=kV k/\gK kvs k=some v/\Q v (upd H2 a (.dK (rn kvs k)))
theorem OB(h:td σ H (Pg ty σ Q)):AZ td ty σ H Q:=h
theorem Ot{R:Bool->Hp->Prop}(h:td σ H fun x H1=>∃a kvs,x=.ref a/\H1 a=some (.dK kvs)/\R (!kvs.isEmpty) H1):NQ td σ H R:=h
theorem xl(h:H d=some (.dK kvs))(q:Q (.int kvs.length) H):wk [.ref d] H Q:=⟨d,kvs,rfl,h,q⟩
theorem JW(h:∀p H1,H p=none->av H H1->H1 p=some (.dK [])->Q (.ref p) H1):Au σ H Q:=fun p hp=>h p _ hp (av.updN hp) ax
end
theorem eX{α β γ:Type}{F:β->γ->Prop}{f:α->β}:∀{xs:List α}{ys:List γ},Qd (fun x y=>F (f x) y) xs ys->Qd F (xs.map f) ys
 |_,_,.nil=>.nil
 |_,_,.cons h t=>.cons h (eX t)
theorem gx{α β:Type}{F:α->β->Prop}:∀{l₁:List α}{l₂:List β}{i:Nat}{a:α},Qd F l₁ l₂->l₁[i]?=some a->∃b,l₂[i]?=some b/\F a b
 |_,_,_,_,.nil,e=>by simp at e
 |_,_,0,_,.cons r _,e=>by simp at e;subst e;exact⟨_,rfl,r⟩
 |_,_,i+1,x,.cons _ t,e=>by
  obtain⟨u,h1,h2⟩:=gx (i:=i) (a:=x) t (by simpa using e)
  exact⟨u,by simpa using h1,h2⟩
section
variable {mp:List (Option Nat)}{g:TG}{tt:TT}{te:TE}{J:It}{P:Hp->Prop}{n:Nat}{f:Nat->St->St}{σ:St}{H:Hp}{Q:VK}
theorem nP(Y:Ys J g P n f)(st:Nat->St)(hf:∀i σ',(σ'=c6 mp σ\/∃j,σ'=st j)->f i σ'=st i)(hP:∀H',av H H'->P H')(hz:n<=PZ)(b:Nat->Bool)(row:Nat->List V)
  (ht:∀i,i<n->∀(H':Hp)(G:Bool->Hp->Prop),av H H'->(∀H'',av H' H''->G (b i) H'')->tt (st i) H' G)
  (he:∀i,i<n->b i=true->∀(H':Hp)(G:VK),av H H'->(∀a H'',H' a=none->av H' H''->H'' a=some (.tup (row i))->G (.ref a) H'')->te (st i) H' G)
  (hd:∀l bs H',H l=none->av H H'->H' l=some (.lst (bs.map V.ref))->Qd (fun i a=>H' a=some (.tup (row i))) ((P4 n).filter b) bs->Q (.ref l) H'):dq mp g tt te J σ H Q:=by
 refine gh Y st hf hP hz b (fun l i v H'=>∃a,v=.ref a/\a≠l/\H' a=some (.tup (row i))) (fun l i v H1 H2 s ⟨a,e,hl,h1⟩=>⟨a,e,hl,s a _ hl h1⟩) ht
  (fun l i hi hb H' G hl ⟨o,ho⟩ s k=>he i hi hb H' G s fun a H'' h0 s' h1=>k _ H'' ⟨a,rfl,(fun e=>by rw[e,ho]at h0;cases h0),h1⟩ s') fun l ys H' h0 s h1 pr=>?_
 obtain⟨bs,rfl,pr'⟩:=jz (T:=fun a i=>a≠l/\H' a=some (.tup (row i))) pr
 exact hd l bs H' h0 s h1 (Paired.mapP pr' fun _ _ q=>q.2)
end
theorem CN{K:PM}{d:PK}{o:PV}{kvs:List (Key×V)}(p r:Nat)(u v:Nat->V)(hu:∀i q,kvs[i]?=some q->kV q.1=u i/\q.2=v i):
  Ys (OX d o kvs) (gf K 2 (bz (au p) (bz (au r) fW))) (fun H=>H d=some (.frz o (.dK kvs))) kvs.length (fun i σ=>(σ.set p (some (u i))).set r (some (v i))) where
 go:=fun i H hi h=>⟨h,hi⟩
 stop:=fun H h=>⟨h,Qe _⟩
 yld:=fun i H x H' σ Q hi h y q=>by
  obtain⟨T,w,rfl,hT,hw,rfl⟩:=y
  obtain⟨e1,e2⟩:=hu i w hw
  exists T,_,rfl,kN.of ax,rfl,_,_,rfl,_,_,rfl,rfl
  have:=q _ (av.updN hT (o:=.tup [kV w.1,w.2]))
  rw[<-e1,<-e2]at this
  exact this
section
variable {K:PM}{mp:List (Option Nat)}{te td:TE}{σ:St}{H:Hp}{Q:VK}{d:PK}{kvs:List (Key×V)}
theorem Eh(htd:∀k:VK,k (.ref d) H->td σ H k)(hd:H d=some (.dK kvs))(hz:kvs.length<=PZ)(u v:Nat->V)(hu:∀i q,kvs[i]?=some q->kV q.1=u i/\q.2=v i)
  (st:Nat->St) (hf:∀i σ',(σ'=c6 mp σ\/∃j,σ'=st j)->(σ'.set 0 (some (u i))).set 1 (some (v i))=st i) (row:Nat->List V)
  (he:∀i,i<kvs.length->∀(H':Hp)(G:VK),(∀a H'',H' a=none->av H' H''->H'' a=some (.tup (row i))->G (.ref a) H'')->te (st i) H' G)
  (hq:∀l bs H2,H l=none->av H H2->H2 l=some (.lst (bs.map V.ref))->Qd (fun i a=>H2 a=some (.tup (row i))) (P4 kvs.length) bs->Q (.ref l) H2):
  gP (bO mp (wH td) (gf K 2 (bz (au 0) (bz (au 1) fW))) dv te) σ H Q:=by
 exists d,kvs,hd
 refine mK ?_
 refine htd _ ⟨d,kvs,rfl,hd,fun o w hw hne=>?_⟩
 have hl0:∀a,upd (upd H w (zg w d)) d (.frz o (.dK kvs)) a=none->H a=none:=fun a ha=>by
  by_cases h1:a=d
  ·subst h1;rw[ax]at ha;cases ha
  ·rw[ak h1]at ha
   by_cases h2:a=w
   ·subst h2;exact hw
   ·rwa [ak h2]at ha
 refine nP (CN 0 1 u v hu) st hf (fun H' s=>s _ _ ax) hz (fun _=>true) row (fun i hi H' G s k=>k H' (av.refl _)) (fun i hi _ H' G _ k=>he i hi H' G k) fun l bs H' h0 s h1 pr=>?_
 rw[Sd.mpr (fun _ _=>rfl)]at pr
 have hfd:H' d=some (.frz o (.dK kvs)):=s _ _ ax
 have hld:l≠d:=fun e=>by rw[e,ax]at h0;cases h0
 refine⟨o,kvs,hfd,hq l bs _ (hl0 l h0) (fun a x ha=>?_) (by rw[ak hld];exact h1) (Paired.mapP pr fun i a q=>?_)⟩
 ·by_cases h1:a=d
  ·subst h1
   rw[ax,<-hd];exact ha
  ·rw[ak h1]
   have hw2:a≠w:=fun e=>by rw[e,hw]at ha;cases ha
   exact s _ _ (by rw[ak h1,ak hw2];exact ha)
 ·rw[ak (fun e=>by rw[e,hfd]at q;cases q)];exact q
end
noncomputable def NW(d:PK)(o:PV)(kvs:List (Key×V)):It:=
 ⟨fun i H=>H d=some (.frz o (.dK kvs))/\i<kvs.length,fun i H x H'=>H'=H/\∃p,kvs[i]?=some p/\x=kV p.1,fun i H=>H d=some (.frz o (.dK kvs))/\kvs.length<=i⟩
theorem GH{P:Qc}{w:P8}{K:PM}{tg:PY}(d it:PK)(o:PV)(es:Array RM)(ep:Nat)(ho:o.data=.dict es ep)(kvs:List (Key×V)):
  Turn P w K tg (NW d o kvs) [it] it (fun i h=>h.IsKeyIter it d i kvs.length ep) where
 mem:=by simp
 obj:=fun i h st b hb=>by
  have z:b=it:=by simpa using hb
  subst z
  obtain⟨io,e,c,dt⟩:=st
  exact⟨io,e,fun v z=>by rw[dt]at z;cases z⟩
 keep:=fun i h h' st k=>by
  obtain⟨io,e,r⟩:=st
  exact⟨io,k it (by simp) io e,r⟩
 item:=by
  intro X hP hw hK hc i pins s σ H E I hf st hg
  subst hP hw hK
  obtain⟨hd,hi⟩:=hg
  obtain⟨vs,rel,hat⟩:=jL I hd ho
  have hlen:kvs.length=vs.length:=Qw rel
  obtain⟨f0,f1,f2,f3,f4,f5⟩:=hf it (by simp)
  have hvi:vs[i]?=some vs[i]:=Qj (by omega)
  obtain⟨p,hp1,hp2,hp3⟩:=nj rel i _ hvi
  have st':s.heap.IsKeyIter it d i vs.length ep:=by rw[<-hlen];exact st
  refine wpAny_pyNext_dict_item (knd:=aX X.prog X.w) (k:=(vs[i]).1) (v:=(vs[i]).2) st' hat hvi fun key h' hkey hit' sb=>?_
  have I1:Inv X pins σ H {s with heap:=h',toks:=s.toks}:=I.turned (t':=s.toks) (fun b o hb e=>(sb.2 b hb).trans e) f0 f1 f3 f4 f5
  obtain⟨io,e,c,dt⟩:=id hit'
  refine⟨_,rfl,CP (s:={s with heap:=h'}) e c dt (by decide) ⟨kV p.1,H,I1,by rw[hp2];exact wB hkey,⟨rfl,p,hp1,rfl⟩,by rw[hlen];exact hit',fun b hb=>(hf b hb).1⟩⟩
 done:=by
  intro X hP hw hK hc i pins s σ H E I hf st hg
  subst hP hw hK
  obtain⟨hd,hi⟩:=hg
  obtain⟨vs,rel,hat⟩:=jL I hd ho
  have hlen:kvs.length=vs.length:=Qw rel
  obtain⟨f0,f1,f2,f3,f4,f5⟩:=hf it (by simp)
  have st':s.heap.IsKeyIter it d i vs.length ep:=by rw[<-hlen];exact st
  exact wpAny_pyNext_dict_end (knd:=aX X.prog X.w) (I.ok.hd hc) st' hat (Sz (by omega)) fun h' eb=>⟨rfl,I.turned (t':=s.toks) (fun b o hb e'=>eb b o hb e') f0 f1 f3 f4 f5⟩
 self:=fun _ _ _ _ _ st h=>wpAny_pyIter_keyiter st h
section
variable {X:Cx}{tg:PY}
noncomputable def B3(td:TE):TI:=fun σ H R=>td σ H fun x H1=>∃(d:PK)(kvs:List (Key×V)),x=.ref d/\H1 d=some (.dK kvs)/\∀(o:PV),R (NW d o kvs) (upd H1 d (.frz o (.dK kvs)))
theorem Fu{l:PY}{tl:TE}(hl:PE X l tl):PI X tg l (B3 tl):=by
 intro pins s σ H R I h
 refine cI (hl pins s σ H _ I h) fun v s1 ⟨x,H1,I1,r1,d,kvs,ex,hd,q1⟩=>?_
 subst ex
 cases(show v=Qo d from r1)
 obtain⟨z,hdS,vs,rel,dd⟩:=gA I1.hok (.inl hd)
 have hlen:kvs.length=vs.length:=Qw rel
 obtain⟨o,es,ep,ho,hex,hdat,r⟩:=id dd
 have IF:=I1.freeze hd ho
 have hat:s1.heap.DictAt (aX X.prog X.w) d vs ep:=⟨o,es,ho,hex,hdat,r⟩
 refine TV (knd:=aX X.prog X.w) hdS hat ?_
 refine⟨_,[_],_,NW d o kvs,_,rfl,IF.kept (t':=s1.toks) (fun b u e=>Qr _ e),GH d _ o es ep hdat kvs,⟨_,Qz _ rfl,rfl,by rw[hlen];rfl⟩,fun b hb=>?_,q1 o⟩
 have zb:b=s1.heap.objs.size:=by simpa using hb
 subst zb
 exact IF.fpOk (Qe _) (IF.hok.fresh (Qe _))
end
theorem Fw{d:PK}{o:PV}{kvs:List (Key×V)}(p:Nat)(u:Nat->V)(hu:∀i q,kvs[i]?=some q->kV q.1=u i):
  Ys (NW d o kvs) (au p) (fun H=>H d=some (.frz o (.dK kvs))) kvs.length (fun i σ=>σ.set p (some (u i))) where
 go:=fun i H hi h=>⟨h,hi⟩
 stop:=fun H h=>⟨h,Qe _⟩
 yld:=fun i H x H' σ Q hi h y q=>by
  obtain⟨e,w,hw,ex⟩:=y
  subst e ex
  rw[hu i w hw]
  exact q _ (av.refl _)
section
variable {K:PM}{mp:List (Option Nat)}{tt:TT}{te td:TE}{σ:St}{H:Hp}{Q:VK}{d:PK}{kvs:List (Key×V)}
theorem F4(htd:∀k:VK,k (.ref d) H->td σ H k)(hd:H d=some (.dK kvs))(hz:kvs.length<=PZ)(u:Nat->V)(hu:∀i q,kvs[i]?=some q->kV q.1=u i)
  (st:Nat->St) (hf:∀i σ',(σ'=c6 mp σ\/∃j,σ'=st j)->σ'.set 0 (some (u i))=st i) (b:Nat->Bool) (F:Nat->V)
  (ht:∀i,i<kvs.length->∀(H':Hp)(G:Bool->Hp->Prop),ef d H H'->(∀H'',av H' H''->G (b i) H'')->tt (st i) H' G)
  (he:∀i,i<kvs.length->b i=true->∀(H':Hp)(G:VK),ef d H H'->(∀H'',av H' H''->G (F i) H'')->te (st i) H' G)
  (hq:∀l H2,H l=none->av H H2->H2 l=some (.lst (((P4 kvs.length).filter b).map F))->Q (.ref l) H2):
  gP (bO mp (B3 td) (au 0) tt te) σ H Q:=by
 exists d,kvs,hd
 refine mK ?_
 refine htd _ ⟨d,kvs,rfl,hd,fun o=>?_⟩
 have hl0:∀a,upd H d (.frz o (.dK kvs)) a=none->H a=none:=fun a ha=>by
  by_cases h1:a=d
  ·subst h1;rw[ax]at ha;cases ha
  ·rwa [ak h1]at ha
 have hx:∀H',av (upd H d (.frz o (.dK kvs))) H'->ef d H H':=fun H' s a x ha h=>s _ _ (by rw[ak ha];exact h)
 refine kD (Fw 0 u hu) st hf (fun H' s=>s _ _ ax) hz b F (fun i hi H' G s k=>ht i hi H' G (hx H' s) k) (fun i hi hb H' G s k=>he i hi hb H' G (hx H' s) k) fun l H' h0 s h1=>?_
 have hfd:H' d=some (.frz o (.dK kvs)):=s _ _ ax
 have hld:l≠d:=fun e=>by rw[e,ax]at h0;cases h0
 refine⟨o,kvs,hfd,hq l _ (hl0 l h0) (fun a x ha=>?_) (by rw[ak hld];exact h1)⟩
 by_cases h1:a=d
 ·subst h1
  rw[ax,<-hd];exact ha
 ·rw[ak h1]
  exact hx H' s a x h1 ha
end
section
variable {X:Cx}
noncomputable def Gg(K:PM)(neg:Bool):R2:=fun x y H Q=>∃(ds:List Qx)(d:Qx),eF K H y (.list ds)/\eF K H x d/\fQ 8 (.list ds)/\fQ 8 d/\Q (.bl ((ds.any fun y=>same y d) != neg)) H
theorem Cd{ds:List Qx}{d:Qx}(h1:dP ds=true)(h2:nice d=true):(ds.any fun y=>PyData.eqv y d)=ds.any fun y=>same y d:=by
 induction ds with
 |nil=>rfl
 |cons a r ih=>
  rw[dP,QX]at h1
  rw[R7,R7,ih h1.2,SeqAt.same_eq_eqv a d (xB a d h1.1 h2)]
theorem Fe{ds:List Qx}(h:fQ 8 (.list ds)):dP ds=true/\S4 ds<=8:=by
 obtain⟨h1,h2⟩:=h
 rw[nice]at h1
 rw[S2]at h2
 exact⟨h1,by omega⟩
theorem JO(hu:X.A.units+64<cLine):je X (QP .In) (Gg X.K false):=by
 intro pins s σ H x y u v Q I rx ry h
 obtain⟨ds,d,h1,h2,n1,n2,q⟩:=h
 obtain⟨as,a⟩:=fK I h1 ry
 obtain⟨bs,b⟩:=fK I h2 rx
 obtain⟨m1,m2⟩:=Fe n1
 refine SeqAt.in_list_reads a b (gB ds m1) (qG d n2.1) (by have:=n2.2;omega) ?_
 rw[Cd m1 n2.1]
 rw[TF]at q
 exact⟨.bl _,H,I,rfl,q⟩
theorem Kx(hu:X.A.units+64<cLine):je X (QP .NotIn) (Gg X.K true):=by
 intro pins s σ H x y u v Q I rx ry h
 obtain⟨ds,d,h1,h2,n1,n2,q⟩:=h
 obtain⟨as,a⟩:=fK I h1 ry
 obtain⟨bs,b⟩:=fK I h2 rx
 obtain⟨m1,m2⟩:=Fe n1
 refine SeqAt.notIn_list_reads a b (gB ds m1) (qG d n2.1) (by have:=n2.2;omega) ?_
 rw[Cd m1 n2.1]
 rw[TZ]at q
 exact⟨.bl _,H,I,rfl,q⟩
end
end L2
namespace L2
open PySem PySem.Spec PyProof.Rows PySem.W PySem.SeqAt PySem.MeetsSeq
open PySem.AutoSeq1 (wpAny_loadPart')
section
variable {X:Cx}
end
end L2
namespace L2
open PySem PySem.Spec PyProof.Rows PySem.W
section
variable {X:Cx}
noncomputable def Jd:List V->Hp->VK->Prop:=fun xs H Q=>∃(d:PK)(kvs:List (Key×V)),xs=[.ref d]/\H d=some (.dK kvs)/\∀l,H l=none->Q (.ref l) (upd H l (.lst (kvs.map fun p=>kV p.1)))
theorem D8(hc:X.calm=true):fJ X (.type "list") Jd:=by
 intro pins s σ H xs us Q I r h
 obtain⟨d,kvs,rfl,hd,q⟩:=h
 obtain⟨u,rfl,ru⟩:=vals1 r
 cases ru
 obtain⟨z,hdS,vs,rel,dd⟩:=gA I.hok (.inl hd)
 obtain⟨ep,hat⟩:=dd.dictAt
 have hlen:kvs.length=vs.length:=Qw rel
 refine kdl_call (kdl_dict (knd:=aX X.prog X.w) (kvs:=vs) (ep:=ep) hdS) (I.ok.hd hc) hat (by rw[<-hlen];exact z) fun h' tk acc c hk hl hacc=>?_
 have hal:acc.toList.length=vs.length:=by rw[U7];exact hacc.1
 refine⟨.ref s.heap.objs.size,_,I.laid (t':=tk) (a:=s.heap.objs.size) (o:=.lst (kvs.map fun p=>kV p.1)) hk (Qe _) ⟨by rw[P7];exact z,acc.toList,c,?_,by rw[VH];exact hl⟩,rfl,q _ (I.hok.fresh (Qe _))⟩
 refine nI (by rw[P7,hal,hlen]) fun i x u e1 e2=>?_
 obtain⟨k,y,hx,hkey⟩:=hacc.2 i u (by rw[<-Xr];exact e2)
 obtain⟨p,hp1,hp2,_⟩:=nj rel i _ hx
 rw[Se,hp1]at e1
 cases e1
 show RelV (kV p.1) u
 rw[hp2]
 exact wB hkey
noncomputable def mZ(v d:PK):HO:=.ext fun h=>h.IsValuesView v d
noncomputable def Ji:V->List V->Hp->VK->Prop:=fun x vs H Q=>∃(d:PK)(kvs:List (Key×V)),x=.ref d/\vs=[]/\H d=some (.dK kvs)/\∀v,H v=none->Q (.ref v) (upd H v (mZ v d))
theorem Lz:O8 X "dict.values" Ji:=by
 intro pins s σ H x xs v us Q I rx r h
 obtain⟨d,kvs,rfl,rfl,e,q⟩:=h
 cases r
 cases(show v=Qo d from rx)
 obtain⟨z,hd,vs,rel,dd⟩:=gA I.hok (.inl e)
 refine TU UY dd.typeIs Wp (XO _) (meets_dict_values (aX X.prog X.w) d hd) ⟨⟨vs,dd⟩,?_⟩
 refine⟨.ref s.heap.objs.size,upd H s.heap.objs.size (mZ s.heap.objs.size d),I.laid (t':=s.toks) (fun b u e=>Qr _ e) (Qe _) ⟨⟨_,Qz _ rfl,rfl,rfl⟩,⟨_,Qz _ rfl⟩,fun h1 h2 x k=>?_⟩,rfl,q _ (I.hok.fresh (Qe _))⟩
 obtain⟨o,ho,r⟩:=x
 exact⟨o,k o ho,r⟩
noncomputable def Co:List V->Hp->VK->Prop:=fun xs H Q=>∃(v d:PK)(kvs:List (Key×V)),xs=[.ref v]/\H v=some (mZ v d)/\H d=some (.dK kvs)/\∀l,H l=none->Q (.ref l) (upd H l (.lst (kvs.map (·.2))))
theorem Aa(hc:X.calm=true):fJ X (.type "list") Co:=by
 intro pins s σ H xs us Q I r h
 obtain⟨v,d,kvs,rfl,hv,hd,q⟩:=h
 obtain⟨u,rfl,ru⟩:=vals1 r
 cases ru
 obtain⟨z,hdS,vs,rel,dd⟩:=gA I.hok (.inl hd)
 obtain⟨ep,hat⟩:=dd.dictAt
 have hlen:kvs.length=vs.length:=Qw rel
 have hvw:s.heap.IsValuesView v d:=(show dc X.prog X.w H s.heap v (mZ v d)from I.hok v _ hv).1
 refine kdl_call (kdl_values (knd:=aX X.prog X.w) (kvs:=vs) (ep:=ep)) (I.ok.hd hc) ⟨hvw,hat⟩ (by rw[<-hlen];exact z) fun h' tk acc c hk hl hacc=>?_
 have hal:acc.toList.length=vs.length:=by rw[U7];exact hacc.1
 refine⟨.ref s.heap.objs.size,_,I.laid (t':=tk) (a:=s.heap.objs.size) (o:=.lst (kvs.map (·.2))) hk (Qe _) ⟨by rw[P7];exact z,acc.toList,c,?_,by rw[VH];exact hl⟩,rfl,q _ (I.hok.fresh (Qe _))⟩
 refine nI (by rw[P7,hal,hlen]) fun i x u e1 e2=>?_
 obtain⟨k,hx⟩:=hacc.2 i u (by rw[<-Xr];exact e2)
 obtain⟨p,hp1,hp2,hp3⟩:=nj rel i _ hx
 rw[Se,hp1]at e1
 cases e1
 exact hp3
end
noncomputable def OF(d:PK)(o:PV)(kvs:List (Key×V)):It:=
 ⟨fun i H=>H d=some (.frz o (.dK kvs))/\i<kvs.length,fun i H x H'=>H'=H/\∃p,kvs[i]?=some p/\x=p.2,fun i H=>H d=some (.frz o (.dK kvs))/\kvs.length<=i⟩
theorem GF{P:Qc}{w:P8}{K:PM}{tg:PY}(d it:PK)(o:PV)(es:Array RM)(ep:Nat)(ho:o.data=.dict es ep)(kvs:List (Key×V)):
  Turn P w K tg (OF d o kvs) [it] it (fun i h=>h.IsValIter it d i kvs.length ep) where
 mem:=by simp
 obj:=fun i h st b hb=>by
  have z:b=it:=by simpa using hb
  subst z
  obtain⟨io,e,c,dt⟩:=st
  exact⟨io,e,fun v z=>by rw[dt]at z;cases z⟩
 keep:=fun i h h' st k=>by
  obtain⟨io,e,r⟩:=st
  exact⟨io,k it (by simp) io e,r⟩
 item:=by
  intro X hP hw hK hc i pins s σ H E I hf st hg
  subst hP hw hK
  obtain⟨hd,hi⟩:=hg
  obtain⟨vs,rel,hat⟩:=jL I hd ho
  have hlen:kvs.length=vs.length:=Qw rel
  obtain⟨f0,f1,f2,f3,f4,f5⟩:=hf it (by simp)
  have hvi:vs[i]?=some vs[i]:=Qj (by omega)
  obtain⟨p,hp1,hp2,hp3⟩:=nj rel i _ hvi
  have st':s.heap.IsValIter it d i vs.length ep:=by rw[<-hlen];exact st
  refine wpAny_pyNext_values_item (knd:=aX X.prog X.w) (k:=(vs[i]).1) (v:=(vs[i]).2) st' hat hvi fun h' hit' sb=>?_
  have I1:Inv X pins σ H {s with heap:=h',toks:=s.toks}:=I.turned (t':=s.toks) (fun b o hb e=>(sb.2 b hb).trans e) f0 f1 f3 f4 f5
  obtain⟨io,e,c,dt⟩:=id hit'
  refine⟨_,rfl,CP (s:={s with heap:=h'}) e c dt (by decide) ⟨p.2,H,I1,hp3,⟨rfl,p,hp1,rfl⟩,by rw[hlen];exact hit',fun b hb=>(hf b hb).1⟩⟩
 done:=by
  intro X hP hw hK hc i pins s σ H E I hf st hg
  subst hP hw hK
  obtain⟨hd,hi⟩:=hg
  obtain⟨vs,rel,hat⟩:=jL I hd ho
  have hlen:kvs.length=vs.length:=Qw rel
  obtain⟨f0,f1,f2,f3,f4,f5⟩:=hf it (by simp)
  have st':s.heap.IsValIter it d i vs.length ep:=by rw[<-hlen];exact st
  exact wpAny_pyNext_values_end (knd:=aX X.prog X.w) (I.ok.hd hc) st' hat (Sz (by omega)) fun h' eb=>⟨rfl,I.turned (t':=s.toks) (fun b o hb e'=>eb b o hb e') f0 f1 f3 f4 f5⟩
 self:=fun _ _ _ _ _ st h=>wpAny_pyIter_valiter st h
section
variable {X:Cx}{tg:PY}
noncomputable def Jo(td:TE):TI:=fun σ H R=>td σ H fun x H1=>∃(d:PK)(kvs:List (Key×V)),x=.ref d/\H1 d=some (.dK kvs)/\∀(o:PV)(v:PK),H1 v=none->v≠d->R (OF d o kvs) (upd (upd H1 v (mZ v d)) d (.frz o (.dK kvs)))
theorem KI{e:PY}{td:TE}{apos cpos:Qi}(he:PE X e td)
  (hbase:SK e "values" X.env (eval e X.env)=eval e X.env:=by rfl) (hline:(apos.endLine==cpos.line)=true:=by rfl):
  PI X tg (.Call (.Attribute e "values" apos) [] [] cpos) (Jo td):=by
 intro pins s σ H R I h
 refine wpAny_Call_method0_late hbase hline (cI (he pins s σ H _ I h) fun v s1 ⟨x,H1,I1,r1,d,kvs,ex,hd,q1⟩=>?_)
 subst ex
 cases(show v=Qo d from r1)
 obtain⟨z,hdS,vs,rel,dd⟩:=gA I1.hok (.inl hd)
 have hlen:kvs.length=vs.length:=Qw rel
 have h2:∀a,Qo d=.ref a->∃ob,s1.heap.get? a=some ob/\ob.dict=none:=fun a e=>by
  cases e
  obtain⟨o,_,_,ho,hex,_⟩:=id dd
  exact⟨o,ho,hex.2.1⟩
 refine⟨"dict","dict.values",UM,UY,YN,dd.typeIs,h2,Um rfl (Vt ?_)⟩
 refine TU UY dd.typeIs Wp (XO _) (meets_dict_values (aX X.prog X.w) d hdS) ⟨⟨vs,dd⟩,?_⟩
 have fV:H1 s1.heap.objs.size=none:=I1.hok.fresh (Qe _)
 have hdlt:d<s1.heap.objs.size:=I1.hok.lt hd
 have IV:Inv X pins σ (upd H1 s1.heap.objs.size (mZ s1.heap.objs.size d)) {s1 with heap:=s1.heap.push {cls:=.type "dict_values",data:=.fields #[.ref d]},toks:=s1.toks}:=
  I1.laid (t':=s1.toks) (fun b u e=>Qr _ e) (Qe _) ⟨⟨_,Qz _ rfl,rfl,rfl⟩,⟨_,Qz _ rfl⟩,fun h1 h2 x k=>by
   obtain⟨o,ho,r⟩:=x
   exact⟨o,k o ho,r⟩⟩
 have hd':upd H1 s1.heap.objs.size (mZ s1.heap.objs.size d) d=some (.dK kvs):=by rw[ak (Qt hdlt)];exact hd
 obtain⟨o,es,ep,ho,hex,hdat,r⟩:=id dd
 have ho1:(s1.heap.push {cls:=.type "dict_values",data:=.fields #[.ref d]}).get? d=some o:=Qr _ ho
 have IF:=IV.freeze hd' ho1
 have hat:(s1.heap.push {cls:=.type "dict_values",data:=.fields #[.ref d]}).DictAt (aX X.prog X.w) d vs ep:=⟨o,es,ho1,hex,hdat,r⟩
 show PQ _ _ (pyIter (.ref s1.heap.objs.size)) _ _ _
 refine wpAny_pyIter_values (knd:=aX X.prog X.w) (d:=d) ⟨_,Qz _ rfl,rfl,rfl⟩ hat ?_
 refine⟨_,[_],_,OF d o kvs,_,rfl,IF.kept (t':=s1.toks) (fun b u e=>Qr _ e),GF d _ o es ep hdat kvs,⟨_,Qz _ rfl,rfl,by rw[hlen];rfl⟩,fun b hb=>?_,q1 o _ fV (Ro hdlt)⟩
 have zb:b=(s1.heap.push {cls:=.type "dict_values",data:=.fields #[.ref d]}).objs.size:=by simpa using hb
 subst zb
 exact IF.fpOk (Qe _) (IF.hok.fresh (Qe _))
end
section
variable {prog:Qc}{w:P8}{κ:Type} [DecidableEq κ] {knd:KeyKind prog w κ}{A:Qg}{E:PL->PN->Prop}{s:PN}
theorem kq{it d:PK}{i ep:Nat}{kvs:List (κ×PL)}{k:κ}{v:PL}{Q:PL->PN->Prop}(st:s.heap.IsKeyIter it d i kvs.length ep)(hm:s.heap.DictAt knd d kvs ep)(hx:kvs[i]?=some (k,v))
  (q:∀key h',knd.is k key=true->h'.IsKeyIter it d (i+1) kvs.length ep->RT it s.heap h'->Q key {s with heap:=h'}):PQ (model prog w) A (R5 (.ref it)) Q E s:=by
 unfold R5
 exact PR (kdk_special st hm hx fun key h' h1 h2 h3=>Qh (q key h' h1 h2 h3))
theorem nK{it d:PK}{i ep:Nat}{kvs:List (κ×PL)}{Q:PL->PN->Prop}(hA:A.handled=none)(st:s.heap.IsKeyIter it d i kvs.length ep)(hm:s.heap.DictAt knd d kvs ep)(none_:kvs[i]?=none)
  (q:∀h' e,Heap.ExtBut it s.heap h'->(∃x,h'.get? e=some x/\x.cls=.type "StopIteration")->E (.ref e) {s with heap:=h'}):PQ (model prog w) A (R5 (.ref it)) Q E s:=by
 obtain⟨io,g1,g2,g3⟩:=id st
 obtain⟨od,es,k1,k2,k3,k4,k5,k6⟩:=id hm
 have len:es.size=kvs.length:=by have:=k5.length;simpa using this
 have past:es.size<=i:=by rw[len];exact List.getElem?_eq_none_iff.mp none_
 unfold R5
 refine PR (Ul (name:=Ui "__next__") st.typeIs Xv (Td Xv st.typeIs aaq ?_ (aaW _)))
 refine PR (Qh (PR (PR ?_)))
 first|refine PR (wpAny_typeNameOfWhole_keyiter st.typeIs (Qh (PR (wpAny_fieldsOf g1 g3 ?_))))|refine PR (wpAny_typeNameOf_keyiter st.typeIs (Qh (PR (wpAny_fieldsOf g1 g3 ?_))))
 rw[show Zb "dict_keyiterator"=false from by decide]
 simp only[Ss,if_false]
 show PQ _ _ (if(Qo d==Rg)=true then _ else _) _ _ s
 refine wpAny_ite_split (fun z=>absurd z QM) fun _=>PR (Qh (PR (wpAny_dictEntries k1 k3 ?_)))
 rw[if_neg (by rw[len];simp)]
 refine PR (Qh (PR (wpAny_dictEpoch k1 k3 ?_)))
 rw[if_neg (by simp)]
 refine Qh ?_
 simp only[show ¬(((i:Nat):Int)<0)from by omega,if_false,VD,Array.getElem?_eq_none past]
 refine PR ?_
 first|refine PR (wpAny_typeNameOfWhole_keyiter st.typeIs (Qh ?_))|refine PR (wpAny_typeNameOf_keyiter st.typeIs (Qh ?_))
 show PQ _ _ (setField (.ref it) 0 .none >>= _) _ _ s
 refine PR (wpAny_setField g1 g3 (by simp) ?_)
 show PQ _ _ (newExc (.type "StopIteration") [] >>= _) _ _ _
 refine PR ?_
 simp only[newExc,newTuple]
 refine PR (wpAny_newObj_type (PR (m:=firstArgMember _ _) (wpAny_of_eq (a:=Rg) (by first|rfl|(simp only[firstArgMember];rfl)) (wpAny_newObj_type ?_ (by size_fits)))) (by size_fits))
 simp only[raiseNew]
 refine PR (wpAny_handled ?_)
 first|rw[show A.in1.handled=none from hA]|rw[hA]
 exact PR (Qh (wpAny_throw (q _ _ (((aaU ..).extBut.push _).push _) ⟨_,Qz _ rfl,rfl⟩)))
theorem w6(hA:A.handled=none)(it d:PK)(hne:d≠it)(kvs:List (κ×PL))(ep:Nat):
  Draws prog w A it [it,d] kvs.length (fun i v=>∃k x,kvs[i]?=some (k,x)/\knd.is k v=true) (fun i h=>h.IsKeyIter it d i kvs.length ep/\h.DictAt knd d kvs ep) where
 live:=fun _ _ st=>let ⟨o,ho,_⟩:=st.1;⟨o,ho⟩
 frame:=fun _ _ _ st hk=>⟨st.1.at fun o e=>hk it (by simp) o e,st.2.at' fun o e=>hk d (by simp) o e⟩
 item:=fun i s Q E hi st hQ=>by
  obtain⟨⟨k,x⟩,hx⟩:∃p,kvs[i]?=some p:=⟨kvs[i],by simp[hi]⟩
  exact kq st.1 st.2 hx fun key h' h1 h2 h3=>hQ key h' s.toks ⟨k,x,hx,h1⟩ ⟨h2,st.2.extBut h3.extBut hne⟩ h3
 done:=fun s Q E st hE=>nK hA st.1 st.2 (by simp) hE
noncomputable def oI(d:PK)(n ep:Nat):PV:={cls:=.type "dict_keyiterator",data:=.fields #[.ref d,.int 0 0,.int n 0,.int ep 0]}
noncomputable def AA(it:PK):PV:={cls:=.type "enumerate",data:=.fields #[.none,.bool false,.ref it,QQ 0,.none,.none]}
theorem x6(d:PK)(lo:(d==RD)=false)(kvs:List (κ×PL))(ep:Nat):
  MeetsIn prog w (RG.«enumerate.__new__» ⟨[.type "enumerate",.ref d],[]⟩) (fun _ R s=>s.heap.DictAt knd d kvs ep/\R (.ok (.ret (.ref (s.heap.push (oI d kvs.length ep)).objs.size))) {s with heap:=(s.heap.push (oI d kvs.length ep)).push (AA s.heap.objs.size)}):=by
 refine W6 fun A R s h=>?_
 obtain⟨hp,g,dr,tk,os⟩:=s
 obtain⟨hm,h⟩:=h
 have hsub:=sub_enumerate
 wp_walk
 refine wpAny_stack_any fun st=>Qh ?_
 split
 ·rename_i c _ _ _ _ _
  cases(c==Vv "enumerate")
  ·wp_walk using(TV (knd:=knd) lo hm)
   exact⟨_,rfl,h⟩
  ·wp_walk using(TV (knd:=knd) lo hm)
   exact⟨_,rfl,h⟩
 ·wp_walk using(TV (knd:=knd) lo hm)
  exact⟨_,rfl,h⟩
end
noncomputable def LB(d:PK)(o:PV)(kvs:List (Key×V)):It:=
 ⟨fun i H=>H d=some (.frz o (.dK kvs))/\i<kvs.length,fun i H x H'=>∃T p,x=.ref T/\H T=none/\kvs[i]?=some p/\H'=upd H T (.tup [.int i,kV p.1]),fun i H=>H d=some (.frz o (.dK kvs))/\kvs.length=i⟩
theorem EA{P:Qc}{w:P8}{K:PM}{elts:List PY}{x1}{pos:Qi}(d e it:PK)(o:PV)(es:Array RM)(ep:Nat)(ho:o.data=.dict es ep)(kvs:List (Key×V))(hne:e≠it)(hdi:d≠it)(hde:d≠e):
  Turn P w K (.Tuple elts x1 pos) (LB d o kvs) [e,it] e (fun i h=>(∃old,IsEnum h e it ((i:Nat):Int) old)/\h.IsKeyIter it d i kvs.length ep) where
 mem:=by simp
 obj:=fun i h st b hb=>by
  obtain⟨⟨old,he⟩,o,ho,hc,hd⟩:=st
  rcases Qa.mp hb with z|hb
  ·subst z
   exact⟨_,he,fun v z=>by
    have z':TH _=SJ v:=z
    cases z'⟩
  ·have z:b=it:=by simpa using hb
   subst z
   exact⟨o,ho,fun v z=>by rw[hd]at z;cases z⟩
 keep:=fun i h h' st k=>by
  obtain⟨⟨old,he⟩,o,ho,r⟩:=st
  exact⟨⟨old,k e (by simp) _ he⟩,o,k it (by simp) _ ho,r⟩
 item:=by
  intro X hP hw hK hc i pins s σ H E I hf st hg
  subst hP hw hK
  obtain⟨⟨old,he⟩,hit⟩:=st
  obtain⟨hd,hi⟩:=hg
  obtain⟨vs,rel,hat⟩:=jL I hd ho
  have hlen:kvs.length=vs.length:=Qw rel
  have hit0:s.heap.IsKeyIter it d i vs.length ep:=by rw[<-hlen];exact hit
  obtain⟨f0,f1,f2,f3,f4,f5⟩:=hf e (by simp)
  obtain⟨g0,g1,g2,g3,g4,g5⟩:=hf it (by simp)
  have fT:H s.heap.objs.size=none:=I.fresh
  refine wpAny_pyNext_enum_itemD (w6 (knd:=aX X.prog X.w) (A:=X.A.in1) (I.ok.hd hc) it d hdi vs ep) he ⟨hit0,hat⟩ (by omega) hne (by simp[hne,Qy hde]) fun u h' tk hP heo hit' ht hsz hk=>⟨_,rfl,?_⟩
  obtain⟨k,y,hxy,hkey⟩:=hP
  obtain⟨p,hp1,hp2,_⟩:=nj rel i _ hxy
  have ru:RelV (kV p.1) u:=by rw[hp2];exact wB hkey
  refine wpAny_letOwnedTupleGo_enum heo fun h2 he2 hs2=>?_
  have hs2:RT e h' h2:=hs2
  have heT:e≠s.heap.objs.size:=Qt (Qk he)
  have oldK:∀b o,b≠e->b≠it->s.heap.get? b=some o->h2.get? b=some o:=fun b o h1 h2' q=>hs2.extBut b o h1 (hk b o h1 h2' q)
  have hT2:h2.get? s.heap.objs.size=some {cls:=.type "tuple",data:=.seq #[.int i tk,u]}:=hs2.extBut _ _ (Qy heT) ht
  have neT:∀b o,s.heap.get? b=some o->b≠s.heap.objs.size:=fun b o q=>Qt (Qk q)
  have nH:∀b w',H b=some w'->b≠e/\b≠it:=fun b w' q=>⟨fun z=>(by rw[z,f0]at q;cases q),fun z=>(by rw[z,g0]at q;cases q)⟩
  have I2:Inv X pins σ (upd H s.heap.objs.size (.tup [.int i,kV p.1])) {s with heap:=h2,toks:=tk+1}:=by
   refine I.step (g':=s.gens) (d':=s.drawn) (t':=tk+1) (ch:=[e,it]) (fun b hb=>?_) (fun b o _ _ hb q _=>?_) (fun b o _ _ hb q _=>?_) (fun b o _ q n=>?_) (fun b o hb q=>?_)
    (fun b ys q=>?_) (fun b o w' q=>?_) (fun b ps q=>?_) (fun m hm=>?_) (fun b w' q=>?_) I.bare
   ·rcases Qa.mp hb with z|hb
    ·subst z;exact⟨f3,f1,f4,f5⟩
    ·have z:b=it:=by simpa using hb
     subst z;exact⟨g3,g1,g4,g5⟩
   ·exact oldK b o (fun z=>hb (by simp[z])) (fun z=>hb (by simp[z])) q
   ·exact⟨o.slots,oldK b o (fun z=>hb (by simp[z])) (fun z=>hb (by simp[z])) q⟩
   ·rw[ak (neT b o q)];exact n
   ·exact⟨o,oldK b o (fun z=>hb (by simp[z])) (fun z=>hb (by simp[z])) q⟩
   ·rw[ak (bc q fT)];exact q
   ·rw[ak (bc q fT)];exact q
   ·exact⟨#[],by rw[ak (bc q fT),q];simp⟩
   ·obtain⟨o,es,ep,ho,r⟩:=hm
    exact⟨o,es,ep,oldK _ o (Qy f1) (Qy g1) ho,r⟩
   ·by_cases hb:b=s.heap.objs.size
    ·subst hb
     rw[ax]at q
     cases q
     exact⟨by show 2<=PZ;decide,[.int i tk,u],.cons ⟨_,rfl⟩ (.cons ru .nil),_,hT2,rfl,_,rfl⟩
    ·rw[ak hb]at q
     refine(I.hok b w' q).stay (fun c v hc q'=>oldK c v ?_ ?_ q') (fun c q'=>?_) fun c ys q'=>?_
     ·rcases hc with z|z
      ·rw[z];exact(nH b w' q).1
      ·exact(nH c _ z).1
     ·rcases hc with z|z
      ·rw[z];exact(nH b w' q).2
      ·exact(nH c _ z).2
     ·rw[ak (bc q' fT)];exact q'
     ·rw[ak (bc q' fT)];exact q'
  refine⟨.ref s.heap.objs.size,_,I2,rfl,⟨s.heap.objs.size,p,rfl,fT,hp1,rfl⟩,⟨⟨u,?_⟩,?_⟩,fun b hb=>?_⟩
  ·have e1:((i+1:Nat):Int)=(i:Int)+1:=by omega
   rw[e1];exact he2
  ·rw[hlen]
   exact hit'.1.at fun o e=>hs2.extBut _ _ (Qy hne) e
  ·have:b≠s.heap.objs.size:=by
    rcases Qa.mp hb with z|hb
    ·rw[z];exact heT
    ·have z:b=it:=by simpa using hb
     rw[z]
     obtain⟨o,ho,_⟩:=hit
     exact neT it o ho
   rw[ak this]
   exact(hf b hb).1
 done:=by
  intro X hP hw hK hc i pins s σ H E I hf st hg
  subst hP hw hK
  obtain⟨⟨old,he⟩,hit⟩:=st
  obtain⟨hd,hi⟩:=hg
  obtain⟨vs,rel,hat⟩:=jL I hd ho
  have hlen:kvs.length=vs.length:=Qw rel
  obtain⟨g0,g1,g2,g3,g4,g5⟩:=hf it (by simp)
  have hit0:s.heap.IsKeyIter it d i vs.length ep:=by rw[<-hlen];exact hit
  have en:i=vs.length:=by omega
  subst en
  exact wpAny_pyNext_enum_endD (w6 (knd:=aX X.prog X.w) (A:=X.A.in1) (I.ok.hd hc) it d hdi vs ep) he ⟨hit0,hat⟩ fun h' eb=>⟨rfl,I.turned (t':=s.toks) (fun b o hb e'=>eb b o hb e') g0 g1 g3 g4 g5⟩
 self:=fun A i s Q E st h=>by
  obtain⟨⟨old,he⟩,_⟩:=st
  exact Uz he h
section
variable {X:Cx}
noncomputable def D5(td:TE):TI:=fun σ H R=>td σ H fun x H1=>∃(d:PK)(kvs:List (Key×V)),x=.ref d/\H1 d=some (.dK kvs)/\∀(o:PV),R (LB d o kvs) (upd H1 d (.frz o (.dK kvs)))
theorem Jf{l:PY}{tl:TE}{elts:List PY}{x1}{p pos pt:Qi}(hg:Gl X "enumerate")(hm:X.mg "enumerate"=none)(hl:PE X l tl)(hs:Qf [l] X.env=[(false,eval l X.env)]:=by rfl):
  PI X (.Tuple elts x1 pt) (.Call (.Name "enumerate" p) [l] [] pos) (D5 tl):=by
 intro pins s σ H R I h
 refine Call_ (jH I hg hm boot_enumerate (Sq (cI (aa hl ag hs pos pins s σ H (fun vs H1=>∃x,vs=[x]/\∃(d:PK)(kvs:List (Key×V)),x=.ref d/\H1 d=some (.dK kvs)/\∀(o:PV),R (LB d o kvs) (upd H1 d (.frz o (.dK kvs)))) I ?_) fun us s1 ⟨vs,H1,I1,r1,q1⟩=>?_) hs rfl))
 ·have e:(fun (x:V) (H1:Hp)=>∃y,[x]=[y]/\∃(d:PK)(kvs:List (Key×V)),y=V.ref d/\H1 d=some (HO.dK kvs)/\∀(o:PV),R (LB d o kvs) (upd H1 d (.frz o (.dK kvs))))=fun x H1=>∃(d:PK)(kvs:List (Key×V)),x=.ref d/\H1 d=some (.dK kvs)/\∀(o:PV),R (LB d o kvs) (upd H1 d (.frz o (.dK kvs))):=by
   funext x H1
   simp
  show tl σ H (fun (x:V) (H1:Hp)=>∃y,[x]=[y]/\∃(d:PK)(kvs:List (Key×V)),y=V.ref d/\H1 d=some (HO.dK kvs)/\∀(o:PV),R (LB d o kvs) (upd H1 d (.frz o (.dK kvs))))
  rw[e]
  exact h
 ·obtain⟨x,rfl,d,kvs,rfl,hd,q⟩:=q1
  obtain⟨u,rfl,ru⟩:=vals1 r1
  cases ru
  obtain⟨z,hdS,vs,rel,dd⟩:=gA I1.hok (.inl hd)
  have hlen:kvs.length=vs.length:=Qw rel
  obtain⟨o,es,ep,ho,hex,hdat,r⟩:=id dd
  have IF:=I1.freeze hd ho
  have hat:s1.heap.DictAt (aX X.prog X.w) d vs ep:=⟨o,es,ho,hex,hdat,r⟩
  have hdlt:d<s1.heap.objs.size:=I1.hok.lt hd
  refine callType_newIn Zi (by decide) (aau _) (ZT _) (fun obj=>ZO obj _) ZC (x6 (knd:=aX X.prog X.w) d hdS vs ep) ⟨hat,?_⟩
  have hz1:(s1.heap.push (oI d vs.length ep)).objs.size=s1.heap.objs.size+1:=Rx ..
  show _/\_
  rw[hz1]
  have he:IsEnum ((s1.heap.push (oI d vs.length ep)).push (AA s1.heap.objs.size)) (s1.heap.objs.size+1) s1.heap.objs.size 0 .none:=by
   have:=Qz (s1.heap.push (oI d vs.length ep)) (o:=AA s1.heap.objs.size) rfl
   rw[hz1]at this;exact this
  refine⟨⟨_,he,rfl⟩,Uz he ?_⟩
  have hk:∀b u,s1.heap.get? b=some u->((s1.heap.push (oI d vs.length ep)).push (AA s1.heap.objs.size)).get? b=some u:=fun b u e=>Qr _ (Qr _ e)
  refine⟨s1.heap.objs.size+1,[s1.heap.objs.size+1,s1.heap.objs.size],_,LB d o kvs,_,rfl,IF.kept (t':=s1.toks) hk,EA d _ _ o es ep hdat kvs (Xs _) (Qt hdlt) (Qt (UD hdlt)),⟨⟨.none,he⟩,⟨_,Qr _ (Qz _ rfl),rfl,by rw[hlen];rfl⟩⟩,fun b hb=>?_,q o⟩
  have hb':s1.heap.objs.size<=b:=by
   rcases Qa.mp hb with z|hb
   ·rw[z];exact Rz _
   ·have z:b=s1.heap.objs.size:=by simpa using hb
    rw[z];exact Qe _
  exact IF.fpOk hb' (IF.hok.fresh hb')
end
theorem Ka{K:PM}{d:PK}{o:PV}{kvs:List (Key×V)}(p r:Nat)(u:Nat->V)(hu:∀i q,kvs[i]?=some q->kV q.1=u i):
  Ys (LB d o kvs) (gf K 2 (bz (au p) (bz (au r) fW))) (fun H=>H d=some (.frz o (.dK kvs))) kvs.length (fun i σ=>(σ.set p (some (.int i))).set r (some (u i))) where
 go:=fun i H hi h=>⟨h,hi⟩
 stop:=fun H h=>⟨h,rfl⟩
 yld:=fun i H x H' σ Q hi h y q=>by
  obtain⟨T,w,rfl,hT,hw,rfl⟩:=y
  exists T,_,rfl,kN.of ax,rfl,_,_,rfl,_,_,rfl,rfl
  have:=q _ (av.updN hT (o:=.tup [.int i,kV w.1]))
  rw[<-hu i w hw]at this
  exact this
section
variable {prog:Qc}{w:P8}{κ:Type} [DecidableEq κ] {knd:KeyKind prog w κ}{A:Qg}{E:PL->PN->Prop}{s:PN}
variable {z TI TO i1 i2 d l:PK}{n ep:Nat}{kvs:List (κ×PL)}{ys:Array PL}{a b:PL}
noncomputable abbrev d5(s:PN)(z TO i1 i2:PK)(h':P0):Prop:=∀c o,c≠z->c≠TO->c≠i1->c≠i2->s.heap.get? c=some o->h'.get? c=some o
theorem GK{k:κ}{v y:PL}{Q:PL->PN->Prop}(D:RE z TI TO i1 i2 d l)(hz:Ra s.heap z TI TO .none)(hTI:QG s.heap TI (.ref i1) (.ref i2))(hTO:QG s.heap TO a b)
  (h1:s.heap.IsKeyIter i1 d n kvs.length ep) (hd:s.heap.DictAt knd d kvs ep) (h2:s.heap.IsListIter i2 l n) (hl:s.heap.IsList l ys) (hx:kvs[n]?=some (k,v)) (hy:ys[n]?=some y)
  (q:∀x h',knd.is k x=true->Ra h' z TI TO (QQ s.heap.objs.size)->QG h' TO x y->h'.IsKeyIter i1 d (n+1) kvs.length ep->h'.IsListIter i2 l (n+1)->QG h' s.heap.objs.size x y->h'.objs.size=s.heap.objs.size+1->d5 s z TO i1 i2 h'->Q (.ref s.heap.objs.size) {s with heap:=h'}):
  PQ (model prog w) A (RG.«zip.__next__» ⟨[.ref z],[]⟩) (fun fin s'=>∃v,fin=.done (.ret v)/\Q v s') E s:=by
 show PQ _ _ (field (.ref z) 2 >>= _) _ _ _
 refine PR (Q1 hz rfl (x:=.bool false) rfl (PR (Q1 hz rfl (x:=.ref TI) rfl (PR (R8 hTI rfl (PR ?_))))))
 unfold UH
 refine PR (Q1 hz rfl (x:=.none) rfl (Qh ?_))
 simp only[if_true]
 refine PR (wpAny_rule (PR (Q1 hz rfl (x:=.ref TO) rfl (PR (Tp hz (by simp) fun m1 z1 e1=>PR ?_)))))
 have z1:Ra m1 z TI TO .ellipsis:=z1
 simp only[YE,XH,TX,TJ]
 refine PR (PR (wpAny_onRaise ?_))
 show PQ _ _ (R5 (.ref i1) >>= _) _ _ _
 refine PR (kq (knd:=knd) (h1.at fun o e=>e1.extBut _ _ D.i1z e) (hd.extBut e1.extBut D.l1z) hx fun x m2 hkey g1 e2=>Qh ?_)
 have t2:QG m2 TO a b:=e2.extBut _ _ D.TOi1 (e1.extBut _ _ D.TOz hTO)
 refine PR (R8 t2 rfl (PR (wpAny_updateSeq_pair t2 fun m3 t3 e3=>PR (wpAny_letGo (Qh (PR (PR (wpAny_onRaise ?_))))))))
 have t3:QG m3 TO x b:=t3
 show PQ _ _ (R5 (.ref i2) >>= _) _ _ _
 refine PR (Xe (h2.at fun o e=>e3.extBut _ _ D.TOi2.symm (e2.extBut _ _ D.i12.symm (e1.extBut _ _ D.i2z e))) (hl.at fun o e=>e3.extBut _ _ D.l2TO (e2.extBut _ _ D.l2i1 (e1.extBut _ _ D.l2z e))) hy fun m4 g2 e4=>Qh ?_)
 have t4:QG m4 TO x b:=e4.extBut _ _ D.TOi2 t3
 refine PR (R8 t4 rfl (PR (wpAny_updateSeq_pair t4 fun m5 t5 e5=>PR (wpAny_letGo (Qh (Qh ?_))))))
 have t5:QG m5 TO x y:=t5
 refine PR (R8 t5 rfl (PR (wpAny_newTuple ?_)))
 have sz:m5.objs.size=s.heap.objs.size:=by rw[e5.1,e4.1,e3.1,e2.1,e1.1]
 have z5:Ra m5 z TI TO .ellipsis:=e5.extBut _ _ D.TOz.symm (e4.extBut _ _ D.i2z.symm (e3.extBut _ _ D.TOz.symm (e2.extBut _ _ D.i1z.symm z1)))
 have old:∀c o,c≠z->c≠TO->c≠i1->c≠i2->s.heap.get? c=some o->m5.get? c=some o:=fun c o c1 c2 c3 c4 e=>e5.extBut _ _ c2 (e4.extBut _ _ c4 (e3.extBut _ _ c2 (e2.extBut _ _ c3 (e1.extBut _ _ c1 e))))
 have g1':m5.IsKeyIter i1 d (n+1) kvs.length ep:=g1.at fun o e=>e5.extBut _ _ D.TOi1.symm (e4.extBut _ _ D.i12 (e3.extBut _ _ D.TOi1.symm e))
 have g2':m5.IsListIter i2 l (n+1):=g2.at fun o e=>e5.extBut _ _ D.TOi2.symm e
 have zlt:z<m5.objs.size:=Qk z5
 show PQ _ _ (Wt (.ref z) (.ref m5.objs.size) >>= _) _ _ _
 refine PR ?_
 unfold Wt
 have z6:Ra (m5.push {cls:=.type "tuple",data:=.seq #[x,y]}) z TI TO .ellipsis:=Qr _ z5
 refine PR (Tp z6 (by simp) fun m7 z7 e7=>?_)
 have z7:Ra m7 z TI TO (QQ m5.objs.size):=z7
 refine Tp z7 (by simp) fun m8 z8 e8=>?_
 have z8:Ra m8 z TI TO (QQ m5.objs.size):=z8
 have lift:∀c o,c≠z->m5.get? c=some o->m8.get? c=some o:=fun c o c1 e=>e8.extBut _ _ c1 (e7.extBut _ _ c1 (Qr _ e))
 have t8:QG m8 m5.objs.size x y:=e8.extBut _ _ (Ro zlt) (e7.extBut _ _ (Ro zlt) (Qz _ rfl))
 have s8:m8.objs.size=m5.objs.size+1:=by rw[e8.1,e7.1,Rx]
 rw[sz]at z8 t8 s8
 refine Qh ⟨_,rfl,?_⟩
 show Q (.ref m5.objs.size) _
 rw[sz]
 exact q x m8 hkey z8 (lift _ _ D.TOz t5) (g1'.at fun o e=>lift _ o D.i1z e) (g2'.at fun o e=>lift _ o D.i2z e) t8 s8 fun c o c1 c2 c3 c4 e=>lift c o c1 (old c o c1 c2 c3 c4 e)
theorem IE{Q:Fin->PN->Prop}(hA:A.handled=none)(D:RE z TI TO i1 i2 d l)(hz:Ra s.heap z TI TO .none)(hTI:QG s.heap TI (.ref i1) (.ref i2))
  (h1:s.heap.IsKeyIter i1 d n kvs.length ep) (hd:s.heap.DictAt knd d kvs ep) (hx:kvs[n]?=none)
  (q:∀h' e,d5 s z TO i1 i2 h'->(∃o,h'.get? e=some o/\o.cls=.type "StopIteration")->E (.ref e) {s with heap:=h'}):PQ (model prog w) A (RG.«zip.__next__» ⟨[.ref z],[]⟩) Q E s:=by
 show PQ _ _ (field (.ref z) 2 >>= _) _ _ _
 refine PR (Q1 hz rfl (x:=.bool false) rfl (PR (Q1 hz rfl (x:=.ref TI) rfl (PR (R8 hTI rfl (PR ?_))))))
 unfold UH
 refine PR (Q1 hz rfl (x:=.none) rfl (Qh ?_))
 simp only[if_true]
 refine PR (wpAny_rule (PR (Q1 hz rfl (x:=.ref TO) rfl (PR (Tp hz (by simp) fun m1 z1 e1=>PR ?_)))))
 have z1:Ra m1 z TI TO .ellipsis:=z1
 simp only[YE,XH,TX,TJ]
 refine PR (PR (wpAny_onRaise ?_))
 show PQ _ _ (R5 (.ref i1) >>= _) _ _ _
 refine PR (nK (knd:=knd) hA (h1.at fun o e=>e1.extBut _ _ D.i1z e) (hd.extBut e1.extBut D.l1z) hx fun m2 e e2 ⟨oe,he,hc⟩=>?_)
 have z2:Ra m2 z TI TO .ellipsis:=e2 _ _ D.i1z.symm z1
 have ez:e≠z:=fun x=>by subst x;rw[z2]at he;cases he;simp at hc
 exact Tp z2 (by simp) fun m3 _ e3=>q m3 e (fun c o c1 _ c3 _ x=>e3.extBut _ _ c1 (e2 _ _ c3 (e1.extBut _ _ c1 x))) ⟨oe,e3.extBut _ _ ez he,hc⟩
theorem oK{k:κ}{v y:PL}{Q:Option PL->PN->Prop}(D:RE z TI TO i1 i2 d l)(hz:Ra s.heap z TI TO .none)(hTI:QG s.heap TI (.ref i1) (.ref i2))(hTO:QG s.heap TO a b)
  (h1:s.heap.IsKeyIter i1 d n kvs.length ep) (hd:s.heap.DictAt knd d kvs ep) (h2:s.heap.IsListIter i2 l n) (hl:s.heap.IsList l ys) (hx:kvs[n]?=some (k,v)) (hy:ys[n]?=some y)
  (q:∀x h',knd.is k x=true->Ra h' z TI TO (QQ s.heap.objs.size)->QG h' TO x y->h'.IsKeyIter i1 d (n+1) kvs.length ep->h'.IsListIter i2 l (n+1)->QG h' s.heap.objs.size x y->h'.objs.size=s.heap.objs.size+1->d5 s z TO i1 i2 h'->Q (some (.ref s.heap.objs.size)) {s with heap:=h'}):
  PQ (model prog w) A (Rc (.ref z)) Q E s:=by
 have hT:s.TypeIs (.ref z) "zip":=⟨_,hz,rfl⟩
 unfold Rc
 exact PR (UW (Ul (name:=Ui "__next__") hT Sr (Td Sr hT U3 (GK D hz hTI hTO h1 hd h2 hl hx hy fun x h' a0 a1 a2 a3 a4 a5 a6 a7=>Qh (q x h' a0 a1 a2 a3 a4 a5 a6 a7)) (U1 _))))
theorem qi{Q:Option PL->PN->Prop}(hA:A.handled=none)(D:RE z TI TO i1 i2 d l)(hz:Ra s.heap z TI TO .none)(hTI:QG s.heap TI (.ref i1) (.ref i2))
  (h1:s.heap.IsKeyIter i1 d n kvs.length ep) (hd:s.heap.DictAt knd d kvs ep) (hx:kvs[n]?=none) (q:∀h',d5 s z TO i1 i2 h'->Q none {s with heap:=h'}):PQ (model prog w) A (Rc (.ref z)) Q E s:=by
 have hT:s.TypeIs (.ref z) "zip":=⟨_,hz,rfl⟩
 unfold Rc
 refine PR (UW (Ul (name:=Ui "__next__") hT Sr (Td Sr hT U3 (IE (knd:=knd) (by first|exact hA|exact(show A.in1.handled=none from hA)) D hz hTI h1 hd hx fun h' e hk ⟨o,ho,hc⟩=>?_) (U1 _))))
 exact PR (wpAny_isInstance (T:="StopIteration") (b:=true) ⟨o,ho,hc⟩ isSubtype_stop (Qh (q _ hk)))
end
noncomputable def OR(K:PM)(d l:PK)(o:PV)(kvs:List (Key×V)):It:=
 ⟨fun i H=>H d=some (.frz o (.dK kvs))/\∃ys y p,aY K H l ys/\ys[i]?=some y/\kvs[i]?=some p,
  fun i H x H'=>∃T p v,x=.ref T/\H T=none/\H'=upd H T (.tup [kV p.1,v])/\kvs[i]?=some p/\∀ys,aY K H l ys->ys[i]?=some v,
  fun i H=>H d=some (.frz o (.dK kvs))/\kvs.length=i⟩
theorem G5{P:Qc}{w:P8}{K:PM}{elts:List PY}{x1}{pos:Qi}(d l z TI TO i1 i2:PK)(o:PV)(es:Array RM)(ep:Nat)(ho:o.data=.dict es ep)(kvs:List (Key×V))(D:RE z TI TO i1 i2 d l):
  Turn P w K (.Tuple elts x1 pos) (OR K d l o kvs) [z,TO,i1,i2,TI] z (fun i h=>Ra h z TI TO .none/\QG h TI (.ref i1) (.ref i2)/\(∃u v,QG h TO u v)/\h.IsKeyIter i1 d i kvs.length ep/\h.IsListIter i2 l i) where
 mem:=by simp
 obj:=fun i h st c hb=>by
  obtain⟨hz,hTI,⟨u,v,hTO⟩,⟨o1,ho1,hc1,hd1⟩,o2,ho2,hc2,hd2⟩:=st
  have hb':c=z\/c=TO\/c=i1\/c=i2\/c=TI:=by simpa using hb
  rcases hb' with rfl|rfl|rfl|rfl|rfl
  ·exact⟨_,hz,fun v q=>by have q':TH _=SJ v:=q;cases q'⟩
  ·exact⟨_,hTO,fun v q=>by have q':V6 _ _=SJ v:=q;cases q'⟩
  ·exact⟨o1,ho1,fun v q=>by rw[hd1]at q;cases q⟩
  ·exact⟨o2,ho2,fun v q=>by rw[hd2]at q;cases q⟩
  ·exact⟨_,hTI,fun v q=>by have q':V6 _ _=SJ v:=q;cases q'⟩
 keep:=fun i h h' st k=>by
  obtain⟨hz,hTI,⟨u,v,hTO⟩,⟨o1,ho1,r1⟩,o2,ho2,r2⟩:=st
  exact⟨k z (by simp) _ hz,k TI (by simp) _ hTI,⟨u,v,k TO (by simp) _ hTO⟩,⟨o1,k i1 (by simp) _ ho1,r1⟩,o2,k i2 (by simp) _ ho2,r2⟩
 item:=by
  intro X hP hw hK hc i pins s σ H E I hf st hg
  subst hP hw hK
  obtain⟨hz,hTI,⟨u0,v0,hTO⟩,hi1,hi2⟩:=st
  obtain⟨hd,ys,y,p,hS2,hy,hp⟩:=hg
  obtain⟨vs,rel,hat⟩:=jL I hd ho
  have hlen:kvs.length=vs.length:=Qw rel
  have hi10:s.heap.IsKeyIter i1 d i vs.length ep:=by rw[<-hlen];exact hi1
  obtain⟨its2,rv2,pl2,hz2⟩:=I.list hS2
  obtain⟨v,hv,rv⟩:=rv2.get hy
  have hik:i<vs.length:=by rw[<-hlen];exact(QN.mp hp).1
  have hvi:vs[i]?=some ((vs[i]).1,(vs[i]).2):=Qj hik
  obtain⟨p',hp1,hp2,_⟩:=nj rel i _ hvi
  rw[hp]at hp1
  cases hp1
  have fT:H s.heap.objs.size=none:=I.fresh
  refine oK (knd:=aX X.prog X.w) D hz hTI hTO hi10 hat hi2 pl2.isList (y:=v) hvi (by simpa using hv) fun u h' hkey kz kTO k1 k2 hT hsz hk=>⟨_,rfl,?_⟩
  have ru:RelV (kV p.1) u:=by rw[hp2];exact wB hkey
  refine wpAny_letOwnedTupleGo_zip kz fun h2 kz2 hs2=>?_
  have hs2:RT z h' h2:=hs2
  have zT:z≠s.heap.objs.size:=Qt (Qk hz)
  have oldK:∀c o,c∉[z,TO,i1,i2,TI]->s.heap.get? c=some o->h2.get? c=some o:=fun c o hc q=>by
   have hc':¬(c=z\/c=TO\/c=i1\/c=i2\/c=TI):=by simpa using hc
   exact hs2.extBut c o (fun e=>hc' (.inl e)) (hk c o (fun e=>hc' (.inl e)) (fun e=>hc' (.inr (.inl e))) (fun e=>hc' (.inr (.inr (.inl e)))) (fun e=>hc' (.inr (.inr (.inr (.inl e))))) q)
  have hT2:h2.get? s.heap.objs.size=some {cls:=.type "tuple",data:=.seq #[u,v]}:=hs2.extBut _ _ (Qy zT) hT
  have neT:∀b o,s.heap.get? b=some o->b≠s.heap.objs.size:=fun b o q=>Qt (Qk q)
  have nH:∀b w',H b=some w'->b∉[z,TO,i1,i2,TI]:=fun b w' q hb=>by rw[(hf b hb).1]at q;cases q
  have I2:Inv X pins σ (upd H s.heap.objs.size (.tup [kV p.1,y])) {s with heap:=h2}:=by
   refine I.step (g':=s.gens) (d':=s.drawn) (t':=s.toks) (ch:=[z,TO,i1,i2,TI]) (fun b hb=>?_) (fun b o _ _ hb q _=>oldK b o hb q) (fun b o _ _ hb q _=>⟨o.slots,oldK b o hb q⟩) (fun b o _ q n=>?_) (fun b o hb q=>⟨o,oldK b o hb q⟩)
    (fun b ys' q=>?_) (fun b o w' q=>?_) (fun b ps q=>?_) (fun m hm=>?_) (fun b w' q=>?_) I.bare
   ·obtain⟨_,f1,_,f3,f4,f5⟩:=hf b hb
    exact⟨f3,f1,f4,f5⟩
   ·rw[ak (neT b o q)];exact n
   ·rw[ak (bc q fT)];exact q
   ·rw[ak (bc q fT)];exact q
   ·exact⟨#[],by rw[ak (bc q fT),q];simp⟩
   ·obtain⟨o,es,ep,ho,r⟩:=hm
    exact⟨o,es,ep,oldK _ o (fun q=>(hf _ q).2.1 rfl) ho,r⟩
   ·by_cases hb:b=s.heap.objs.size
    ·subst hb
     rw[ax]at q
     cases q
     exact⟨by show 2<=PZ;decide,[u,v],.cons ru (.cons rv .nil),_,hT2,rfl,_,rfl⟩
    ·rw[ak hb]at q
     refine(I.hok b w' q).stay (fun c v' hc q'=>oldK c v' ?_ q') (fun c q'=>?_) fun c ys' q'=>?_
     ·rcases hc with e|e
      ·rw[e];exact nH b w' q
      ·exact nH c _ e
     ·rw[ak (bc q' fT)];exact q'
     ·rw[ak (bc q' fT)];exact q'
  refine⟨.ref s.heap.objs.size,_,I2,rfl,⟨s.heap.objs.size,p,y,rfl,fT,rfl,hp,fun ys' hys=>?_⟩,⟨kz2,?_,⟨u,v,?_⟩,?_,?_⟩,fun b hb=>?_⟩
  ·rw[I.list_inj hys hS2];exact hy
  ·exact hs2.extBut _ _ D.TIz (hk _ _ D.TIz D.TITO D.TIi1 D.TIi2 hTI)
  ·exact hs2.extBut _ _ D.TOz kTO
  ·rw[hlen];exact k1.at fun o e=>hs2.extBut _ _ D.i1z e
  ·exact k2.extBut hs2.extBut D.i2z
  ·have:b≠s.heap.objs.size:=by
    have hb':b=z\/b=TO\/b=i1\/b=i2\/b=TI:=by simpa using hb
    obtain⟨o1,ho1,_⟩:=hi1
    obtain⟨o2,ho2,_⟩:=hi2
    rcases hb' with rfl|rfl|rfl|rfl|rfl
    ·exact zT
    ·exact neT _ _ hTO
    ·exact neT _ _ ho1
    ·exact neT _ _ ho2
    ·exact neT _ _ hTI
   rw[ak this]
   exact(hf b hb).1
 done:=by
  intro X hP hw hK hc i pins s σ H E I hf st hg
  subst hP hw hK
  obtain⟨hz,hTI,⟨u0,v0,hTO⟩,hi1,hi2⟩:=st
  obtain⟨hd,hi⟩:=hg
  obtain⟨vs,rel,hat⟩:=jL I hd ho
  have hlen:kvs.length=vs.length:=Qw rel
  have hi10:s.heap.IsKeyIter i1 d i vs.length ep:=by rw[<-hlen];exact hi1
  refine qi (knd:=aX X.prog X.w) (I.ok.hd hc) D hz hTI hi10 hat (Sz (by omega)) fun h' hk=>⟨rfl,I.turnedL (t':=s.toks) (ch:=[z,TO,i1,i2,TI]) hf fun c o hc q=>?_⟩
  have hc':¬(c=z\/c=TO\/c=i1\/c=i2\/c=TI):=by simpa using hc
  exact hk c o (fun e=>hc' (.inl e)) (fun e=>hc' (.inr (.inl e))) (fun e=>hc' (.inr (.inr (.inl e)))) (fun e=>hc' (.inr (.inr (.inr (.inl e))))) q
 self:=fun A i s Q E st h=>VC st.1 h
noncomputable def Ke(l:PK):PV:={cls:=.type "list_iterator",data:=.fields #[.ref l,.int 0 0]}
noncomputable def NA(h:P0)(d n ep:Nat):P0:=h.push (oI d n ep)
noncomputable def Mb(h:P0)(d n ep l:Nat):P0:=(NA h d n ep).push (Ke l)
noncomputable def Mc(h:P0)(d n ep l:Nat):P0:=(Mb h d n ep l).push {cls:=.type "tuple",data:=.seq #[.ref h.objs.size,.ref (NA h d n ep).objs.size]}
noncomputable def Nl(h:P0)(d n ep l:Nat):P0:=(Mc h d n ep l).push {cls:=.type "tuple",data:=.seq #[.none,.none]}
noncomputable def Pm(h:P0)(d n ep l:Nat):P0:=(Nl h d n ep l).push {cls:=.type "zip",data:=.fields #[.none,.bool false,.bool false,.ref (Mb h d n ep l).objs.size,.ref (Mc h d n ep l).objs.size]}
section
variable {prog:Qc}{w:P8}{κ:Type} [DecidableEq κ] {knd:KeyKind prog w κ}{A:Qg}{E:PL->PN->Prop}{s:PN}
theorem JN(d l:PK)(lo:(d==RD)=false)(kvs:List (κ×PL))(ep:Nat)(ys:Array PL):
  MeetsIn prog w (RG.«zip.__new__» ⟨[.type "zip",.ref d,.ref l],[]⟩) (fun _ R s=>s.heap.DictAt knd d kvs ep/\s.heap.IsList l ys/\R (.ok (.ret (.ref (Nl s.heap d kvs.length ep l).objs.size))) {s with heap:=Pm s.heap d kvs.length ep l}):=by
 refine W6 fun A R s h=>?_
 obtain⟨hp,g,dr,tk,os⟩:=s
 obtain⟨hm,hl,h⟩:=h
 have hsub:=sub_zip
 have hL:Heap.IsList (Shared.heap ⟨hp.push (oI d kvs.length ep),g,dr,tk,os⟩) l ys:=Y2 hl _
 unfold oI at hL
 wp_walk using(TV (knd:=knd) lo hm),(UR hL)
 exact⟨_,rfl,h⟩
theorem zm{d l:PK}(lo:(d==RD)=false){kvs:List (κ×PL)}{ep:Nat}{ys:Array PL}{Q:PL->PN->Prop}(hm:s.heap.DictAt knd d kvs ep)(hl:s.heap.IsList l ys)
  (q:∀h',Ra h' (s.heap.objs.size+4) (s.heap.objs.size+2) (s.heap.objs.size+3) .none->QG h' (s.heap.objs.size+2) (.ref s.heap.objs.size) (.ref (s.heap.objs.size+1))->QG h' (s.heap.objs.size+3) .none .none->h'.IsKeyIter s.heap.objs.size d 0 kvs.length ep->h'.IsListIter (s.heap.objs.size+1) l 0->
   (∀c o,s.heap.get? c=some o->h'.get? c=some o)->Q (.ref (s.heap.objs.size+4)) {s with heap:=h'}):PQ (model prog w) A (call (.type "zip") [.ref d,.ref l]) Q E s:=by
 refine callType_newIn Zt (by decide) (Y4 _ _) (aal _ _) (fun obj=>aaB obj _ _) aaz (JN (knd:=knd) d l lo kvs ep ys) ⟨hm,hl,?_⟩
 have a1:(NA s.heap d kvs.length ep).objs.size=s.heap.objs.size+1:=Rx ..
 have a2:(Mb s.heap d kvs.length ep l).objs.size=s.heap.objs.size+2:=by unfold Mb;rw[Rx,a1]
 have a3:(Mc s.heap d kvs.length ep l).objs.size=s.heap.objs.size+3:=by unfold Mc;rw[Rx,a2]
 have a4:(Nl s.heap d kvs.length ep l).objs.size=s.heap.objs.size+4:=by unfold Nl;rw[Rx,a3]
 have b1:∀c o,s.heap.get? c=some o->(NA s.heap d kvs.length ep).get? c=some o:=fun c o e=>Qr _ e
 have b2:∀c o,(NA s.heap d kvs.length ep).get? c=some o->(Mb s.heap d kvs.length ep l).get? c=some o:=fun c o e=>Qr _ e
 have b3:∀c o,(Mb s.heap d kvs.length ep l).get? c=some o->(Mc s.heap d kvs.length ep l).get? c=some o:=fun c o e=>Qr _ e
 have b4:∀c o,(Mc s.heap d kvs.length ep l).get? c=some o->(Nl s.heap d kvs.length ep l).get? c=some o:=fun c o e=>Qr _ e
 have b5:∀c o,(Nl s.heap d kvs.length ep l).get? c=some o->(Pm s.heap d kvs.length ep l).get? c=some o:=fun c o e=>Qr _ e
 have g1:=b5 _ _ (b4 _ _ (b3 _ _ (b2 _ _ (Qz s.heap (o:=oI d kvs.length ep) rfl))))
 have g2:=b5 _ _ (b4 _ _ (b3 _ _ (Qz (NA s.heap d kvs.length ep) (o:=Ke l) rfl)))
 have g3:=b5 _ _ (b4 _ _ (Qz (Mb s.heap d kvs.length ep l) (o:={cls:=.type "tuple",data:=.seq #[.ref s.heap.objs.size,.ref (NA s.heap d kvs.length ep).objs.size]}) rfl))
 have g4:=b5 _ _ (Qz (Mc s.heap d kvs.length ep l) (o:={cls:=.type "tuple",data:=.seq #[.none,.none]}) rfl)
 have g5:(Pm s.heap d kvs.length ep l).get? (Nl s.heap d kvs.length ep l).objs.size=some _:=Qz _ rfl
 rw[a1]at g2
 rw[a2,a1]at g3
 rw[a3]at g4
 rw[a4,a2,a3]at g5
 show _/\_
 rw[a4]
 exact⟨⟨_,g5,rfl⟩,q _ g5 g3 g4 ⟨_,g1,rfl,rfl⟩ ⟨_,g2,rfl,rfl⟩ fun c o e=>b5 _ _ (b4 _ _ (b3 _ _ (b2 _ _ (b1 _ _ e))))⟩
end
section
variable {X:Cx}
noncomputable def Ju(K:PM)(ta:TA):TI:=fun σ H R=>ta σ H fun vs H1=>∃(d l:PK)(kvs:List (Key×V)),vs=[.ref d,.ref l]/\H1 d=some (.dK kvs)/\(∃ys,aY K H1 l ys)/\d≠l/\∀(o:PV),R (OR K d l o kvs) (upd H1 d (.frz o (.dK kvs)))
theorem LA{a b:PY}{ta:TA}{elts:List PY}{x1}{p pos pt:Qi}(hg:Gl X "zip")(hm:X.mg "zip"=none)(ha:PA X [a,b] ta)(hs:Qf [a,b] X.env=(false,eval a X.env)::Qf [b] X.env:=by rfl)(hs2:(QF pos (Qf [b] X.env)).any (·.1)=false:=by rfl):
  PI X (.Tuple elts x1 pt) (.Call (.Name "zip" p) [a,b] [] pos) (Ju X.K ta):=by
 intro pins s σ H R I h
 refine Call_ (jH I hg hm boot_zip (Sq (cI (ha pos pins s σ H _ I h) fun us s1 ⟨vs,H1,I1,r1,q1⟩=>?_) hs hs2))
 obtain⟨d,l,kvs,e,hd,⟨ys,hS2⟩,hdl,q⟩:=q1
 subst e
 cases r1 with
 |cons r rr=>
  cases rr with
  |cons r' rr=>
   cases rr
   cases r
   cases r'
   obtain⟨z,hdS,vs,rel,dd⟩:=gA I1.hok (.inl hd)
   have hlen:kvs.length=vs.length:=Qw rel
   obtain⟨o,es,ep,ho,hex,hdat,r⟩:=id dd
   have IF:=I1.freeze hd ho
   have hat:s1.heap.DictAt (aX X.prog X.w) d vs ep:=⟨o,es,ho,hex,hdat,r⟩
   obtain⟨its2,rv2,pl2,hz2⟩:=I1.list hS2
   have lt1:d<s1.heap.objs.size:=I1.hok.lt hd
   have lt2:l<s1.heap.objs.size:=by obtain⟨o,e,_⟩:=pl2.isList;exact Qk e
   refine zm (knd:=aX X.prog X.w) hdS hat pl2.isList fun h' kz kTI kTO k1 k2 hk=>?_
   refine VC kz ?_
   refine⟨s1.heap.objs.size+4,[s1.heap.objs.size+4,s1.heap.objs.size+3,s1.heap.objs.size,s1.heap.objs.size+1,s1.heap.objs.size+2],_,_,_,rfl,IF.kept (t':=s1.toks) hk,G5 d l _ _ _ _ _ o es ep hdat kvs (Yb _ _ _ lt1 lt2),⟨kz,kTI,⟨_,_,kTO⟩,by rw[hlen];exact k1,k2⟩,fun c hc=>?_,q o⟩
   have hc':s1.heap.objs.size<=c:=by
    have hc':c=s1.heap.objs.size+4\/c=s1.heap.objs.size+3\/c=s1.heap.objs.size\/c=s1.heap.objs.size+1\/c=s1.heap.objs.size+2:=by simpa using hc
    rcases hc' with e|e|e|e|e
    ·rw[e];exact Sx _ _
    ·rw[e];exact Sx _ _
    ·rw[e];exact Qe _
    ·rw[e];exact Sx _ _
    ·rw[e];exact Sx _ _
   exact IF.fpOk hc' (IF.hok.fresh hc')
end
theorem KY{K:PM}{d l:PK}{o:PV}{kvs:List (Key×V)}{ys:List V}(p r:Nat)(u:Nat->V)(hu:∀i q,kvs[i]?=some q->kV q.1=u i)(hl:kvs.length<=ys.length):
  Ys (OR K d l o kvs) (gf K 2 (bz (au p) (bz (au r) fW))) (fun H=>H d=some (.frz o (.dK kvs))/\aY K H l ys) kvs.length (fun i σ=>(σ.set p (some (u i))).set r (some (ys.getD i .non))) where
 go:=fun i H hi h=>⟨h.1,ys,ys[i]'(by omega),kvs[i],h.2,Qj (by omega),Qj hi⟩
 stop:=fun H h=>⟨h.1,rfl⟩
 yld:=fun i H x H' σ Q hi h y q=>by
  obtain⟨T,w,v,rfl,hT,rfl,hw,hv⟩:=y
  have e:ys.getD i .non=v:=by simp[Qm,hv ys h.2]
  exists T,_,rfl,kN.of ax,rfl,_,_,rfl,_,_,rfl,rfl
  have:=q _ (av.updN hT (o:=.tup [kV w.1,v]))
  rw[<-hu i w hw,e]at this
  exact this
theorem oG:Ut (.type "zip") "keys"=pure none:=by rw[Vo,builtinLookup_eq_fast];kernel_rfl
theorem sF:Ut (.type "zip") "__getattr__"=pure none:=by rw[Vo,builtinLookup_eq_fast];kernel_rfl
theorem lx:entryFor table "zip.__getattribute__"=some RG.«object.__getattribute__»:=
 entryFor_alias (id':="object.__getattribute__") (by kernel_rfl) (by decide +kernel) (by decide +kernel) (by kernel_rfl)
theorem wK(a:PK)(xs:Array PL)(sl:Array (Option PL))(u:Tok):
  Meets (RG.«object.__getattribute__» ⟨[.ref a,.str "keys" u],[]⟩) (fun A R s=>s.heap.get? a=some {cls:=.type "zip",dict:=none,data:=.fields xs,slots:=sl}/\raisesAttr (.ref a) "keys" A R s):=
 Meets.of_wp fun prog w A R s hs=>by
  obtain⟨hp,g,d,tk,os⟩:=s
  obtain⟨hx,hs⟩:=hs
  have hT:(⟨hp,g,d,tk,os⟩:PN).TypeIs (.ref a) "zip":=⟨_,hx,rfl⟩
  have hmiss:=oG
  have hname:(["__module__","__name__","__qualname__","__doc__","__annotations__"]:List PH).contains "keys"=false:=by decide +kernel
  unfold RG.«object.__getattribute__»
  repeat (any_goals (first|assumption|wp_step))
  exact wpAny_raiseAttrError hs.1 hs.2 (attrMsg_fits (by decide +kernel) (by size_fits))
section
variable {prog:Qc}{w:P8}{A:Qg}{E:PL->PN->Prop}{s:PN}
theorem Ep{a:PK}{o:PV}{xs:Array PL}{Q:Option PL->PN->Prop}(hx:s.heap.get? a=some o)(hc:o.cls=.type "zip")(hdat:o.data=.fields xs)(hd:o.dict=none)(hA:A.handled=none)
  (h:∀h' tk,(∀b o,s.heap.get? b=some o->h'.get? b=some o)->Q none {s with heap:=h',toks:=tk}):PQ (model prog w) A (getAttr? (.ref a) "keys") Q E s:=by
 obtain⟨c,dct,dat,sl⟩:=o
 simp only at hc hdat hd
 subst hc hdat hd
 obtain⟨hp,g,d,tk,os⟩:=s
 have hT:∀tk',(⟨hp,g,d,tk',os⟩:PN).TypeIs (.ref a) "zip":=fun _=>⟨_,hx,rfl⟩
 have f1:=sub_AttributeError
 have f3:=V2.lookup
 have f4:=V2.bind (.ref a)
 have f5:=sF
 have f6:=oG
 unfold getAttr? getAttrBy? getAttrBy
 repeat (any_goals (first|assumption|exact hT _|((with_reducible show PQ _ _ (call (Ta "zip.__getattribute__") _ _) _ _ _);refine RJ V2 (hT _) lx (Y8 _ _) (wK a xs sl _) ⟨hx,hA,fun h' tk' e hx'=>?_⟩)|wp_step))
 obtain⟨t',u',he⟩:=hx'.there
 show PQ _ _ (Vc _ _ _ _ _ _ _) _ _ _
 unfold Vc
 repeat (any_goals (first|assumption|wp_step))
 exact h _ _ hx'.keeps
end
noncomputable abbrev jQ(h:P0)(z TI TO:PK)(f0:PL)(f:Bool):Prop:=h.get? z=some {cls:=.type "zip",data:=.fields #[f0,.bool f,.bool false,.ref TI,.ref TO]}
section
variable {prog:Qc}{w:P8}{κ:Type} [DecidableEq κ] {knd:KeyKind prog w κ}{A:Qg}{E:PL->PN->Prop}{s:PN}
variable {z TI TO i1 i2 d l T:PK}{n ep:Nat}{kvs:List (κ×PL)}{ys:Array PL}{f:Bool}{oT:PV}
theorem yT{Q:Bool->PN->Prop}(hz:jQ s.heap z TI TO (QQ T) f)(hT:s.heap.get? T=some oT)(q:∀h',jQ h' z TI TO (QQ T) true->RT z s.heap h'->Q false {s with heap:=h'}):
  PQ (model prog w) A (UH (.ref z)) Q E s:=by
 unfold UH
 refine PR (Q1 hz rfl (x:=QQ T) rfl ?_)
 show PQ _ _ (loadIfAlive ((T:Int).toNat) >>= _) _ _ _
 rw[VD]
 refine PR (kdx_alive hT ?_)
 simp only[Option.isNone_some,Ss,if_false]
 refine PR (Q1 hz rfl (x:=.bool f) rfl ?_)
 cases f with
 |true=>
  rw[if_neg (show ¬((Sk true != Sk true)=true)from QM)]
  exact Qh (q _ hz (Zl _ _))
 |false=>
  rw[if_pos (show(Sk false != Sk true)=true from rfl)]
  exact PR (Tp hz (by simp) fun h₃ he₃ hs₃=>Qh (q h₃ he₃ hs₃))
theorem Hj{k:κ}{v y:PL}{Q:PL->PN->Prop}(D:RE z TI TO i1 i2 d l)(hz:jQ s.heap z TI TO (QQ T) f)(hT:s.heap.get? T=some oT)(hTI:QG s.heap TI (.ref i1) (.ref i2))
  (h1:s.heap.IsKeyIter i1 d n kvs.length ep) (hd:s.heap.DictAt knd d kvs ep) (h2:s.heap.IsListIter i2 l n) (hl:s.heap.IsList l ys) (hx:kvs[n]?=some (k,v)) (hy:ys[n]?=some y)
  (q:∀x h',knd.is k x=true->jQ h' z TI TO (QQ T) true->h'.IsKeyIter i1 d (n+1) kvs.length ep->h'.IsListIter i2 l (n+1)->QG h' s.heap.objs.size x y->h'.objs.size=s.heap.objs.size+1->d5 s z TO i1 i2 h'->Q (.ref s.heap.objs.size) {s with heap:=h'}):
  PQ (model prog w) A (RG.«zip.__next__» ⟨[.ref z],[]⟩) (fun fin s'=>∃v,fin=.done (.ret v)/\Q v s') E s:=by
 show PQ _ _ (field (.ref z) 2 >>= _) _ _ _
 refine PR (Q1 hz rfl (x:=.bool false) rfl (PR (Q1 hz rfl (x:=.ref TI) rfl (PR (R8 hTI rfl (PR ?_))))))
 refine yT hz hT fun m1 z1 e1=>?_
 simp only[Ss,if_false]
 refine PR ?_
 simp only[<-Wv,TX,TJ]
 refine PR (PR (SO ?_))
 show PQ _ _ (R5 (.ref i1) >>= _) _ _ _
 refine PR (kq (knd:=knd) (h1.at fun o e=>e1.extBut _ _ D.i1z e) (hd.extBut e1.extBut D.l1z) hx fun x m2 hkey g1 e2=>Qh (Qh ?_))
 refine PR (PR (SO ?_))
 show PQ _ _ (R5 (.ref i2) >>= _) _ _ _
 refine PR (Xe (h2.at fun o e=>e2.extBut _ _ D.i12.symm (e1.extBut _ _ D.i2z e)) (hl.at fun o e=>e2.extBut _ _ D.l2i1 (e1.extBut _ _ D.l2z e)) hy fun m3 g2 e3=>Qh (Qh (Qh ?_)))
 show PQ _ _ (newTuple [x,y] >>= _) _ _ _
 refine PR (wpAny_newTuple (Qh ⟨_,rfl,?_⟩))
 have sz:m3.objs.size=s.heap.objs.size:=by rw[e3.1,e2.1,e1.1]
 have old:∀c o,c≠z->c≠i1->c≠i2->s.heap.get? c=some o->m3.get? c=some o:=fun c o c1 c3 c4 e=>e3.extBut _ _ c4 (e2.extBut _ _ c3 (e1.extBut _ _ c1 e))
 have z3:jQ m3 z TI TO (QQ T) true:=e3.extBut _ _ D.i2z.symm (e2.extBut _ _ D.i1z.symm z1)
 have t8:QG (m3.push {cls:=.type "tuple",data:=.seq #[x,y]}) m3.objs.size x y:=Qz _ rfl
 show Q (.ref m3.objs.size) _
 rw[sz]
 rw[sz]at t8
 exact q x (m3.push {cls:=.type "tuple",data:=.seq #[x,y]}) hkey (Qr _ z3) (g1.at fun o e=>Qr _ (e3.extBut _ _ D.i12 e)) (g2.at fun o e=>Qr _ e) t8 (by rw[Rx,sz]) fun c o c1 _ c3 c4 e=>Qr _ (old c o c1 c3 c4 e)
theorem Iv{Q:Fin->PN->Prop}(hA:A.handled=none)(D:RE z TI TO i1 i2 d l)(hz:jQ s.heap z TI TO (QQ T) f)(hT:s.heap.get? T=some oT)(hTI:QG s.heap TI (.ref i1) (.ref i2))
  (h1:s.heap.IsKeyIter i1 d n kvs.length ep) (hd:s.heap.DictAt knd d kvs ep) (hx:kvs[n]?=none)
  (q:∀h' e,d5 s z TO i1 i2 h'->(∃o,h'.get? e=some o/\o.cls=.type "StopIteration")->E (.ref e) {s with heap:=h'}):PQ (model prog w) A (RG.«zip.__next__» ⟨[.ref z],[]⟩) Q E s:=by
 show PQ _ _ (field (.ref z) 2 >>= _) _ _ _
 refine PR (Q1 hz rfl (x:=.bool false) rfl (PR (Q1 hz rfl (x:=.ref TI) rfl (PR (R8 hTI rfl (PR ?_))))))
 refine yT hz hT fun m1 z1 e1=>?_
 simp only[Ss,if_false]
 refine PR ?_
 simp only[<-Wv,TX,TJ]
 refine PR (PR (SO ?_))
 show PQ _ _ (R5 (.ref i1) >>= _) _ _ _
 exact PR (nK (knd:=knd) hA (h1.at fun o e=>e1.extBut _ _ D.i1z e) (hd.extBut e1.extBut D.l1z) hx fun m2 e e2 he=>q m2 e (fun c o c1 _ c3 _ x=>e2 _ _ c3 (e1.extBut _ _ c1 x)) he)
theorem yj{k:κ}{v y:PL}{Q:Option PL->PN->Prop}(D:RE z TI TO i1 i2 d l)(hz:jQ s.heap z TI TO (QQ T) f)(hT:s.heap.get? T=some oT)(hTI:QG s.heap TI (.ref i1) (.ref i2))
  (h1:s.heap.IsKeyIter i1 d n kvs.length ep) (hd:s.heap.DictAt knd d kvs ep) (h2:s.heap.IsListIter i2 l n) (hl:s.heap.IsList l ys) (hx:kvs[n]?=some (k,v)) (hy:ys[n]?=some y)
  (q:∀x h',knd.is k x=true->jQ h' z TI TO (QQ T) true->h'.IsKeyIter i1 d (n+1) kvs.length ep->h'.IsListIter i2 l (n+1)->QG h' s.heap.objs.size x y->h'.objs.size=s.heap.objs.size+1->d5 s z TO i1 i2 h'->Q (some (.ref s.heap.objs.size)) {s with heap:=h'}):
  PQ (model prog w) A (Rc (.ref z)) Q E s:=by
 have hTy:s.TypeIs (.ref z) "zip":=⟨_,hz,rfl⟩
 unfold Rc
 exact PR (UW (Ul (name:=Ui "__next__") hTy Sr (Td Sr hTy U3 (Hj D hz hT hTI h1 hd h2 hl hx hy fun x h' a0 a1 a3 a4 a5 a6 a7=>Qh (q x h' a0 a1 a3 a4 a5 a6 a7)) (U1 _))))
theorem Bl{Q:Option PL->PN->Prop}(hA:A.handled=none)(D:RE z TI TO i1 i2 d l)(hz:jQ s.heap z TI TO (QQ T) f)(hT:s.heap.get? T=some oT)(hTI:QG s.heap TI (.ref i1) (.ref i2))
  (h1:s.heap.IsKeyIter i1 d n kvs.length ep) (hd:s.heap.DictAt knd d kvs ep) (hx:kvs[n]?=none) (q:∀h',d5 s z TO i1 i2 h'->Q none {s with heap:=h'}):PQ (model prog w) A (Rc (.ref z)) Q E s:=by
 have hTy:s.TypeIs (.ref z) "zip":=⟨_,hz,rfl⟩
 unfold Rc
 refine PR (UW (Ul (name:=Ui "__next__") hTy Sr (Td Sr hTy U3 (Iv (knd:=knd) (by first|exact hA|exact(show A.in1.handled=none from hA)) D hz hT hTI h1 hd hx fun h' e hk ⟨o,ho,hc⟩=>?_) (U1 _))))
 exact PR (wpAny_isInstance (T:="StopIteration") (b:=true) ⟨o,ho,hc⟩ isSubtype_stop (Qh (q _ hk)))
noncomputable def wQ(h:P0)(z TI TO i1 i2 d l D:PK)(i n ep:Nat):Prop:=
 ((Ra h z TI TO .none/\∃u v,QG h TO u v)\/∃(T:PK)(oT:PV)(f:Bool),jQ h z TI TO (QQ T) f/\h.get? T=some oT/\T≠z/\T≠TO/\T≠i1/\T≠i2/\T≠D)/\QG h TI (.ref i1) (.ref i2)/\h.IsKeyIter i1 d i n ep/\h.IsListIter i2 l i
theorem wQ.at{h h':P0}{Dn:PK}{i:Nat}(x:wQ h z TI TO i1 i2 d l Dn i n ep)(k:∀b o,b≠Dn->h.get? b=some o->h'.get? b=some o)(a1:z≠Dn)(a2:TI≠Dn)(a3:TO≠Dn)(a4:i1≠Dn)(a5:i2≠Dn):wQ h' z TI TO i1 i2 d l Dn i n ep:=by
 obtain⟨x1,x2,x3,x4⟩:=x
 refine⟨?_,k _ _ a2 x2,x3.at fun o e=>k _ _ a4 e,x4.at fun o e=>k _ _ a5 e⟩
 rcases x1 with⟨p,u,v,r⟩|⟨T,oT,f,p,r,t1,t2,t3,t4,t5⟩
 ·exact .inl ⟨k _ _ a1 p,u,v,k _ _ a3 r⟩
 ·exact .inr ⟨T,oT,f,k _ _ a1 p,k _ _ t5 r,t1,t2,t3,t4,t5⟩
theorem DM{k:κ}{v y:PL}{Dn:PK}{Q:Option PL->PN->Prop}(D:RE z TI TO i1 i2 d l)(hs:wQ s.heap z TI TO i1 i2 d l Dn n kvs.length ep)(hDn:Dn<s.heap.objs.size)(hd:s.heap.DictAt knd d kvs ep)(hl:s.heap.IsList l ys)(hx:kvs[n]?=some (k,v))(hy:ys[n]?=some y)
  (q:∀x h',knd.is k x=true->wQ h' z TI TO i1 i2 d l Dn (n+1) kvs.length ep->QG h' s.heap.objs.size x y->h'.objs.size=s.heap.objs.size+1->d5 s z TO i1 i2 h'->Q (some (.ref s.heap.objs.size)) {s with heap:=h'}):PQ (model prog w) A (Rc (.ref z)) Q E s:=by
 obtain⟨x1,hTI,h1,h2⟩:=hs
 have kTI:∀h',d5 s z TO i1 i2 h'->QG h' TI (.ref i1) (.ref i2):=fun h' hk=>hk _ _ D.TIz D.TITO D.TIi1 D.TIi2 hTI
 have l1:i1<s.heap.objs.size:=by obtain⟨o,e,_⟩:=h1;exact Qk e
 have l2:i2<s.heap.objs.size:=by obtain⟨o,e,_⟩:=h2;exact Qk e
 rcases x1 with⟨hz,u,v',hTO⟩|⟨T,oT,f,hz,hT,t1,t2,t3,t4,t5⟩
 ·refine oK (knd:=knd) D hz hTI hTO h1 hd h2 hl hx hy fun x h' a0 a1 a2 a3 a4 a5 a6 a7=>q x h' a0 ⟨.inr ⟨_,_,false,a1,a5,?_,?_,?_,?_,?_⟩,kTI _ a7,a3,a4⟩ a5 a6 a7
  ·exact Ro (Qk hz)
  ·exact Ro (Qk hTO)
  ·exact Ro l1
  ·exact Ro l2
  ·exact Ro hDn
 ·exact yj (knd:=knd) D hz hT hTI h1 hd h2 hl hx hy fun x h' a0 a1 a3 a4 a5 a6 a7=>q x h' a0 ⟨.inr ⟨T,oT,true,a1,a7 _ _ t1 t2 t3 t4 hT,t1,t2,t3,t4,t5⟩,kTI _ a7,a3,a4⟩ a5 a6 a7
theorem GN{Dn:PK}{Q:Option PL->PN->Prop}(hA:A.handled=none)(D:RE z TI TO i1 i2 d l)(hs:wQ s.heap z TI TO i1 i2 d l Dn n kvs.length ep)(hd:s.heap.DictAt knd d kvs ep)(hx:kvs[n]?=none)
  (q:∀h',d5 s z TO i1 i2 h'->Q none {s with heap:=h'}):PQ (model prog w) A (Rc (.ref z)) Q E s:=by
 obtain⟨x1,hTI,h1,h2⟩:=hs
 rcases x1 with⟨hz,u,v',hTO⟩|⟨T,oT,f,hz,hT,t1,t2,t3,t4,t5⟩
 ·exact qi (knd:=knd) hA D hz hTI h1 hd hx q
 ·exact Bl (knd:=knd) hA D hz hT hTI h1 hd hx q
end
section
variable {prog:Qc}{w:P8}{κ:Type} [DecidableEq κ] {knd:KeyKind prog w κ}{A:Qg}{R:Result->PN->Prop}{E:PL->PN->Prop}
variable {z TI TO i1 i2 d l Dn:PK}{ep:Nat}{kvs:List (κ×PL)}{ys:Array PL}
theorem GR(hA:A.handled=none)(Dz:RE z TI TO i1 i2 d l)(a1:z≠Dn)(a2:TI≠Dn)(a3:TO≠Dn)(a4:i1≠Dn)(a5:i2≠Dn)(a6:d≠Dn)(a7:l≠Dn)(vs:List (κ×PL))(res:PL)
  (hlen:vs.length=kvs.length) (hvs:∀(i:Nat)(p:κ×PL),vs[i]?=some p->∃v,kvs[i]?=some (p.1,v)/\ys[i]?=some p.2) (hn:vs.length<=1000) (nd:(vs.map (·.1)).Nodup):
  ∀(k i:Nat)(s:PN),kvs.length-i=k->i<=kvs.length->wQ s.heap z TI TO i1 i2 d l Dn i kvs.length ep->s.heap.DictAt knd d kvs ep->s.heap.IsList l ys->s.heap.DictOf knd Dn (vs.take i)->
   (∀h' tk,(∀b o,b≠z->b≠TO->b≠i1->b≠i2->b≠Dn->s.heap.get? b=some o->h'.get? b=some o)->h'.DictOf knd Dn vs->R (.ok (.ret res)) {s with heap:=h',toks:=tk})->
   RP (model prog w) A (.builtin "dict.update.loop" ⟨[.ref Dn,.ref z,.int i 0,res],[]⟩) R s:=by
 have dstay:∀{kvs:List (κ×PL)}{h h':P0},h.DictOf knd Dn kvs->(∀o,h.get? Dn=some o->h'.get? Dn=some o)->h'.DictOf knd Dn kvs:=fun x k=>let ⟨o,es,ep,ho,r⟩:=x;⟨o,es,ep,k o ho,r⟩
 intro k
 induction k with
 |zero=>
  intro i s hk hi hst hd hl hD hR
  have hin:i=kvs.length:=by omega
  rw[RI (by omega)]at hD
  refine codeAny_builtin oi ?_
  rw[Ve eW _]
  show PQ _ A.in1 (Rc (.ref z) >>= _) _ _ s
  refine PR (GN (knd:=knd) hA Dz hst hd (Sz (by omega)) fun h' hk=>?_)
  show PQ _ A.in1 (Yh Dn [] >>= fun _=>ret res) _ _ _
  exact PR (Qh (Qh (hR h' s.toks (fun b o b1 b2 b3 b4 _ e=>hk b o b1 b2 b3 b4 e) (dstay hD fun o e=>hk Dn o a1.symm a3.symm a4.symm a5.symm e))))
 |succ k ih=>
  intro i s hk hi hst hd hl hD hR
  have hlt:i<kvs.length:=by omega
  have hvi:vs[i]?=some vs[i]:=Qj (by omega)
  generalize vs[i]=p at hvi
  obtain⟨x0,hx,hy⟩:=hvs i p hvi
  have hDlt:Dn<s.heap.objs.size:=by obtain⟨o,_,_,ho,_⟩:=id hD;exact Qk ho
  refine codeAny_builtin oi ?_
  rw[Ve eW _]
  show PQ _ A.in1 (Rc (.ref z) >>= _) _ _ s
  refine PR (DM (knd:=knd) Dz hst hDlt hd hl hx hy fun key h1 hkey hst1 hp1 hsz1 hk1=>?_)
  have hD1:=dstay hD fun o e=>hk1 Dn o a1.symm a3.symm a4.symm a5.symm e
  show PQ _ A.in1 (holding [Qo s.heap.objs.size] _ >>= _) _ _ _
  refine PR (SO ?_)
  refine PR (wpAny_tryCatch ?_)
  unfold XI
  refine PR (U5 (T:="tuple") ⟨_,hp1,rfl⟩ ?_)
  rw[if_pos (by decide)]
  refine PR (R8 hp1 rfl (Qh ?_))
  show PQ _ A.in1 (holding [key,p.2] (dictSet Dn key p.2)) _ _ _
  refine SO (wpAny_dictSet_pairs (knd:=knd) hkey hD1 (fun h2 hd2 hsb=>?_) (by rw[QY,sizeLine_eq];omega))
  have hst2:stored (vs.take i) p.1 p.2=vs.take (i+1):=by
   unfold stored
   rw[if_neg]
   ·rw[Us,hvi];rfl
   ·intro z
    obtain⟨x,hx,e⟩:=Wa.mp z
    obtain⟨j,hj,ej⟩:=Tq hx
    have hj':j<i/\j<vs.length:=by rw[QY]at hj;omega
    rw[VJ]at ej
    have e:x.1=p.1:=by simpa using e
    obtain⟨hi',ei⟩:=QN.mp hvi
    have:=T4.mp nd j i (by simp;omega) (by simp;omega) hj'.1
    simp only[Vp]at this
    rw[ej,ei]at this
    exact this e
  rw[hst2]at hd2
  have k2:∀b o,b≠Dn->h1.get? b=some o->h2.get? b=some o:=fun b o hb e=>by rw[hsb.2 b hb];exact e
  refine Qh ⟨plainId_quiet eW _,?_⟩
  refine ih (i+1) {s with heap:=h2,toks:=s.toks+1} (by omega) hlt (hst1.at k2 a1 a2 a3 a4 a5) ?_ ?_ hd2 fun h' tk' hk' hS'=>?_
  ·exact hd.at' fun o e=>k2 _ _ a6 (hk1 _ _ Dz.l1z Dz.l1TO Dz.l1i1 Dz.l1i2 e)
  ·exact hl.at fun o e=>k2 _ _ a7 (hk1 _ _ Dz.l2z Dz.l2TO Dz.l2i1 Dz.l2i2 e)
  ·exact hR h' tk' (fun b o b1 b2 b3 b4 b5 e=>hk' b o b1 b2 b3 b4 b5 (k2 _ _ b5 (hk1 b o b1 b2 b3 b4 e))) hS'
theorem yG{s:PN}{Q:PL->PN->Prop}(hh:A.handled=none)(Dz:RE z TI TO i1 i2 d l)(hz:Ra s.heap z TI TO .none)(hTI:QG s.heap TI (.ref i1) (.ref i2))(hTO:∃u v,QG s.heap TO u v)(h1:s.heap.IsKeyIter i1 d 0 kvs.length ep)(h2:s.heap.IsListIter i2 l 0)
  (hd:s.heap.DictAt knd d kvs ep) (hl:s.heap.IsList l ys) (vs:List (κ×PL)) (hlen:vs.length=kvs.length) (hvs:∀(i:Nat)(p:κ×PL),vs[i]?=some p->∃v,kvs[i]?=some (p.1,v)/\ys[i]?=some p.2) (hn:vs.length<=1000) (nd:(vs.map (·.1)).Nodup)
  (h:∀(h':P0)(tk:Nat),(∀b o,b≠z->b≠TO->b≠i1->b≠i2->s.heap.get? b=some o->h'.get? b=some o)->h'.DictOf knd s.heap.objs.size vs->Q (.ref s.heap.objs.size) {s with heap:=h',toks:=tk}):
  PQ (model prog w) A (call (.type "dict") [.ref z]) Q E s:=by
 refine callType_codes (Q₁:=fun obj s₁=>obj=.ref s.heap.objs.size/\s₁={s with heap:=s.heap.push {cls:=.type "dict",data:=.dict #[]}}) Xo (Ye _) XQ (kt_code_dict_new _ ⟨rfl,rfl⟩) ?_
 rintro obj s₁ ⟨rfl,rfl⟩
 have hnew:(s.heap.push {cls:=.type "dict",data:=.dict #[]}).DictOf knd s.heap.objs.size []:=VB s.heap
 have up:∀b o,s.heap.get? b=some o->(s.heap.push {cls:=.type "dict",data:=.dict #[]}).get? b=some o:=fun b o e=>Qr _ e
 exists hnew.typeIs,Yk _ _
 unfold RG.«dict.__init__»
 refine PR ?_
 unfold XG
 refine PR (wpAny_notOrdered_dict hnew.typeIs ?_)
 show PQ _ _ (pure (s.heap.objs.size,[Qo z])) _ _ _
 refine Qh ?_
 show PQ _ _ (UE "dict.__init__" s.heap.objs.size (.ref z) [] .none) _ _ _
 unfold UE
 refine PR (U5 (T:="zip") ⟨_,up _ _ hz,rfl⟩ ?_)
 rw[if_pos (by decide)]
 refine PR (Ep (up _ _ hz) rfl rfl rfl hh fun m2 tk2 k2=>?_)
 have up2:∀b o,s.heap.get? b=some o->m2.get? b=some o:=fun b o e=>k2 _ _ (up _ _ e)
 simp only[W7,if_true]
 refine PR (wpAny_rule ?_)
 refine PR (VC (up2 _ _ hz) ?_)
 refine Qh ⟨plainId_quiet eW _,?_⟩
 have lt:∀{b:PK}{o:PV},s.heap.get? b=some o->b≠s.heap.objs.size:=fun e=>Qt (Qk e)
 obtain⟨u,v,hTO⟩:=hTO
 have n4:i1≠s.heap.objs.size:=by obtain⟨o,e,_⟩:=h1;exact lt e
 have n5:i2≠s.heap.objs.size:=by obtain⟨o,e,_⟩:=h2;exact lt e
 have n6:d≠s.heap.objs.size:=by obtain⟨o,es,e,_⟩:=hd;exact lt e
 have n7:l≠s.heap.objs.size:=by obtain⟨o,e,_⟩:=hl;exact lt e
 refine GR (knd:=knd) (A:=A.in1) hh Dz (lt hz) (lt hTI) (lt hTO) n4 n5 n6 n7 vs .none hlen hvs hn nd _ 0 {s with heap:=m2,toks:=tk2} rfl (Q3 _) ⟨.inl ⟨up2 _ _ hz,u,v,up2 _ _ hTO⟩,up2 _ _ hTI,h1.at fun o e=>up2 _ _ e,h2.at fun o e=>up2 _ _ e⟩ (hd.at' fun o e=>up2 _ _ e) (hl.at fun o e=>up2 _ _ e) ?_ fun h' tk' hk hS=>?_
 ·obtain⟨o,es,ep,ho,r⟩:=hnew
  exact⟨o,es,ep,k2 _ _ ho,r⟩
 ·exact⟨rfl,h h' tk' (fun b o b1 b2 b3 b4 e=>hk b o b1 b2 b3 b4 (lt e) (up2 _ _ e)) hS⟩
end
noncomputable def Dg(kvs:List (Key×V))(ys:List V):List (Key×V):=kvs.zipWith (fun p y=>(p.1,y)) ys
noncomputable def En(K:PM)(ta:TA):TE:=fun σ H Q=>ta σ H fun vs H1=>∃(d l:PK)(kvs:List (Key×V))(ys:List V),vs=[.ref d,.ref l]/\H1 d=some (.dK kvs)/\aY K H1 l ys/\kvs.length<=ys.length/\kvs.length<=1000/\(kvs.map (·.1)).Nodup/\∀e,H1 e=none->Q (.ref e) (upd H1 e (.dK (Dg kvs ys)))
section
variable {X:Cx}
theorem Ig(hc:X.calm=true){a b:PY}{ta:TA}{p p2 pos pos2:Qi}(hgd:Gl X "dict")(hmd:X.mg "dict"=none)(hg:Gl X "zip")(hm:X.mg "zip"=none)(ha:PA X [a,b] ta)(hs:Qf [a,b] X.env=(false,eval a X.env)::Qf [b] X.env:=by rfl)(hs2:(QF pos (Qf [b] X.env)).any (·.1)=false:=by rfl)
  (hs3:Qf [.Call (.Name "zip" p) [a,b] [] pos] X.env=[(false,eval (.Call (.Name "zip" p) [a,b] [] pos) X.env)]:=by rfl):
  PE X (.Call (.Name "dict" p2) [.Call (.Name "zip" p) [a,b] [] pos] [] pos2) (En X.K ta):=by
 intro pins s σ H Q I h
 refine Call_ (jH I hgd hmd boot_dict (Sq ?_ hs3 rfl))
 rw[hs3]
 show PQ _ _ (spliced ((false,eval (.Call (.Name "zip" p) [a,b] [] pos) X.env)::QF pos2 [])) _ _ s
 refine We ?_
 refine Call_ (jH I hg hm boot_zip (Sq (cI (ha pos pins s σ H _ I h) fun us s1 ⟨vs,H1,I1,r1,q1⟩=>?_) hs hs2))
 obtain⟨d,l,kvs,ys,e,hd,hS2,hkl,hk1,nd,q⟩:=q1
 subst e
 cases r1 with
 |cons r rr=>
  cases rr with
  |cons r' rr=>
   cases rr
   cases r
   cases r'
   obtain⟨zz,hdS,vs,rel,dd⟩:=gA I1.hok (.inl hd)
   have hlen:kvs.length=vs.length:=Qw rel
   obtain⟨o,es,ep,ho,hex,hdat,r⟩:=id dd
   have hat:s1.heap.DictAt (aX X.prog X.w) d vs ep:=⟨o,es,ho,hex,hdat,r⟩
   obtain⟨its2,rv2,pl2,hz2⟩:=I1.list hS2
   have lt1:d<s1.heap.objs.size:=I1.hok.lt hd
   have lt2:l<s1.heap.objs.size:=by obtain⟨o,e,_⟩:=pl2.isList;exact Qk e
   have hil:ys.length=its2.length:=rv2.length
   refine zm (knd:=aX X.prog X.w) hdS hat pl2.isList fun h' kz kTI kTO k1 k2 hk=>V4 ?_
   have hkv:KV (Dg kvs ys) (vs.zipWith (fun (p:Key×PL) y=>(p.1,y)) its2):=by
    unfold Dg
    clear q nd hk1 hkl hat r hdat hex ho dd hlen zz hd hS2 pl2 k1 hz2 hil
    induction rel generalizing ys its2 with
    |nil=>exact .nil
    |cons h _ ih=>
     cases rv2 with
     |nil=>exact .nil
     |cons h2 r2=>exact .cons ⟨h.1,h2⟩ (ih _ _ r2)
   have ek:(vs.map (·.1))=kvs.map (·.1):=by
    clear hkv q nd hk1 hkl hat r hdat hex ho dd hlen zz hd k1
    induction rel with
    |nil=>rfl
    |cons h _ ih=>rw[Qu,Qu,ih,h.1]
   have hzl:(vs.zipWith (fun (p:Key×PL) y=>(p.1,y)) its2).length=vs.length:=by rw[W8];omega
   have ekz:((vs.zipWith (fun (p:Key×PL) y=>(p.1,y)) its2).map (·.1))=vs.map (·.1):=by
    apply SI (by simp;omega)
    intro i h1 h2
    simp
   refine yG (knd:=aX X.prog X.w) (I.ok.hd hc) (Yb _ _ _ lt1 lt2) kz kTI ⟨_,_,kTO⟩ k1 k2 (hat.at' fun o e=>hk _ _ e) (pl2.isList.at fun o e=>hk _ _ e) (vs.zipWith (fun (p:Key×PL) y=>(p.1,y)) its2) hzl ?_ (by omega) (by rw[ekz,ek];exact nd) fun h2 tk hk2 hD=>?_
   ·intro i p hp
    rw[List.getElem?_zipWith]at hp
    cases e1:vs[i]? with
    |none=>rw[e1]at hp;simp at hp
    |some p1=>
     cases e2:its2[i]? with
     |none=>rw[e1,e2]at hp;simp at hp
     |some y=>
      rw[e1,e2]at hp
      simp at hp
      subst hp
      exact⟨p1.2,rfl,by simpa using e2⟩
   ·have hlt:s1.heap.objs.size<=h'.objs.size:=by
     exact SN (VP (Sx _ 4) (Qk kz))
    have kk:∀b u,s1.heap.get? b=some u->h2.get? b=some u:=fun b u e=>by
     have hb:=Qk e
     exact hk2 b u (Qt (QE hb (Sx _ _))) (Qt (QE hb (Sx _ _))) (Qt hb) (Qt (QE hb (Sx _ _))) (hk b u e)
    refine⟨.ref h'.objs.size,_,I1.laid (t':=tk) (a:=h'.objs.size) (o:=.dK (Dg kvs ys)) kk hlt (wI ?_ ?_ hkv hD),rfl,q _ (I1.hok.fresh hlt)⟩
    ·rw[Dg,W8]
     exact P6 (P6 (Xj _ _) hk1) (by decide)
    ·exact beq_eq_false_iff_ne.mpr (Qy (Qt (QE I1.big hlt)))
end
structure Lh(d:PK)(kvs:List (Key×V))(o:PV)(H Hf:Hp):Prop where
 fd:Hf d=some (.frz o (.dK kvs))
 low:∀a,Hf a=none->H a=none
 keep:∀a x,a≠d->H a=some x->Hf a=some x
section
variable {K:PM}{mp:List (Option Nat)}{tt:TT}{te td:TE}{ta:TA}{σ:St}{H Hf:Hp}{Q:VK}{d l:PK}{kvs:List (Key×V)}{o:PV}
theorem A5:Lh d kvs o H (upd H d (.frz o (.dK kvs))):=
 ⟨ax,fun a ha=>by
  by_cases h1:a=d
  ·subst h1;rw[ax]at ha;cases ha
  ·rwa [ak h1]at ha,fun a x ha h=>by rw[ak ha];exact h⟩
theorem Jy{w:PK}{x:HO}(hw:H w=none):Lh d kvs o H (upd (upd H w x) d (.frz o (.dK kvs))):=
 ⟨ax,fun a ha=>by
  by_cases h1:a=d
  ·subst h1;rw[ax]at ha;cases ha
  ·rw[ak h1]at ha
   by_cases h2:a=w
   ·subst h2;exact hw
   ·rwa [ak h2]at ha,fun a y ha h=>by
  have hw2:a≠w:=fun e=>by rw[e,hw]at h;cases h
  rw[ak ha,ak hw2];exact h⟩
noncomputable def Nz(d:PK)(Q:VK):VK:=fun v H'=>∃o kvs,H' d=some (.frz o (.dK kvs))/\Q v (upd H' d (.dK kvs))
theorem G9{g:TG}(htd:∀k:VK,k (.ref d) H->td σ H k)(hd:H d=some (.dK kvs))(h:∀o Hf,Lh d kvs o H Hf->dq mp g tt te (NW d o kvs) σ Hf (Nz d Q)):gP (bO mp (B3 td) g tt te) σ H Q:=
 ⟨d,kvs,hd,mK (htd _ ⟨d,kvs,rfl,hd,fun o=>h o _ A5⟩)⟩
theorem Hn{g:TG}(htd:∀k:VK,k (.ref d) H->td σ H k)(hd:H d=some (.dK kvs))(h:∀o Hf,Lh d kvs o H Hf->dq mp g tt te (OF d o kvs) σ Hf (Nz d Q)):gP (bO mp (Jo td) g tt te) σ H Q:=
 ⟨d,kvs,hd,mK (htd _ ⟨d,kvs,rfl,hd,fun o v hv hne=>h o _ (Jy hv)⟩)⟩
theorem DI{g:TG}(htd:∀k:VK,k (.ref d) H->td σ H k)(hd:H d=some (.dK kvs))(h:∀o Hf,Lh d kvs o H Hf->dq mp g tt te (LB d o kvs) σ Hf (Nz d Q)):gP (bO mp (D5 td) g tt te) σ H Q:=
 ⟨d,kvs,hd,mK (htd _ ⟨d,kvs,rfl,hd,fun o=>h o _ A5⟩)⟩
theorem FX{g:TG}{ys:List V}(hta:∀k:List V->Hp->Prop,k [.ref d,.ref l] H->ta σ H k)(hd:H d=some (.dK kvs))(hl:aY K H l ys)(hne:d≠l)(h:∀o Hf,Lh d kvs o H Hf->dq mp g tt te (OR K d l o kvs) σ Hf (Nz d Q)):gP (bO mp (Ju K ta) g tt te) σ H Q:=
 ⟨d,kvs,hd,mK (hta _ ⟨d,l,kvs,rfl,hd,⟨ys,hl⟩,hne,fun o=>h o _ A5⟩)⟩
variable {J:It}{g:TG}{P:Hp->Prop}{n:Nat}{f:Nat->St->St}
theorem Bw(F:Lh d kvs o H Hf)(hd:H d=some (.dK kvs))(Y:Ys J g P n f)(st:Nat->St)(hf:∀i σ',(σ'=c6 mp σ\/∃j,σ'=st j)->f i σ'=st i)(hP:∀H',H' d=some (.frz o (.dK kvs))->ef d H H'->P H')(hz:n<=PZ)(b:Nat->Bool)(R:PK->Nat->V->Hp->Prop)
  (hR:∀l i v H1 H2,ef l H1 H2->R l i v H1->R l i v H2) (hRd:∀l i v H1,H1 d=some (.frz o (.dK kvs))->R l i v H1->R l i v (upd H1 d (.dK kvs)))
  (ht:∀i,i<n->∀(H':Hp)(G:Bool->Hp->Prop),ef d H H'->(∀H'',av H' H''->G (b i) H'')->tt (st i) H' G)
  (he:∀l i,i<n->b i=true->∀(H':Hp)(G:VK),H l=none->(∃o,H' l=some o)->(∃o,H' d=some o)->ef d H H'->(∀v H'',R l i v H''->av H' H''->G v H'')->te (st i) H' G)
  (hq:∀l ys H2,H l=none->av H H2->H2 l=some (.lst ys)->Qd (fun i v=>R l i v H2) ((P4 n).filter b) ys->Q (.ref l) H2):dq mp g tt te J σ Hf (Nz d Q):=by
 have hx:∀H',av Hf H'->ef d H H':=fun H' s a x ha h=>s _ _ (F.keep a x ha h)
 refine gh Y st hf (fun H' s=>hP H' (s _ _ F.fd) (hx H' s)) hz b R hR (fun i hi H' G s k=>ht i hi H' G (hx H' s) k) (fun l i hi hb H' G h0 h1 s k=>he l i hi hb H' G (F.low l h0) h1 ⟨_,s _ _ F.fd⟩ (hx H' s) k) fun l ys H' h0 s h1 pr=>?_
 have hfd:H' d=some (.frz o (.dK kvs)):=s _ _ F.fd
 have hld:l≠d:=fun e=>by rw[e,F.fd]at h0;cases h0
 refine⟨o,kvs,hfd,hq l ys _ (F.low l h0) (fun a x ha=>?_) (by rw[ak hld];exact h1) (Paired.mapP pr fun i v q=>hRd l i v H' hfd q)⟩
 by_cases h1:a=d
 ·subst h1
  rw[ax,<-hd];exact ha
 ·rw[ak h1]
  exact hx H' s a x h1 ha
theorem y3(F:Lh d kvs o H Hf)(hd:H d=some (.dK kvs))(Y:Ys J g P n f)(st:Nat->St)(hf:∀i σ',(σ'=c6 mp σ\/∃j,σ'=st j)->f i σ'=st i)(hP:∀H',H' d=some (.frz o (.dK kvs))->ef d H H'->P H')(hz:n<=PZ)(b:Nat->Bool)(U:Nat->V)
  (ht:∀i,i<n->∀(H':Hp)(G:Bool->Hp->Prop),ef d H H'->(∀H'',av H' H''->G (b i) H'')->tt (st i) H' G)
  (he:∀i,i<n->b i=true->∀(H':Hp)(G:VK),ef d H H'->(∀H'',av H' H''->G (U i) H'')->te (st i) H' G)
  (hq:∀l H2,H l=none->av H H2->H2 l=some (.lst (((P4 n).filter b).map U))->Q (.ref l) H2):dq mp g tt te J σ Hf (Nz d Q):=by
 refine Bw F hd Y st hf hP hz b (fun _ i v _=>v=U i) (fun _ _ _ _ _ _ h=>h) (fun _ _ _ _ _ h=>h) ht (fun l i hi hb H' G _ _ _ s k=>he i hi hb H' G s fun H'' s'=>k _ H'' rfl s') fun l ys H' h0 s h1 pr=>?_
 have e:=kB pr
 subst e
 exact hq l H' h0 s h1
theorem zM(F:Lh d kvs o H Hf)(hd:H d=some (.dK kvs))(Y:Ys J g P n f)(st:Nat->St)(hf:∀i σ',(σ'=c6 mp σ\/∃j,σ'=st j)->f i σ'=st i)(hP:∀H',H' d=some (.frz o (.dK kvs))->ef d H H'->P H')(hz:n<=PZ)(b:Nat->Bool)(U:Nat->HO)
  (ht:∀i,i<n->∀(H':Hp)(G:Bool->Hp->Prop),ef d H H'->(∀H'',av H' H''->G (b i) H'')->tt (st i) H' G)
  (he:∀i,i<n->b i=true->∀(H':Hp)(G:VK),ef d H H'->(∀a H'',H' a=none->av H' H''->H'' a=some (U i)->G (.ref a) H'')->te (st i) H' G)
  (hq:∀l bs H2,H l=none->av H H2->H2 l=some (.lst (bs.map V.ref))->Qd (fun i a=>H a=none/\a≠l/\H2 a=some (U i)) ((P4 n).filter b) bs->Q (.ref l) H2):dq mp g tt te J σ Hf (Nz d Q):=by
 refine Bw F hd Y st hf hP hz b (fun l i v H'=>∃a,v=.ref a/\H a=none/\a≠l/\H' a=some (U i)) (fun l i v H1 H2 s ⟨a,e,g0,hl,h1⟩=>⟨a,e,g0,hl,s a _ hl h1⟩) (fun l i v H1 hfr ⟨a,e,g0,hl,h1⟩=>⟨a,e,g0,hl,by
  have:a≠d:=fun z=>by rw[z,hd]at g0;cases g0
  rw[ak this];exact h1⟩) ht
  (fun l i hi hb H' G hl ⟨o,ho⟩ ⟨o2,ho2⟩ s k=>he i hi hb H' G s fun a H'' h0 s' h1=>k _ H'' ⟨a,rfl,?_,(fun e=>by rw[e,ho]at h0;cases h0),h1⟩ s') fun l ys H' h0 s h1 pr=>?_
 ·cases e:H a with
  |none=>rfl
  |some x=>
   have:a≠d:=fun z=>by rw[z,ho2]at h0;cases h0
   rw[s a x this e]at h0;cases h0
 ·obtain⟨bs,rfl,pr'⟩:=jz (T:=fun a i=>H a=none/\a≠l/\H' a=some (U i)) pr
  exact hq l bs H' h0 s h1 pr'
end
theorem Lu{d:PK}{o:PV}{kvs:List (Key×V)}(p:Nat)(u:Nat->V)(hu:∀i q,kvs[i]?=some q->q.2=u i):
  Ys (OF d o kvs) (au p) (fun H=>H d=some (.frz o (.dK kvs))) kvs.length (fun i σ=>σ.set p (some (u i))) where
 go:=fun i H hi h=>⟨h,hi⟩
 stop:=fun H h=>⟨h,Qe _⟩
 yld:=fun i H x H' σ Q hi h y q=>by
  obtain⟨e,w,hw,ex⟩:=y
  subst e ex
  rw[hu i w hw]
  exact q _ (av.refl _)
theorem u5{X:Cx}{st:P5}{te:TE}{i:Nat}(h:PS X st (bG te (au i))):PS X st (bG (gP te) (au i)):=by
 intro pins s σ H D I q
 obtain⟨d,kvs0,hd,q⟩:=q
 refine cI (h pins s σ H {nx:=fun σ' H'=>∃o kvs,H' d=some (.frz o (.dK kvs))/\D.nx σ' (upd H' d (.dK kvs)),rt:=fun _ _=>False} I q) fun f s1 q1=>?_
 match f,q1 with
 |.next,⟨σ',H',I',o,kvs,hf,q2⟩=>exact⟨σ',_,Inv.thaw I hd I' hf,q2⟩
 |.brk,⟨σ',H',I',q2⟩=>exact q2.elim
 |.cont,⟨σ',H',I',q2⟩=>exact q2.elim
 |.ret u,⟨v,σ',H',I',r,q2⟩=>exact q2.elim
end L2
namespace L2
open PySem PySem.Spec PyProof.Rows
section
variable {X:Cx}
noncomputable def tI(te:TE):TE:=fun σ H Q=>te σ H fun x H1=>∃z:PH,x=.str z/\z.length<=PZ/\Q (.str z) H1
theorem kE{e:PY}{te:TE}{pos:Qi}(he:PE X e te):PE X (.FormattedValue e (-1) none pos) (tI te):=by
 intro pins s σ H Q I h
 refine wpAny_FormattedValue_plain (cI (he pins s σ H _ I h) fun v s1 ⟨x,H1,I1,r1,z,hx,hl,q⟩=>?_)
 subst hx
 obtain⟨tk,rfl⟩:=(show ∃t,v=SU z t from r1)
 have fin:∀(t':Tok)(k:Nat),EP X pins σ Q (.str z t') {s1 with toks:=k}:=fun t' k=>⟨.str z,H1,I1.tok k,⟨t',rfl⟩,q⟩
 exact wpAny_formatField_str (fin _ _) (fin _ _) (hx:=hl)
end
section
variable {X:Cx}{k:Nat}{c m:PH}{ps:List PH}{sp:Sp}{o e:PY}{es:List PY}{ta:TE}{t:TA}{apos pos:Qi}{pl:Sem Bool}
theorem Lw{E:XK}(M:eO (eC X.prog X.w X.base) X.prog X.w X.K X.mg X.base k c m ps sp)(C:mF X.K X.mg c)(hr:di k X.A)(hx:∀b,b∉X.ex)(he:PE X.nox o ta)(ha:PA X.nox (e::es) t)
  (hst:Qf (e::es) X.env=(false,eval e X.env)::Qf es X.env:=by rfl) (hpl:(QF pos (Qf es X.env)).any (·.1)=false:=by rfl)
  (ht:eval (.Call (.Attribute o m apos) (e::es) [] pos) X.env=(do
   let ov <-eval o X.env
   standAt apos.atName
   let (f,first) <-holding [ov] (R0 ov m pl)
   callWith pos f first (QF pos (Qf (e::es) X.env)) (RW pos (RO [] X.env))):=by rfl):PX X (.Call (.Attribute o m apos) (e::es) [] pos) E (cD (ao X.K c) m sp [] E ta t):=by
 obtain⟨f,fd,hm,hb,F⟩:=M.ex
 intro pins s σ H Q I h
 refine U9 (pl:=pl) (Q5 (he pins s σ H _ (I.wish _) h) (fun u s1 ⟨x,H1,I1,rx,a,dx,fs,ex,ea,l,q⟩=>?_) fun _ _ z=>z.elim) ht
 subst ex
 obtain rfl:u=Qo a:=rx
 have I1:=I1.unwish
 refine lK I1 ea C.cls hm l ?_
 refine VZ (first:=[.ref a]) (h₀:=X.base) I.ok.mod.kin hm.kp (Q5 (ha pos pins s1 σ H1 _ (I1.wish _) q) (fun us s2 ⟨vs,H2,I2,r,q2⟩=>⟨I2.kIn,?_⟩) fun _ _ z=>z.elim) hst hpl
 exact KU (us:=.ref a::us) (vs:=.ref a::vs) F hr hb .nil hx I2.unwish (.cons rfl r) q2
end
section
variable {mp:List (Option Nat)}{g:TG}{te:TE}{J:It}{P:Hp->Prop}{n:Nat}{f:Nat->St->St}{σ:St}{H:Hp}{Q:VK}
end
end L2
namespace L2
open PySem PySem.Spec PyProof.Rows PySem.Builtin PySem.Builtin.Str
section
variable {X:Cx}
noncomputable def Ff(a:PH):PH:={cps:=placed a fun _ c=>Sj c}
noncomputable def Af:V->List V->Hp->VK->Prop:=fun x vs H Q=>∃a:PH,x=.str a/\vs=[]/\tooLong (placed a fun _ c=>Sj c).size=false/\(Ff a).length<=PZ/\Q (.str (Ff a)) H
theorem Di:NF X "str.upper" Af:=by
 intro pins s σ H x vs v us Q I rx rv h
 obtain⟨a,rfl,rfl,hl,hz,q⟩:=h
 obtain⟨t,rfl⟩:=rx
 cases rv
 refine RJ VR (typeIs_str _ _ _) F.entry_str_upper (F.args_str_upper_1 _) (gives_str_upper a t hl).meets ?_
 have fin:∀(t':Tok)(tk:Nat),EP X pins σ Q (.str (Ff a) t') {s with toks:=tk}:=fun t' tk=>⟨.str (Ff a),H,I.tok tk,⟨t',rfl⟩,q⟩
 exact⟨hz,fin _ _⟩
end
section
variable {mp:List (Option Nat)}{g:TG}{te:TE}{J:It}{P:Hp->Prop}{n:Nat}{f:Nat->St->St}{σ:St}{H:Hp}{Q:VK}
theorem Gr(Y:Ys J g P n f)(st:Nat->St)(hf:∀i σ',(σ'=c6 mp σ\/∃j,σ'=st j)->f i σ'=st i)(hz:n<=PZ)(I:PK->Nat->List V->Hp->Prop)
  (hP:∀l i ys H',I l i ys H'->P H') (h0:∀l H',H l=none->av H H'->I l 0 [] H') (hI:∀l i ys H1 H2,ef l H1 H2->I l i ys H1->I l i ys H2)
  (he:∀l i ys,i<n->∀(H':Hp)(G:VK),H l=none->H' l=some (.lst ys)->I l i ys H'->(∀v H'',I l (i+1) (ys++[v]) H''->H'' l=some (.lst ys)->G v H'')->te (st i) H' G)
  (hd:∀l ys H',H l=none->H' l=some (.lst ys)->I l n ys H'->Q (.ref l) H'):dq mp g dv te J σ H Q:=by
 intro l hl
 refine⟨fun i m acc σ' H'=>m=n-i/\i<=n/\acc.length<=i/\H' l=some (.lst acc)/\I l i acc H'/\(σ'=c6 mp σ\/∃j,σ'=st j),
  ⟨n,by simp,Q3 _,Qe _,ax,h0 l _ hl (av.updN hl),.inl rfl⟩,?_⟩
 rintro i m acc σ' H' ⟨rfl,hi,ha,h1,h2,hσ⟩
 by_cases hlt:i<n
 ·refine .inr ⟨Y.go i H' hlt (hP _ _ _ _ h2),by omega,fun acc' σ2 H2=>i+1<=n/\acc'.length<=i+1/\H2 l=some (.lst acc')/\I l (i+1) acc' H2/\(σ2=c6 mp σ\/∃j,σ2=st j),fun acc' σ2 H2 p'=>⟨n-(i+1),by omega,rfl,p'⟩,fun x H2 y=>?_⟩
  refine Y.yld i H' x H2 σ' _ hlt (hP _ _ _ _ h2) y fun H3 s3=>?_
  rw[hf i σ' hσ]
  have ht:∀(G:Bool->Hp->Prop),G true H3->dv (st i) H3 G:=fun G z=>z
  refine ht _ ?_
  refine FZ ?_
  refine he l i acc hlt H3 _ hl (s3 _ _ h1) (hI l i acc _ _ (s3.x l) h2) fun v H5 r s5=>?_
  refine⟨s5,hlt,?_,ax,hI l _ _ _ _ rX r,.inr ⟨i,rfl⟩⟩
  rw[QU,R9];omega
 ·have e:i=n:=by omega
  subst e
  exact .inl ⟨Y.stop H' (hP _ _ _ _ h2),hd l acc H' hl h1 h2⟩
end
end L2
set_option maxHeartbeats 4000000
namespace My
open PySem L2
local macro_rules | `(tactic| walk_at "q") => `(tactic| with_reducible refine E3 ?_)
local macro_rules | `(tactic| walk_at "u1") => `(tactic| first
 |with_reducible refine Fk ?_
 |with_reducible refine N9 ?_
 |with_reducible refine Fm ?_
 |with_reducible refine MQ ?_
 |with_reducible refine Mn ?_
 |((with_reducible show DJ _ _ _ _ _ _);refine⟨_,rfl,?_⟩)
 |((with_reducible show af _ _ _ _);refine⟨_,rfl,?_⟩)
 |with_reducible refine Pz ?_
 |with_reducible refine O0 ?_
 |with_reducible refine NT ?_
 |with_reducible refine Oy ?_
 |((with_reducible show qO _ _ _ _);first|refine JD (by first|omega|decide) (by first|omega|decide) ?_|refine Ma (by first|omega|decide) (by first|omega|decide) ?_)
 |((with_reducible show oDiv _ _ _ _);refine LY (by first|omega|decide) (by first|omega|decide) ?_)
 |((with_reducible show oMod _ _ _ _);refine LQ (by first|omega|decide) ?_)
 |with_reducible refine O1 ?_
 |with_reducible refine O3 ?_
 |with_reducible refine Pb ?_
 |with_reducible refine O7 ?_
 |with_reducible refine Pe ?_
 |with_reducible refine Pp ?_
 |with_reducible refine NZ ?_
 |with_reducible refine Nt ?_
 |with_reducible refine M8 ?_
 |with_reducible refine OY ?_
 |with_reducible refine O5 ?_
 |with_reducible refine Oe ?_
 |with_reducible refine Pl ?_
 |with_reducible refine OJ ?_
 |with_reducible refine Ml ?_
 |with_reducible refine Pk ?_
 |with_reducible refine OA ?_
 |with_reducible refine Nf ?_
 |with_reducible refine MV ?_
 |with_reducible refine Ph ?_
 |with_reducible refine NL ?_
 |with_reducible refine Ol ?_
 |with_reducible refine MI ?_
 |with_reducible refine Mh ?_
 |((with_reducible show ∃i j:Int,_=_/\_);refine La (by first|omega|decide) (by first|omega|decide) (by first|omega|decide) (by first|omega|decide) ?_)
 |((with_reducible show ∃j:Int,[V.int _]=[V.int _]/\_);refine LH (by first|omega|decide) (by first|omega|decide) ?_)
 |with_reducible refine Ly ?_
 |with_reducible refine Pa ?_
 |with_reducible refine Nd ?_
 |with_reducible refine Kv ?_
 |with_reducible refine HZ ?_
 |with_reducible refine mK ?_
 |with_reducible refine O4 ?_
 |with_reducible refine OG ?_
 |with_reducible refine KC ?_)
local macro_rules | `(tactic| walk_at "o1") => `(tactic| first
 |walk_at "u1"
 |((with_reducible show gQ _ _ _ _);refine L5 (by assumption) ?_)
 |((with_reducible show Gz _ _ _ _);refine LM (by assumption) ?_)
 |((with_reducible show ∃b:PK,V.ref _=V.ref _/\_);refine fj (by assumption) ?_))
local macro_rules | `(tactic| walk_at "w") => `(tactic| repeat (first | with_reducible refine E3 ?_ | walk_at "o1"))
local macro_rules | `(tactic| walk_at "sq") => `(tactic| first | assumption | exact aY.of (by assumption) | exact av.seq (by assumption) (by walk_at "sq"))
local macro_rules | `(tactic| walk_at "rows") => `(tactic| first | assumption | exact av.rows (by assumption) (by walk_at "rows"))
local macro_rules | `(tactic| walk_at "fits") => `(tactic| first | exact Yi rfl | (refine P6 ?_ bo; simp; done) | (refine P6 ?_ bo; simp; omega) | (refine P6 ?_ bo; omega))
local macro_rules | `(tactic| walk_at "call") => `(tactic| fail)
local macro_rules | `(tactic| walk_at "early") => `(tactic| fail)
local macro_rules | `(tactic| walk_at "v1") => `(tactic| first
 |walk_at "early"
 |walk_at "u1"
 |((with_reducible show gQ _ _ _ _);refine L5 (by walk_at "sq") ?_)
 |((with_reducible show Gz _ _ _ _);refine LM (by walk_at "sq") ?_)
 |with_reducible refine Nw ?_
 |with_reducible refine M7 ?_
 |((with_reducible show Nc _ _ _);refine M6 (by walk_at "fits") ?_;intro _ _ _ _ _)
 |((with_reducible show MM _ _ _);refine M3 (by walk_at "fits") ?_;intro _ _ _ _ _)
 |((with_reducible show Aw _ _ _ _);refine Gj (by walk_at "sq") ?_;intro _ _ _ _ _)
 |((with_reducible show Hz _ false (V.int _) _ _ _);refine N8 (by walk_at "sq") ?_)
 |((with_reducible show HC _ _ _ _);refine NO (by walk_at "sq") ?_)
 |((with_reducible show ∃b:PK,V.ref _=V.ref _/\_);refine fj (by walk_at "sq") ?_)
 |with_reducible refine MS ?_
 |((with_reducible show qM _ _ _ _ _ _);refine Mf (by walk_at "sq") ?_;intro _ _ _ _ _)
 |with_reducible refine FZ ?_
 |with_reducible refine JH ?_
 |with_reducible refine OC ?_
 |with_reducible refine Of ?_
 |walk_at "call")
local macro_rules | `(tactic| walk_at "z") => `(tactic| repeat walk_at "v1")
local macro_rules | `(tactic| walk_at "v") => `(tactic| repeat (first | with_reducible refine E3 ?_ | walk_at "v1"))
theorem xq{α:Type}{f:α->V}:∀{xs:List α}{g:α->V}{ys:List V},Qd (fun x v=>∃p,x=g p/\v=f p) (xs.map g) ys->(∀p q,g p=g q->p=q)->ys=xs.map f
 |[],_,_,.nil,_=>rfl
 |x::r,g,_,.cons ⟨p,e,e'⟩ t,inj=>by
  have:=inj _ _ e
  subst this
  rw[e',xq t inj]
  rfl
theorem Ks:∀p q:Int,V.int p=V.int q->p=q:=fun _ _ e=>V.int.inj e
theorem Im{ns:List Int}{x:V}(h:x∈ns.map V.int):∃i∈ns,x=V.int i:=by
 obtain⟨i,hi,e⟩:=P9.mp h
 exact⟨i,hi,e.symm⟩
theorem Bv(ns:List Int)(lo hi:Option Int):∃ms:List Int,iw (ns.map V.int) lo hi=ms.map V.int/\ms.length<=ns.length/\∀m∈ms,m∈ns:=by
 exists (ns.drop (HT.yQ (ns.map V.int).length 0 lo)).take (HT.yQ (ns.map V.int).length (ns.map V.int).length hi-HT.yQ (ns.map V.int).length 0 lo),?_,?_
 ·unfold iw
  rw[UB,Xg]
 ·rw[QY,Rq]
  omega
 ·intro m hm
  exact T7 (Sl hm)
theorem Mq(xs:List V)(lo hi:Nat):(iw xs (some (lo:Int)) (some (hi:Int))).length<=hi-lo:=by
 unfold iw
 rw[HT.oh,HT.oh,QY]
 omega
noncomputable def C7(ps:List Int)(L:Int):Int:=(ps.map (min · L)).sum
noncomputable def J8(ps:List Int)(price L:Int):Prop:=1<=L/\price<=C7 ps L/\C7 ps (L-1)<price
theorem B8:∀{a b:List Int},a.Perm b->a.sum=b.sum:=by
 intro a b h
 induction h with
 |nil=>rfl
 |cons x _ ih=>simp only[Rb,ih]
 |swap x y l=>simp only[Rb];omega
 |trans _ _ i1 i2=>exact i1.trans i2
theorem B4{a b:List Int}(h:a.Perm b)(L:Int):C7 a L=C7 b L:=B8 (h.map _)
theorem Dr(a b:List Int)(L:Int):C7 (a++b) L=C7 a L+C7 b L:=by
 unfold C7
 rw[Rk,Uc]
theorem Ci(x:Int)(b:List Int)(L:Int):C7 (x::b) L=min x L+C7 b L:=by
 unfold C7
 rw[Qu,Rb]
theorem y0{L:Int}:∀{l:List Int},(∀y∈l,y<=L)->C7 l L=l.sum
 |[],_=>rfl
 |x::r,h=>by
  have hx:=h x QI
  rw[Ci,y0 fun y hy=>h y (Qs _ hy),Rb]
  omega
theorem FG{L:Int}:∀{l:List Int},(∀y∈l,L<=y)->C7 l L=(l.length:Int)*L
 |[],_=>by simp[C7]
 |x::r,h=>by
  have hx:=h x QI
  rw[Ci,FG fun y hy=>h y (Qs _ hy),QV]
  have e:((r.length+1:Nat):Int)*L=(r.length:Int)*L+L:=by
   rw[TY,Va]
   simp
  rw[e]
  omega
theorem Gd{pre post:List Int}{x m p price:Int}(hp:p=(post.length:Int)+1)(hm:m=price-pre.sum)(hm0:0<m)(hA:∀y∈pre,y*p<m)(hx:m<=x*p)(hpost:∀y∈post,x<=y):
  J8 (pre++x::post) price ((m+p-1)/p):=by
 have p0:0<p:=by omega
 have e:=VE (m+p-1) p
 have r0:=Su (m+p-1) (show p≠0 by omega)
 have r1:=Tf (m+p-1) p0
 generalize (m+p-1)/p=L at *
 generalize (m+p-1)%p=r at *
 have e1:p*(L-1)=p*L-p:=by rw[WI,VA]
 have hL:L<=x:=by
  rcases Sb x L with h|h
  ·exfalso
   have:x*p<=(L-1)*p:=US (by omega) (by omega)
   rw[Tt (L-1) p]at this
   omega
  ·exact h
 have hpre:∀y∈pre,y<=L-1:=fun y hy=>by
  rcases Sb y L with h|h
  ·omega
  ·exfalso
   have h1:L*p<=y*p:=US h (by omega)
   rw[Tt L p]at h1
   have h2:=hA y hy
   omega
 have hL1:1<=L:=by
  rcases Sb 0 L with h|h
  ·omega
  ·exfalso
   have:p*L<=p*0:=Xm h (by omega)
   rw[Int.mul_zero]at this
   omega
 have g:∀M,M<=L->(∀y∈pre,y<=M)->C7 (pre++x::post) M=pre.sum+p*M:=fun M hM hpre=>by
  rw[Dr,y0 hpre,FG (l:=x::post) fun y hy=>by
   rcases Qa.mp hy with rfl|hy
   ·omega
   ·have:=hpost y hy;omega]
  rw[QV,hp]
  rfl
 exists hL1,?_
 ·rw[g L (RU _) fun y hy=>by have:=hpre y hy;omega]
  omega
 ·rw[g (L-1) (by omega) hpre]
  omega
theorem Jr{pre:List Int}{x m p:Int}(hp:1<=p)(hx0:0<=x)(hpre:∀y∈pre,y<=x)(hn:¬m<=x*p):0<m-x/\∀y∈pre++[x],y*(p-1)<m-x:=by
 have e:x*(p-1)=x*p-x:=by rw[WI,VA]
 have z:0<=x*(p-1):=UO hx0 (by omega)
 refine⟨by omega,fun y hy=>?_⟩
 rcases QC.mp hy with h|h
 ·have:y*(p-1)<=x*(p-1):=US (hpre y h) (by omega)
  omega
 ·have:y=x:=by simpa using h
  subst this
  omega
theorem qh:∀{l:List Int},(∀y∈l,0<=y)->0<=l.sum
 |[],_=>RU 0
 |x::r,h=>by
  have h1:=h x QI
  have h2:=qh fun y hy=>h y (Qs _ hy)
  rw[Rb]
  omega
theorem IU(l:List Int)(x:Int):(l++[x]).sum=l.sum+x:=by
 rw[Uc]
 simp
theorem bw{α β:Type}(f:α->β)(d:α)(xs:List α):(P4 xs.length).map (fun i=>f (xs.getD i d))=xs.map f:=by
 apply SI
 ·simp
 ·intro k h1 h2
  have hk:k<xs.length:=by simpa using h1
  simp[Qm,hk]
theorem xG{α β:Type}{F:α->β->Prop}:∀{a c:List α}{b d:List β},Qd F a b->Qd F c d->Qd F (a++c) (b++d)
 |_,_,_,_,.nil,h=>h
 |_,_,_,_,.cons r t,h=>.cons r (xG t h)
noncomputable def mT:Nat->Nat
 |0=>1
 |n+1=>R4 (mT n) (n+1)
theorem AH:∀n,0<mT n
 |0=>Nat.one_pos
 |n+1=>YJ (AH n) (YA n)
theorem yR:∀n,n<21->mT n<=232792560:=by decide +kernel
theorem KR:∀n,n<21->∀k,k<21->(1<=k/\k<=n)->k∣mT n:=by decide +kernel
theorem JT{s n m:Nat}(hs:0<s)(hn:0<n)(hm:s∣m)(hle:m<=R4 s n)(hne:m%n≠0):m+s<=R4 s n:=by
 obtain⟨a,rfl⟩:=hm
 obtain⟨b,hb⟩:=WU s n
 have h1:n∣R4 s n:=Nat.dvd_lcm_right s n
 have h2:s*a≠R4 s n:=fun e=>hne (Nat.mod_eq_zero_of_dvd (e▸h1))
 rw[hb]at hle h2 ⊢
 have h3:a<b:=by
  rcases XC a b with h|h
  ·exact h
  ·exact absurd (Ya hle (Xp s h)) h2
 calc s*a+s=s*(a+1):=by rw[Nat.mul_add,Nat.mul_one]
  _<=s*b:=Xp s h3
theorem Kk{s n m:Nat}(hm0:0<m)(hm:s∣m)(hle:m<=R4 s n)(h0:m%n=0):m=R4 s n:=
 Ya hle (Wy hm0 (Nat.lcm_dvd hm (Nat.dvd_of_mod_eq_zero h0)))
noncomputable def L8(w:Nat)(b:Nat->Bool):List Int:=((P4 w).filter b).map fun k:Nat=>(k:Int)
theorem ND{w:Nat}{b:Nat->Bool}{k:Nat}:((k:Int)∈L8 w b)↔(k<w/\b k=true):=by
 unfold L8
 constructor
 ·intro h
  obtain⟨j,hj,e⟩:=P9.mp h
  have:j=k:=by omega
  subst this
  exact⟨Q6.mp (QL.mp hj).1,(QL.mp hj).2⟩
 ·rintro⟨h1,h2⟩
  exact P9.mpr ⟨k,QL.mpr ⟨Q6.mpr h1,h2⟩,rfl⟩
theorem G1{v w:Nat}(hv:v<=20)(hw:w<=13):mT v ^ w<=232792560 ^ 13:=
 P6 (Nat.pow_le_pow_left (yR v (by omega)) w) (Yz (by decide) hw)
theorem fX(v w:Nat):0<mT v ^ w:=Nat.pow_pos (AH v)
theorem HV:(232792560:Int) ^ 13*1000000000000*1000000000000<nt:=by decide +kernel
theorem pT{v w:Nat}(hv:v<=20)(hw:w<=13):((mT v ^ w:Nat):Int)<=232792560 ^ 13:=by
 have h:=Int.ofNat_le.mpr (G1 hv hw)
 have e:((232792560 ^ 13:Nat):Int)=232792560 ^ 13:=by decide +kernel
 rw[e]at h
 exact h
noncomputable def sumTo(v:Nat)(f:Nat->Int):Int:=((P4 v).map f).sum
theorem eM(v:Nat)(f:Nat->Int):sumTo (v+1) f=sumTo v f+f v:=by
 unfold sumTo
 rw[S9,Rk,Uc]
 simp
theorem vX:∀{v:Nat}{f g:Nat->Int},(∀i,i<v->f i<=g i)->sumTo v f<=sumTo v g
 |0,_,_,_=>RU 0
 |v+1,f,g,h=>by
  have h1:=vX (v:=v) fun i hi=>h i (by omega)
  have h2:=h v (by omega)
  rw[eM,eM]
  omega
theorem yV(f g:Nat->Int):∀v,sumTo v (fun i=>f i-g i)=sumTo v f-sumTo v g
 |0=>rfl
 |v+1=>by
  rw[eM,eM,eM,yV f g v]
  omega
noncomputable def Bs(W:Nat->Nat->Bool)(p:Nat->Int)(k:Nat)(L:Int)(i:Nat):Int:=if W i k=true then min (p i) L else 0
noncomputable def uk(v:Nat)(W:Nat->Nat->Bool)(p:Nat->Int)(k:Nat)(L:Int):Int:=sumTo v (Bs W p k L)
noncomputable def Hx(v:Nat)(W:Nat->Nat->Bool)(p:Nat->Int)(k:Nat):Int:=sumTo v fun i=>if W i k=true then p i else 0
theorem B5{v:Nat}{W:Nat->Nat->Bool}{p:Nat->Int}{k:Nat}{L M:Int}(h:L<=M):uk v W p k L<=uk v W p k M:=
 vX fun i _=>by
  unfold Bs
  split<;>omega
theorem vm(v:Nat)(W:Nat->Nat->Bool)(p:Nat->Int)(k:Nat)(L:Int):uk v W p k L<=Hx v W p k:=
 vX fun i _=>by
  unfold Bs
  split<;>omega
theorem M2{W:Nat->Nat->Bool}{p:Nat->Int}{k:Nat}{L:Int}{i:Nat}(h:0<=p i)(hL:0<=L):0<=Bs W p k L i:=by
 unfold Bs
 split<;>omega
theorem Ny{W:Nat->Nat->Bool}{p:Nat->Int}{k:Nat}{L:Int}{i:Nat}(h:0<=p i):Bs W p k L i<=p i:=by
 unfold Bs
 split<;>omega
structure sg where
 v:Nat
 n:Nat
 W:Nat->Nat->Bool
 c:Nat->Int
structure Nx(T:sg)(p:Nat->Int)(done:List Nat)(k:Nat)(L:Int):Prop where
 lt:k<T.n
 new:k∉done
 pos:1<=L
 enough:T.c k<=uk T.v T.W p k L
 least:∀j,j<T.n->j∉done->uk T.v T.W p j (L-1)<T.c j
 first:∀j,j<k->j∉done->uk T.v T.W p j L<T.c j
noncomputable def Em(W:Nat->Nat->Bool)(p:Nat->Int)(k:Nat)(L:Int):Nat->Int:=fun i=>p i-Bs W p k L i
inductive Run(T:sg):(Nat->Int)->List Nat->List (Nat×Int)->Prop
 |stop {p:Nat->Int}{done:List Nat}:(∀k,k<T.n->k∉done->Hx T.v T.W p k<T.c k)->Run T p done []
 |step {p:Nat->Int}{done:List Nat}{k:Nat}{L:Int}{rest:List (Nat×Int)}:Nx T p done k L->Run T (Em T.W p k L) (k::done) rest->Run T p done ((k,L)::rest)
theorem DN{W:Nat->Nat->Bool}{p:Nat->Int}{k:Nat}{L:Int}{i:Nat}(h:0<=p i):0<=Em W p k L i:=by
 have:=Ny (W:=W) (k:=k) (L:=L) h
 unfold Em
 omega
theorem II{W:Nat->Nat->Bool}{p:Nat->Int}{k:Nat}{L:Int}{i:Nat}(h:0<=p i)(hL:0<=L):Em W p k L i<=p i:=by
 have:=M2 (W:=W) (k:=k) h hL
 unfold Em
 omega
theorem G6{T:sg}{p:Nat->Int}{done:List Nat}{k k':Nat}{L L':Int}(h:Nx T p done k L)(h':Nx T p done k' L'):k=k'/\L=L':=by
 have a:∀{k k':Nat}{L L':Int},Nx T p done k L->Nx T p done k' L'->¬L<L':=by
  intro k k' L L' h h' hlt
  have h1:=h'.least k h.lt h.new
  have h2:=B5 (v:=T.v) (W:=T.W) (p:=p) (k:=k) (show L<=L'-1 by omega)
  have h3:=h.enough
  omega
 have e:L=L':=by
  have:=a h h'
  have:=a h' h
  omega
 subst e
 have b:∀{k k':Nat},Nx T p done k L->Nx T p done k' L->¬k<k':=by
  intro k k' h h' hlt
  have h1:=h'.first k hlt h.new
  have h3:=h.enough
  omega
 have:=b h h'
 have:=b h' h
 exact⟨by omega,rfl⟩
theorem Jv{T:sg}{p:Nat->Int}{done:List Nat}{k:Nat}{L:Int}(h:Nx T p done k L):T.c k<=Hx T.v T.W p k:=Tj h.enough (vm _ _ _ _ _)
theorem DY{T:sg}:∀{p:Nat->Int}{done:List Nat}{s s':List (Nat×Int)},Run T p done s->Run T p done s'->s=s':=by
 intro p done s s' h
 induction h generalizing s' with
 |stop h0=>
  intro h'
  cases h' with
  |stop _=>rfl
  |step n _=>
   have h1:=h0 _ n.lt n.new
   have h2:=Jv n
   omega
 |step n _ ih=>
  intro h'
  cases h' with
  |stop h0=>
   have h1:=h0 _ n.lt n.new
   have h2:=Jv n
   omega
  |step n' r'=>
   obtain⟨e1,e2⟩:=G6 n n'
   subst e1
   subst e2
   rw[ih r']
theorem zd{T:sg}{p:Nat->Int}{done:List Nat}{s:List (Nat×Int)}(h:Run T p done s):(∀x∈s,x.1<T.n/\x.1∉done/\1<=x.2)/\(s.map (·.1)).Nodup:=by
 induction h with
 |stop _=>exact⟨fun _ h=>(by simp at h),Up⟩
 |step n _ ih=>
  obtain⟨i1,i2⟩:=ih
  exists fun x hx=>?_
  ·rcases Qa.mp hx with e|hx
   ·subst e
    exact⟨n.lt,n.new,n.pos⟩
   ·obtain⟨a,b,c⟩:=i1 x hx
    exact⟨a,fun z=>b (Qs _ z),c⟩
  ·rw[Qu]
   refine RX.mpr ⟨fun z=>?_,i2⟩
   obtain⟨x,hx,e⟩:=P9.mp z
   have:=(i1 x hx).2.1
   rw[e]at this
   exact this QI
theorem ik:∀(n:Nat)(l:List Nat),l.Nodup->(∀x∈l,x<n)->l.length<=n
 |0,l,_,h=>by
  cases l with
  |nil=>exact Qe _
  |cons x r=>exact absurd (h x QI) (Nat.not_lt_zero _)
 |n+1,l,nd,h=>by
  by_cases hn:n∈l
  ·have h1:=ik n (l.erase n) (nd.erase n) fun x hx=>by
    have h2:=(nd.mem_erase_iff).mp hx
    have h3:=h x h2.2
    omega
   rw[Xh hn]at h1
   omega
  ·have h1:=ik n l nd fun x hx=>by
    have h3:=h x hx
    have h4:x≠n:=fun e=>hn (e▸hx)
    omega
   omega
theorem ze{α:Type}[BEq α][LawfulBEq α]:∀{l m:List α},l.Nodup->(∀x∈l,x∈m)->l.length<=m.length
 |[],_,_,_=>Q3 _
 |x::r,m,nd,h=>by
  have hx:=h x QI
  obtain⟨n1,n2⟩:=RX.mp nd
  have h1:=ze (l:=r) (m:=m.erase x) n2 fun y hy=>by
   have hne:y≠x:=fun e=>n1 (e▸hy)
   exact(List.mem_erase_of_ne hne).mpr (h y (Qs _ hy))
  rw[Xh hx]at h1
  have:=Xn hx
  rw[QV]
  omega
theorem zf(u:Int)(W:Nat->Nat->Bool)(p:Nat->Int)(k:Nat)(L:Int):∀v:Nat,(∀i,i<v->u∣p i)->∃s q:Int,u∣s/\0<=q/\q<=v/\uk v W p k L=s+q*L/\uk v W p k (L-1)=s+q*(L-1)
 |0,_=>⟨0,0,XZ u,RU 0,by simp,by simp[uk,sumTo],by simp[uk,sumTo]⟩
 |v+1,h=>by
  obtain⟨s,q,h1,h2,h3,h4,h5⟩:=zf u W p k L v fun i hi=>h i (by omega)
  have hx:=h v (by omega)
  have e1:∀M,uk (v+1) W p k M=uk v W p k M+Bs W p k M v:=fun M=>eM v _
  rw[e1,e1,h4,h5]
  unfold Bs
  by_cases hw:W v k=true
  ·rw[if_pos hw,if_pos hw]
   rcases Sb (p v) L with c|c
   ·exists s+p v,q,YF h1 hx,h2,by omega,?_
    ·rw[Vh (by omega)];omega
    ·rw[Vh (by omega)];omega
   ·exists s,q+1,h1,by omega,by omega,?_
    ·rw[V7 (by omega),Va];omega
    ·rw[V7 (by omega),Va];omega
  ·rw[if_neg hw,if_neg hw]
   exact⟨s,q,h1,h2,by omega,by omega,by omega⟩
theorem Gm{v:Nat}{W:Nat->Nat->Bool}{p:Nat->Int}{k:Nat}{price L rest:Int}(hv:v<=20)(hd:∀i,i<v->rest*(mT v:Nat)∣p i)(hp:rest*(mT v:Nat)∣price)(a2:price<=uk v W p k L)(a3:uk v W p k (L-1)<price):uk v W p k L=price/\rest∣L:=by
 obtain⟨s,q,h1,h2,h3,h4,h5⟩:=zf _ W p k L v hd
 have hp0:1<=q:=by
  rcases Sb 0 q with c|c
  ·exact c
  ·have:q=0:=by omega
   subst this
   rw[Int.zero_mul]at h4 h5
   omega
 obtain⟨q,rfl⟩:∃q':Nat,q=q':=⟨q.toNat,by omega⟩
 obtain⟨b,hb⟩:=KR v (by omega) q (by omega) ⟨by omega,by omega⟩
 obtain⟨m,hm⟩:=UA hp h1
 have e:price-s=(q:Int)*(rest*((b:Int)*m)):=by
  rw[hm,hb,Int.natCast_mul]
  simp only[Int.mul_assoc,Tt,Int.mul_left_comm]
 have c1:rest*((b:Int)*m)<=L:=Int.le_of_mul_le_mul_left (a:=(q:Int)) (by omega) (by omega)
 have c2:L-1<rest*((b:Int)*m):=Int.lt_of_mul_lt_mul_left (a:=(q:Int)) (by omega) (by omega)
 have c3:L=rest*((b:Int)*m):=by omega
 rw[<-c3]at e
 exact⟨by omega,⟨_,c3⟩⟩
inductive gU(T:sg):(Nat->Int)->List Nat->List (Nat×Int)->Prop
 |stop {p:Nat->Int}{done:List Nat}:(∀k,k<T.n->k∉done->Hx T.v T.W p k<T.c k)->gU T p done []
 |step {p:Nat->Int}{done:List Nat}{k:Nat}{L:Int}{rest:List (Nat×Int)}:Nx T p done k L->uk T.v T.W p k L=T.c k->gU T (Em T.W p k L) (k::done) rest->gU T p done ((k,L)::rest)
theorem gU.run{T:sg}{p:Nat->Int}{done:List Nat}{s:List (Nat×Int)}(h:gU T p done s):Run T p done s:=by
 induction h with
 |stop h0=>exact .stop h0
 |step n _ _ ih=>exact .step n ih
theorem KZ{W:Nat->Nat->Bool}{p:Nat->Int}{k:Nat}{L r:Int}{i:Nat}(h:r∣p i)(hL:r∣L):r∣Em W p k L i:=by
 unfold Em Bs
 split
 ·rcases Int.le_total (p i) L with c|c
  ·rw[Vh c,Int.sub_self]
   exact XZ r
  ·rw[V7 c]
   exact UA h hL
 ·rw[Int.sub_zero]
  exact h
theorem jA{t a b:Nat}(h:a<=b):((t ^ a:Nat):Int)∣((t ^ b:Nat):Int):=by
 have:=Nat.pow_dvd_pow t h
 exact_mod_cast this
theorem Gp{T:sg}(hv:T.v<=20)(hc:∀k,k<T.n->((mT T.v ^ T.n:Nat):Int)∣T.c k){p:Nat->Int}{done:List Nat}{s:List (Nat×Int)}(h:Run T p done s):
  done.Nodup->(∀k∈done,k<T.n)->(∀i,i<T.v->((mT T.v ^ (T.n-done.length):Nat):Int)∣p i)->gU T p done s:=by
 induction h with
 |stop h0=>exact fun _ _ _=>.stop h0
 |@step p done k L rest n r ih=>
  intro nd hn hp
  have nd':(k::done).Nodup:=RX.mpr ⟨n.new,nd⟩
  have hn':∀j∈k::done,j<T.n:=fun j hj=>by
   rcases Qa.mp hj with e|e
   ·subst e;exact n.lt
   ·exact hn j e
  have hl:=ik T.n _ nd' hn'
  rw[QV]at hl
  have e:T.n-done.length=(T.n-(done.length+1))+1:=by omega
  have ep:((mT T.v ^ (T.n-done.length):Nat):Int)=((mT T.v ^ (T.n-(done.length+1)):Nat):Int)*((mT T.v:Nat):Int):=by
   rw[e,VL]
   push_cast
   rfl
  have a3:=n.least k n.lt n.new
  obtain⟨x1,x2⟩:=Gm (rest:=((mT T.v ^ (T.n-(done.length+1)):Nat):Int)) hv (fun i hi=>by rw[<-ep];exact hp i hi) (by rw[<-ep];exact Vf (jA (by omega)) (hc k n.lt)) n.enough a3
  refine .step n x1 (ih nd' hn' fun i hi=>?_)
  rw[QV]
  refine KZ (Vf ?_ (hp i hi)) x2
  exact jA (by omega)
noncomputable def lJ(rows:List (List Int))(ks:List Int):List Int:=((P4 rows.length).filter fun i=>ks.all fun k=>decide (k∈rows.getD i [])).map fun i:Nat=>(i:Int)
noncomputable def WR(rows:List (List Int))(i k:Nat):Bool:=decide ((k:Int)∈rows.getD i [])
noncomputable def PF(ps:List Int)(i:Nat):Int:=ps.getD i 0
theorem sum_filter{p:Nat->Bool}{f:Nat->Int}:∀n:Nat,(((P4 n).filter p).map f).sum=sumTo n fun i=>if p i=true then f i else 0
 |0=>rfl
 |n+1=>by
  rw[eM,S9,Wi,Rk,Uc,sum_filter n,SR]
  by_cases h:p n=true
  ·rw[if_pos h,if_pos h]
   simp
  ·rw[if_neg h,if_neg h]
   simp
noncomputable def oV:Option Int->V
 |none=>.non
 |some i=>.int i
theorem mE{k:Nat}{done:List Nat}:((k:Int)∈done.map fun k:Nat=>(k:Int))↔k∈done:=by
 constructor
 ·intro h
  obtain⟨j,hj,e⟩:=P9.mp h
  have:j=k:=by omega
  exact this▸hj
 ·exact fun h=>P9.mpr ⟨k,h,rfl⟩
noncomputable def BI(T:sg)(p:Nat->Int)(done:List Nat)(k:Nat):Option Int->Prop
 |none=>k∈done\/Hx T.v T.W p k<T.c k
 |some L=>k∉done/\1<=L/\T.c k<=uk T.v T.W p k L/\uk T.v T.W p k (L-1)<T.c k
noncomputable def gM(os:List (Option Int)):Option Nat->Prop
 |none=>∀o∈os,o=none
 |some k=>∃L,os[k]?=some (some L)/\∀j M,os[j]?=some (some M)->L<=M/\(j<k->L<M)
theorem AU{T:sg}{p:Nat->Int}{done:List Nat}{os:List (Option Int)}{k:Nat}{L:Int}(hl:os.length=T.n)(ho:∀j o,os[j]?=some o->BI T p done j o)(hp:∀i,i<T.v->0<=p i)(hc:∀j,j<T.n->1<=T.c j)(hk:os[k]?=some (some L))(hn:gM os (some k)):Nx T p done k L:=by
 obtain⟨L',e,hmin⟩:=hn
 rw[hk]at e
 have e:L=L':=QW (QW e)
 subst e
 have hkl:k<T.n:=by rw[<-hl];exact(QN.mp hk).1
 obtain⟨a1,a2,a3,a4⟩:=ho k _ hk
 have key:∀j,j<T.n->j∉done->∀M:Int,0<=M->T.c j<=uk T.v T.W p j M->∃N,os[j]?=some (some N)/\N<=M:=by
  intro j hj hjn M hM hle
  have hjl:j<os.length:=by omega
  have hoj:=ho j os[j] (by simp[hjl])
  cases e:os[j]with
  |none=>
   rw[e]at hoj
   rcases hoj with z|z
   ·exact absurd z hjn
   ·have:=vm T.v T.W p j M
    omega
  |some N=>
   rw[e]at hoj
   obtain⟨_,_,_,b4⟩:=hoj
   exists N,by rw[Qj hjl,e]
   rcases Sb M N with c|c
   ·have:=B5 (v:=T.v) (W:=T.W) (p:=p) (k:=j) (show M<=N-1 by omega)
    omega
   ·exact c
 refine⟨hkl,a1,a2,a3,fun j hj hjn=>?_,fun j hj hjn=>?_⟩
 ·rcases Sb (uk T.v T.W p j (L-1)) (T.c j)with c|c
  ·exact c
  ·obtain⟨N,h1,h2⟩:=key j hj hjn (L-1) (by omega) c
   have:=(hmin j N h1).1
   omega
 ·rcases Sb (uk T.v T.W p j L) (T.c j)with c|c
  ·exact c
  ·obtain⟨N,h1,h2⟩:=key j (by omega) hjn L (by omega) c
   have:=(hmin j N h1).2 hj
   omega
noncomputable def bP(cs:List Int)(rows:List (List Int)):sg:=⟨rows.length,cs.length,WR rows,fun k=>cs.getD k 0*((mT rows.length ^ (cs.length+1):Nat):Int)⟩
noncomputable def nE(rows:List (List Int))(ps:List Int)(k:Nat)(L:Int):List Int:=(P4 ps.length).map (Bs (WR rows) (PF ps) k L)
noncomputable def iI(rows:List (List Int))(ps:List Int)(k:Nat)(L:Int):List Int:=(P4 ps.length).map (Em (WR rows) (PF ps) k L)
noncomputable def aT(rows:List (List Int)):List Int->List (Nat×Int)->List (Nat×Int×List Int)
 |_,[]=>[]
 |ps,(k,L)::r=>(k,L,nE rows ps k L)::aT rows (iI rows ps k L) r
noncomputable def cF(rows:List (List Int)):List Int->List (Nat×Int)->List Int
 |ps,[]=>ps
 |ps,(k,L)::r=>cF rows (iI rows ps k L) r
theorem il(rows:List (List Int))(ps:List Int)(k:Nat)(L:Int):(iI rows ps k L).length=ps.length:=by simp[iI]
theorem Gv(rows:List (List Int))(ps:List Int)(k:Nat)(L:Int):(nE rows ps k L).length=ps.length:=by simp[nE]
theorem Na(n:Nat)(f:Nat->Int)(h:∀i,n<=i->f i=0):PF ((P4 n).map f)=f:=by
 funext i
 unfold PF
 by_cases hi:i<n
 ·simp[Qm,hi]
 ·rw[h i (by omega)]
  simp[Qm,hi]
theorem JY{rows:List (List Int)}{i k:Nat}(h:rows.length<=i):WR rows i k=false:=by
 unfold WR
 have:rows.getD i []=[]:=by simp[Qm,Sz h]
 rw[this]
 simp
theorem Ds{ps:List Int}{i:Nat}(h:ps.length<=i):PF ps i=0:=by
 unfold PF
 simp[Qm,Sz h]
theorem iX{rows:List (List Int)}{ps:List Int}{k:Nat}{L:Int}(h:ps.length=rows.length):PF (iI rows ps k L)=Em (WR rows) (PF ps) k L:=by
 refine Na _ _ fun i hi=>?_
 unfold Em Bs
 rw[JY (by omega),Ds hi]
 simp
theorem iK(rows:List (List Int)):∀(ps:List Int)(r:List (Nat×Int)),(aT rows ps r).length=r.length
 |_,[]=>rfl
 |ps,(k,L)::r=>by rw[aT,QV,QV,iK]
theorem jy(rows:List (List Int)):∀(ps:List Int)(r:List (Nat×Int)),∀x∈aT rows ps r,x.2.2.length=ps.length
 |_,[],x,h=>by simp[aT]at h
 |ps,(k,L)::r,x,h=>by
  rw[aT]at h
  rcases Qa.mp h with e|h
  ·subst e
   exact Gv rows ps k L
  ·rw[jy rows (iI rows ps k L) r x h,il]
theorem nX(rows:List (List Int)):∀(ps:List Int)(r:List (Nat×Int)),(cF rows ps r).length=ps.length
 |_,[]=>rfl
 |ps,(k,L)::r=>by rw[cF,nX rows _ r,il]
theorem vL(rows:List (List Int)):∀(ps:List Int)(r:List (Nat×Int))(k:Nat)(L:Int),cF rows ps (r++[(k,L)])=iI rows (cF rows ps r) k L
 |_,[],_,_=>rfl
 |ps,(j,M)::r,k,L=>by
  rw[Uo,cF,vL rows (iI rows ps j M) r k L,cF]
theorem xw(rows:List (List Int)):∀(ps:List Int)(r r':List (Nat×Int)),aT rows ps (r++r')=aT rows ps r++aT rows (cF rows ps r) r'
 |_,[],_=>rfl
 |ps,(k,L)::r,r'=>by
  rw[Uo,aT,aT,cF,xw rows (iI rows ps k L) r r']
  rfl
theorem qY(rows:List (List Int)):∀(ps:List Int)(r:List (Nat×Int)),(aT rows ps r).map (fun x=>(x.1,x.2.1))=r
 |_,[]=>rfl
 |ps,(k,L)::r=>by
  rw[aT,Qu,qY rows _ r]
structure IS(cs:List Int)(rows:List (List Int))(ps:List Int):Prop where
 c12:cs.length<=12
 cb:∀x∈cs,1<=x/\x<=1000000000000
 v1:1<=rows.length
 v20:rows.length<=20
 pl:ps.length=rows.length
 p0:∀p∈ps,0<=p
 pd:∀p∈ps,((mT rows.length ^ cs.length:Nat):Int)∣p
theorem Ic{ps:List Int}(h:∀p∈ps,0<=p)(i:Nat):0<=PF ps i:=by
 unfold PF
 by_cases hi:i<ps.length
 ·have e:ps.getD i 0=ps[i]:=by simp[Qm,hi]
  rw[e]
  exact h _ (RC hi)
 ·simp[Qm,Sz (VV hi)]
theorem LK{cs:List Int}{rows:List (List Int)}(h:∀x∈cs,1<=x/\x<=1000000000000):∀k,k<cs.length->1<=(bP cs rows).c k:=by
 intro k hk
 have h1:=h (cs.getD k 0) (by simp[Qm,hk])
 have h2:=fX rows.length (cs.length+1)
 have:1*1<=cs.getD k 0*((mT rows.length ^ (cs.length+1):Nat):Int):=Int.mul_le_mul h1.1 (by omega) (by decide) (by omega)
 show 1<=cs.getD k 0*((mT rows.length ^ (cs.length+1):Nat):Int)
 omega
theorem Oq(cs:List Int)(rows:List (List Int)):∀k,((mT rows.length ^ cs.length:Nat):Int)∣(bP cs rows).c k:=by
 intro k
 exact Vf (jA (Rz _)) ⟨cs.getD k 0,Tt _ _⟩
noncomputable def zW(H:Hp)(x:Nat×Int×List Int)(t:PK):Prop:=∃b:PK,H t=some (.tup [.int x.1,.int x.2.1,.ref b])/\H b=some (.lst (x.2.2.map V.int))
noncomputable def gW(H:Hp)(a:PK)(sts:List (Nat×Int×List Int)):Prop:=∃ts:List PK,H a=some (.lst (ts.map V.ref))/\Qd (zW H) sts ts
theorem CL{H H':Hp}(e:av H H'){x:Nat×Int×List Int}{t:PK}(h:zW H x t):zW H' x t:=by
 obtain⟨b,h1,h2⟩:=h
 exact⟨b,e _ _ h1,e _ _ h2⟩
theorem kK{H H':Hp}(e:av H H'){a:PK}{sts:List (Nat×Int×List Int)}(h:gW H a sts):gW H' a sts:=by
 obtain⟨ts,h1,h2⟩:=h
 exact⟨ts,e _ _ h1,Paired.mapP h2 fun _ _ q=>CL e q⟩
noncomputable def qF(H0 H:Hp)(l:PK)(x:Nat×Int×List Int)(t:PK):Prop:=∃b:PK,H0 t=none/\H0 b=none/\b≠l/\H t=some (.tup [.int x.1,.int x.2.1,.ref b])/\H b=some (.lst (x.2.2.map V.int))
noncomputable def iD(H0 H:Hp)(l:PK)(sts:List (Nat×Int×List Int)):Prop:=∃ts:List PK,H l=some (.lst (ts.map V.ref))/\Qd (qF H0 H l) sts ts
theorem iD.at{H0 H:Hp}{l:PK}{sts:List (Nat×Int×List Int)}(h:iD H0 H l sts):gW H l sts:=by
 obtain⟨ts,h1,h2⟩:=h
 exact⟨ts,h1,Paired.mapP h2 fun _ _ ⟨b,_,_,_,h3,h4⟩=>⟨b,h3,h4⟩⟩
theorem BG{T:sg}{p:Nat->Int}{d d':List Nat}{k:Nat}{L:Int}(h:∀j,j∈d'↔j∈d)(n:Nx T p d k L):Nx T p d' k L:=
 ⟨n.lt,fun z=>n.new ((h k).mp z),n.pos,n.enough,fun j hj hn=>n.least j hj fun z=>hn ((h j).mpr z),fun j hj hn=>n.first j hj fun z=>hn ((h j).mpr z)⟩
theorem Kg{rows:List (List Int)}{ps:List Int}{k:Nat}{L:Int}(h:∀p∈ps,0<=p):∀p∈iI rows ps k L,0<=p:=by
 intro p hp
 obtain⟨i,_,e⟩:=P9.mp hp
 rw[<-e]
 exact DN (Ic h i)
theorem B0{rows:List (List Int)}:∀{ps:List Int}{r:List (Nat×Int)},(∀p∈ps,0<=p)->∀p∈cF rows ps r,0<=p
 |_,[],h=>h
 |ps,(k,L)::r,h=>by
  rw[cF]
  exact B0 (Kg h)
theorem G2{cs:List Int}{rows:List (List Int)}{ps:List Int}(g:IS cs rows ps){s:List (Nat×Int)}(h:Run (bP cs rows) (PF ps) [] s):gU (bP cs rows) (PF ps) [] s:=by
 refine Gp g.v20 (fun k _=>Oq cs rows k) h Up (fun k hk=>by simp at hk) fun i hi=>?_
 have hi':i<ps.length:=by rw[g.pl];exact hi
 have:PF ps i∈ps:=by unfold PF;simp[Qm,hi']
 exact g.pd _ this
theorem pf{α β:Type}{F:α->β->Prop}:∀{xs:List α}{ts:List β},xs.length=ts.length->(∀(i:Nat)(x:α)(t:β),xs[i]?=some x->ts[i]?=some t->F x t)->Qd F xs ts
 |[],[],_,_=>.nil
 |[],_::_,h,_=>by simp at h
 |_::_,[],h,_=>by simp at h
 |x::r,u::q,hl,h=>.cons (h 0 x u rfl rfl) (pf (by simpa using hl) fun i y w e e'=>h (i+1) y w (by simpa using e) (by simpa using e'))
theorem zS{α:Type}{F:α->PK->Prop}{T:PK->Prop}{xs:List α}{ts:List PK}(h:Qd (fun i t=>T t/\∀x,xs[i]?=some x->F x t) (P4 xs.length) ts):Qd F xs ts:=by
 have hl:=Qw h
 rw[SQ]at hl
 refine pf hl fun i x t hx ht=>?_
 obtain⟨j,hj,hF⟩:=kL h ht
 have hi:i<xs.length:=(QN.mp hx).1
 have e:j=i:=by
  rw[List.getElem?_range hi]at hj
  exact(QW hj).symm
 subst e
 exact hF.2 x hx
noncomputable def N6(H0 H:Hp)(l:PK)(rows:List (List Int)):Prop:=∃bs:List PK,H l=some (.lst (bs.map V.ref))/\Qd (fun r b=>(H0 b=none/\b≠l)/\H b=some (.lst (r.map V.int))) rows bs
theorem MR{K:PM}{H:Hp}{a:PK}{rows:List (List Int)}{σ:St}{Q:VK}(h:gL K H a rows)(hz:rows.length<=1000)(hd:∀l H',H l=none->av H H'->N6 H H' l rows->Q (.ref l) H'):
  dq [none] (au 0) dv (gr (Aw K) (ae (af 0) az)) (Hw K a) σ H Q:=by
 obtain⟨bs,hB,hP⟩:=h
 have hbl:bs.length=rows.length:=(Qw hP).symm
 have hlm:(bs.map V.ref).length=bs.length:=P7 _
 refine gh (dE (xs:=bs.map V.ref) 0) (fun j=>[some ((bs.map V.ref).getD j .non)]) (by rintro j σ' (rfl|⟨k,rfl⟩)<;>rfl) (fun H' s=>s.seq hB) (by rw[hlm,hbl];exact P6 hz bo) (fun _=>true)
  (fun l i v H'=>∃b,v=.ref b/\(b≠l/\H b=none/\∀r,rows[i]?=some r->H' b=some (.lst (r.map V.int)))) (fun l i v H1 H2 s ⟨b,e,hl,h0,h⟩=>⟨b,e,hl,h0,fun r hr=>s _ _ hl (h r hr)⟩) (fun i hi H' G s k=>k H' (av.refl _)) ?_ ?_
 ·intro l j hj _ H' G hl ⟨o,ho⟩ s k
  rw[hlm]at hj
  have e:(bs.map V.ref).getD j .non=.ref bs[j]:=by simp[Qm,hj]
  rw[e]
  obtain⟨r,hr,hq⟩:=kL hP (show bs[j]?=some bs[j] by simp[hj])
  have hq':=s.seq hq
  walk_at "v"
  rename_i b J g t h
  exact k _ _ ⟨b,rfl,(fun z=>by rw[z,ho]at g;cases g),s.free g,fun r' hr'=>by rw[hr]at hr';cases hr';exact h⟩ t
 ·intro l ys H' f s h pr
  rw[Sd.mpr (fun _ _=>rfl)]at pr
  obtain⟨tk,rfl,pk⟩:=jz (T:=fun b i=>b≠l/\H b=none/\∀r,rows[i]?=some r->H' b=some (.lst (r.map V.int))) pr
  refine hd l H' f s ⟨tk,h,?_⟩
  rw[hlm,hbl]at pk
  refine zS (T:=fun b=>b≠l/\H b=none) (Paired.mapP pk fun i b q=>⟨⟨q.1,q.2.1⟩,fun r hr=>⟨⟨q.2.1,q.1⟩,q.2.2 r hr⟩⟩)
noncomputable def bL(ps:List Int)(sts:List (Nat×Int×List Int)):List Int:=(P4 ps.length).map fun i=>ps.getD i 0-(sts.map fun x=>x.2.2.getD i 0).sum
theorem BA{H:Hp}:∀{sts:List (Nat×Int×List Int)}{ts:List PK},Qd (zW H) sts ts->∃bs:List PK,bs.length=sts.length/\∀(i:Nat)(x:Nat×Int×List Int),sts[i]?=some x->∃t b,ts[i]?=some t/\bs[i]?=some b/\H t=some (.tup [.int x.1,.int x.2.1,.ref b])/\H b=some (.lst (x.2.2.map V.int))
 |_,_,.nil=>⟨[],rfl,fun i x h=>by simp at h⟩
 |_,t::_,.cons ⟨b,h1,h2⟩ r=>by
  obtain⟨bs,e,h⟩:=BA r
  refine⟨b::bs,by simp[e],fun i x hx=>?_⟩
  cases i with
  |zero=>
   simp at hx
   subst hx
   exact⟨t,b,rfl,rfl,h1,h2⟩
  |succ i=>exact h i x (by simpa using hx)
structure vx(H:Hp)(l:PK)(sts:List (Nat×Int×List Int))(ts bs:List PK):Prop where
 lst:H l=some (.lst (ts.map V.ref))
 tl:ts.length=sts.length
 bl:bs.length=sts.length
 ats:∀(i:Nat)(x:Nat×Int×List Int),sts[i]?=some x->∃t b,ts[i]?=some t/\bs[i]?=some b/\H t=some (.tup [.int x.1,.int x.2.1,.ref b])/\H b=some (.lst (x.2.2.map V.int))
theorem gW.b{H:Hp}{l:PK}{sts:List (Nat×Int×List Int)}(h:gW H l sts):∃ts bs,vx H l sts ts bs:=by
 obtain⟨ts,h1,h2⟩:=h
 obtain⟨bs,e,h3⟩:=BA h2
 exact⟨ts,bs,h1,(Qw h2).symm,e,h3⟩
noncomputable def stN:Nat×Int×List Int:=(0,0,[])
theorem vx.ys{K:PM}{H H':Hp}{l:PK}{sts:List (Nat×Int×List Int)}{ts bs:List PK}(B:vx H l sts ts bs)(s:av H H'):
  aY K H' l (ts.map V.ref)/\∀i t,ts[i]?=some t->kN K H' t [.int ((sts.getD i stN).1:Nat),.int (sts.getD i stN).2.1,.ref (bs.getD i 0)]:=by
 refine⟨aY.of (s _ _ B.lst),fun i t ht=>?_⟩
 have hi:i<sts.length:=by rw[<-B.tl];exact(QN.mp ht).1
 obtain⟨t',b,a1,a2,a3,_⟩:=B.ats i sts[i] (by simp[hi])
 rw[ht]at a1
 cases a1
 have e1:sts.getD i stN=sts[i]:=by simp[Qm,hi]
 have e2:bs.getD i 0=b:=by rw[Qm,a2];rfl
 rw[e1,e2]
 exact kN.of (s _ _ a3)
theorem vx.paid{K:PM}{H H':Hp}{l:PK}{sts:List (Nat×Int×List Int)}{ts bs:List PK}(B:vx H l sts ts bs)(s:av H H'){i:Nat}(hi:i<sts.length):aY K H' (bs.getD i 0) ((sts.getD i stN).2.2.map V.int):=by
 obtain⟨t',b,a1,a2,_,a4⟩:=B.ats i sts[i] (by simp[hi])
 have e1:sts.getD i stN=sts[i]:=by simp[Qm,hi]
 have e2:bs.getD i 0=b:=by rw[Qm,a2];rfl
 rw[e1,e2]
 exact aY.of (s _ _ a4)
theorem Jn:gM [] none:=fun o h=>by simp at h
theorem F3{os:List (Option Int)}{k:Option Nat}(h:gM os k):gM (os++[none]) k:=by
 cases k with
 |none=>
  intro o ho
  rcases QC.mp ho with h1|h1
  ·exact h o h1
  ·simpa using h1
 |some k=>
  obtain⟨L,h1,h2⟩:=h
  have hk:=(QN.mp h1).1
  refine⟨L,by rw[Sh hk];exact h1,fun j M hj=>?_⟩
  by_cases hjl:j<os.length
  ·rw[Sh hjl]at hj
   exact h2 j M hj
  ·rw[S8 (by omega)]at hj
   cases e:j-os.length with
   |zero=>rw[e]at hj;simp at hj
   |succ n=>rw[e]at hj;simp at hj
theorem DK{os:List (Option Int)}{M:Int}(h:gM os none):gM (os++[some M]) (some os.length):=by
 refine⟨M,by simp,fun j N hj=>?_⟩
 by_cases hjl:j<os.length
 ·rw[Sh hjl]at hj
  have:=h _ (Tv hj)
  cases this
 ·rw[S8 (by omega)]at hj
  cases e:j-os.length with
  |zero=>
   rw[e]at hj
   have:M=N:=by simpa using hj
   subst this
   exact⟨RU _,fun z=>by omega⟩
  |succ n=>rw[e]at hj;simp at hj
theorem Hr{os:List (Option Int)}{k:Nat}{L M:Int}(h:gM os (some k))(hk:os[k]?=some (some L))(hM:M<L):gM (os++[some M]) (some os.length):=by
 obtain⟨L',h1,h2⟩:=h
 rw[hk]at h1
 cases h1
 refine⟨M,by simp,fun j N hj=>?_⟩
 by_cases hjl:j<os.length
 ·rw[Sh hjl]at hj
  have:=(h2 j N hj).1
  exact⟨by omega,fun _=>by omega⟩
 ·rw[S8 (by omega)]at hj
  cases e:j-os.length with
  |zero=>
   rw[e]at hj
   have:M=N:=by simpa using hj
   subst this
   exact⟨RU _,fun z=>by omega⟩
  |succ n=>rw[e]at hj;simp at hj
theorem Gy{os:List (Option Int)}{k:Nat}{L M:Int}(h:gM os (some k))(hk:os[k]?=some (some L))(hM:¬M<L):gM (os++[some M]) (some k):=by
 have hkl:=(QN.mp hk).1
 obtain⟨L',h1,h2⟩:=h
 rw[hk]at h1
 cases h1
 refine⟨L,by rw[Sh hkl];exact hk,fun j N hj=>?_⟩
 by_cases hjl:j<os.length
 ·rw[Sh hjl]at hj
  exact h2 j N hj
 ·rw[S8 (by omega)]at hj
  cases e:j-os.length with
  |zero=>
   rw[e]at hj
   have:M=N:=by simpa using hj
   subst this
   exact⟨by omega,fun z=>by omega⟩
  |succ n=>rw[e]at hj;simp at hj
noncomputable def dz(rows:List (List Int))(k:Nat):List Nat:=(P4 rows.length).filter fun i=>WR rows i k
theorem vQ(rows:List (List Int))(k:Nat):lJ rows [(k:Int)]=(dz rows k).map fun i:Nat=>(i:Int):=by
 unfold lJ dz WR
 congr 2
 funext i
 simp
theorem xy{rows:List (List Int)}{k i:Nat}:((i:Int)∈lJ rows [(k:Int)])↔WR rows i k=true:=by
 rw[vQ,mE]
 unfold dz
 rw[QL]
 constructor
 ·exact fun h=>h.2
 ·intro h
  refine⟨Q6.mpr ?_,h⟩
  rcases XC i rows.length with c|c
  ·exact c
  ·rw[JY c]at h
   cases h
theorem BW(rows:List (List Int))(ps:List Int)(k:Nat):((dz rows k).map (PF ps)).sum=Hx rows.length (WR rows) (PF ps) k:=by
 unfold dz
 rw[sum_filter]
 rfl
theorem JL(rows:List (List Int))(ps:List Int)(k:Nat)(L:Int):C7 ((dz rows k).map (PF ps)) L=uk rows.length (WR rows) (PF ps) k L:=by
 unfold C7 dz
 rw[Qn,sum_filter]
 rfl
theorem Hh(rows:List (List Int))(k:Nat):(dz rows k).length<=rows.length:=by
 unfold dz
 have:=RB (fun i=>WR rows i k) (P4 rows.length)
 rwa [SQ]at this
theorem Kc{rows:List (List Int)}{k i:Nat}(h:i∈dz rows k):i<rows.length:=Q6.mp (QL.mp h).1
theorem zN(rows:List (List Int)):∀(r:List (Nat×Int))(ps:List Int)(i:Nat),i<ps.length->(cF rows ps r).getD i 0=ps.getD i 0-((aT rows ps r).map fun x=>x.2.2.getD i 0).sum
 |[],ps,i,_=>by simp[cF,aT]
 |(k,L)::r,ps,i,hi=>by
  rw[cF,zN rows r (iI rows ps k L) i (by rw[il];exact hi),aT,Qu,Rb]
  have e1:(iI rows ps k L).getD i 0=ps.getD i 0-Bs (WR rows) (PF ps) k L i:=by
   unfold iI
   simp[Qm,hi,Em,PF]
  have e2:(nE rows ps k L).getD i 0=Bs (WR rows) (PF ps) k L i:=by
   unfold nE
   simp[Qm,hi]
  rw[e1,e2]
  omega
theorem hZ(rows:List (List Int))(ps:List Int)(r:List (Nat×Int)):bL ps (aT rows ps r)=cF rows ps r:=by
 apply SI
 ·unfold bL
  rw[P7,SQ,nX]
 ·intro i h1 h2
  have hi:i<ps.length:=by rw[nX]at h2;exact h2
  have:=zN rows r ps i hi
  have e:(cF rows ps r).getD i 0=(cF rows ps r)[i]:=by simp[Qm,h2]
  rw[e]at this
  rw[this]
  unfold bL
  simp
theorem vR(rows:List (List Int))(ps:List Int)(r:List (Nat×Int)):(aT rows ps r).map (·.1)=r.map (·.1):=by
 have:=congrArg (Ry (·.1)) (qY rows ps r)
 rw[Qn]at this
 exact this
structure Pre(cs:List Int)(rows:List (List Int))(ps:List Int)(r:List (Nat×Int)):Prop where
 nd:(r.map (·.1)).Nodup
 lt:∀x∈r,x.1<cs.length
 on:∀rest,Run (bP cs rows) (PF (cF rows ps r)) (r.map (·.1)).reverse rest->Run (bP cs rows) (PF ps) [] (r++rest)
theorem FC(cs:List Int)(rows:List (List Int))(ps:List Int):Pre cs rows ps []:=⟨Up,fun _ h=>by simp at h,fun _ h=>h⟩
theorem Pre.len{cs:List Int}{rows:List (List Int)}{ps:List Int}{r:List (Nat×Int)}(h:Pre cs rows ps r):r.length<=cs.length:=by
 have:=ik cs.length _ h.nd fun x hx=>by
  obtain⟨y,hy,e⟩:=P9.mp hx
  rw[<-e]
  exact h.lt y hy
 rwa [P7]at this
theorem Pre.snoc{cs:List Int}{rows:List (List Int)}{ps:List Int}{r:List (Nat×Int)}{k:Nat}{L:Int}(h:Pre cs rows ps r)(hl:ps.length=rows.length)(n:Nx (bP cs rows) (PF (cF rows ps r)) (r.map (·.1)) k L):Pre cs rows ps (r++[(k,L)]):=by
 exists ?_,?_
 ·rw[Rk]
  refine Wz.mpr ⟨h.nd,by simp,?_⟩
  intro a ha b hb e
  have:b=k:=by simpa using hb
  subst this
  subst e
  exact n.new ha
 ·intro x hx
  rcases QC.mp hx with z|z
  ·exact h.lt x z
  ·have:x=(k,L):=by simpa using z
   subst this
   exact n.lt
 ·intro rest hr
  rw[vL,iX (by rw[nX];exact hl),Rk,List.reverse_append]at hr
  have hr:Run (bP cs rows) (Em (WR rows) (PF (cF rows ps r)) k L) (k::(r.map (·.1)).reverse) rest:=hr
  have:=h.on ((k,L)::rest) (.step (BG (fun j=>by simp) n) hr)
  rwa [Wg]
theorem Pre.stop{cs:List Int}{rows:List (List Int)}{ps:List Int}{r:List (Nat×Int)}(h:Pre cs rows ps r)(n:∀k,k<cs.length->k∉r.map (·.1)->Hx rows.length (WR rows) (PF (cF rows ps r)) k<(bP cs rows).c k):Run (bP cs rows) (PF ps) [] r:=by
 have:=h.on [] (.stop fun k hk hn=>n k hk fun z=>hn (by simpa using z))
 rwa [TR]at this
theorem DU{ps:List Int}{i:Nat}(h:i<ps.length):(ps.map V.int)[i]?=some (V.int (PF ps i)):=by
 unfold PF
 simp[Qm,h]
theorem AR{H0 H:Hp}{ls:PK}{o:HO}{xs:List V}{sts:List (Nat×Int×List Int)}{ts:List PK}(h:Qd (qF H0 H ls) sts ts)(hl:H ls=some (.lst xs)):Qd (qF H0 (upd H ls o) ls) sts ts:=by
 refine Paired.mapP h fun x t ⟨b,z1,z2,z3,z4,z5⟩=>⟨b,z1,z2,z3,?_,?_⟩
 ·rw[ak fun e=>by rw[e,hl]at z4;cases z4]
  exact z4
 ·rw[ak z3]
  exact z5
noncomputable def mw(c:Nat):Bool:=decide (48<=c)&&decide (c<=57)
noncomputable def Jk(cs:List Nat):Bool:=if cs.head?=some 48 then decide (cs=[48])else(decide (1<=cs.length)&&decide (cs.length<=13))&&cs.all mw
noncomputable def i8(z:PH):Bool:=Jk z.cps.toList
noncomputable def aV(z:PH):Prop:=z.cps.all (· < 128)=true
theorem JA{cs:List Nat}(h:Jk cs=true):Vu cs/\cs≠[]/\cs.length<=13/\(cs.length=1\/∃c r,cs=c::r/\49<=c):=by
 unfold Jk at h
 split at h
 ·have e:=of_decide_eq_true h
  subst e
  exact⟨fun c hc=>by simp at hc;omega,by simp,by decide,.inl rfl⟩
 ·rename_i hh
  simp only[QX,decide_eq_true_eq,Ru]at h
  obtain⟨⟨h1,h2⟩,h3⟩:=h
  have hd:Vu cs:=fun c hc=>by
   have:=h3 c hc
   simpa[mw]using this
  cases cs with
  |nil=>simp at h1
  |cons c r=>
   refine⟨hd,by simp,h2,.inr ⟨c,r,rfl,?_⟩⟩
   have:=hd.head
   have hc:c≠48:=fun z=>hh (by rw[z];rfl)
   omega
theorem JK:∀(cs:List Nat)(a:Nat),Vu cs->cs.foldl (fun acc c=>acc*10+(c-48)) a<(a+1)*10 ^ cs.length
 |[],a,_=>by simp
 |c::cs,a,h=>by
  have h1:=h.head
  have h2:=JK cs (a*10+(c-48)) h.tail
  have h3:(a*10+(c-48)+1)*10 ^ cs.length<=(a+1)*10 ^ (c::cs).length:=by
   rw[QV,VL,Xl (10 ^ cs.length) 10,<-Nat.mul_assoc]
   exact SD _ (by omega)
  exact QE h2 h3
theorem xC{z:PH}(h:i8 z=true):∃n:Int,0<=n/\n.natAbs.log2<1920/\Wf z=some n/\((toString n:String):PH)=z/\z.length<=13:=by
 obtain⟨h1,h2,h3,h4⟩:=JA h
 have hl:z.cps.toList.length=z.length:=by simp[UC]
 refine⟨(S6 z.cps.toList:Nat),by omega,?_,PySem.intText_digits h1 h2 (by omega),?_,by omega⟩
 ·have hb:S6 z.cps.toList<10 ^ 13:=by
   have:=JK z.cps.toList 0 h1
   have hp:10 ^ z.cps.toList.length<=10 ^ 13:=Yz (by decide) h3
   unfold S6
   omega
  rw[YM]
  have:(S6 z.cps.toList).log2<=60:=by
   by_cases e:S6 z.cps.toList=0
   ·rw[e];decide
   ·exact SN ((Vn e).mpr (QE hb (by decide)))
  omega
 ·have e:=Y7 (z.cps.toList.length-1) z.cps.toList (by have:=TM.mpr h2;omega) h1 (by rcases h4 with h4|h4;exact .inl (by omega);exact .inr h4)
  have e2:=XT (S6 z.cps.toList)
  refine WK ?_
  apply WW
  rw[show(((toString ((S6 z.cps.toList:Nat):Int):String):PH)).cps.toList=_ from e2,e,Qn]
  have:∀c∈z.cps.toList,(UP ∘ VY) c=c:=fun c hc=>by
   have:=h1 c hc
   have hv:c.isValidChar:=.inl (by omega)
   show(VY c).toNat=c
   rw[VY,dif_pos hv]
   rfl
  rw[Sw this,UI]
noncomputable def uE:Bool->List Nat->Bool
 |b,[]=>b
 |b,c::t=>if c=32 then(b || uE true t)else uE false t
noncomputable def dR:List (List Nat)->List Nat
 |[]=>[]
 |[p]=>p
 |p::q::r=>p++32::dR (q::r)
theorem vK:∀(p t:List Nat)(b:Bool),32∉p->p≠[]->uE b (p++32::t)=uE true t/\uE b p=false
 |[],_,_,_,h=>absurd rfl h
 |c::p,t,b,h,_=>by
  have hc:c≠32:=fun z=>h (by simp[z])
  have hp:32∉p:=fun z=>h (by simp[z])
  cases p with
  |nil=>simp[uE,hc]
  |cons d p=>
   have ih:=vK (d::p) t false hp (by simp)
   exact⟨by rw[Uo,uE,if_neg hc];exact ih.1,by rw[uE,if_neg hc];exact ih.2⟩
theorem BK:∀(ps:List (List Nat)),ps≠[]->(∀p∈ps,32∉p)->(uE true (dR ps)=true↔[]∈ps)
 |[],h,_=>absurd rfl h
 |[p],_,hp=>by
  by_cases e:p=[]
  ·subst e;simp[dR,uE]
  ·have:=(vK p [] true (hp p (by simp)) e).2
   simp only[dR,this]
   simp
   exact fun z=>e z
 |p::q::r,_,hp=>by
  have ih:=BK (q::r) (by simp) (fun x hx=>hp x (by simp[Qa.mp hx]))
  by_cases e:p=[]
  ·subst e;simp[dR,uE]
  ·rw[dR,(vK p _ true (hp p (by simp)) e).1,ih]
   constructor
   ·exact fun h=>Qs _ h
   ·intro h
    rcases Qa.mp h with h|h
    ·exact absurd h.symm e
    ·exact h
theorem zC:(" ":PH)=⟨#[32]⟩:=by decide +kernel
theorem zq:("0":PH)=⟨#[48]⟩:=by decide +kernel
theorem zV:("":PH)=⟨#[]⟩:=by decide +kernel
theorem iM{a b:PH}:a=b↔a.cps.toList=b.cps.toList:=⟨fun h=>by rw[h],fun h=>WK (WW h)⟩
theorem aP(z:PH):z.cps.toList.length=z.length:=by simp[UC]
theorem CS(x y:PH):QK x y≠[]:=by
 unfold QK
 split
 ·simp
 ·split
  ·simp
  ·intro h
   have:=congrArg Tz h
   rw[PySem.length_partsBetween]at this
   simp at this
theorem iA:∀ps:List PH,(QO ⟨#[32]⟩ ps).cps.toList=dR (ps.map (·.cps.toList))
 |[]=>rfl
 |[x]=>rfl
 |x::y::r=>by
  have ih:=iA (y::r)
  show((x++(⟨#[32]⟩:PH)++QO ⟨#[32]⟩ (y::r)).cps).toList=x.cps.toList++32::dR ((y::r).map (·.cps.toList))
  rw[Ue,Ue,<-ih]
  simp
theorem GS(z:PH):("":PH)∈QK z " "↔uE true z.cps.toList=true:=by
 rw[zC]
 have h:=BK ((QK z ⟨#[32]⟩).map (·.cps.toList)) (fun e=>CS _ _ (Wh.mp e)) (fun p hp=>by
  obtain⟨x,hx,rfl⟩:=P9.mp hp
  exact WB z 32 x hx)
 rw[<-iA,Uh]at h
 rw[h,P9]
 constructor
 ·intro e
  exact⟨_,e,by rw[zV]⟩
 ·rintro⟨x,hx,e⟩
  have:x=("":PH):=by rw[zV];exact iM.mpr e
  rw[<-this]
  exact hx
theorem zG:∀ps:List (List Nat),ps.length<=(dR ps).length+1
 |[]=>by simp
 |[p]=>by simp
 |p::q::r=>by
  have:=zG (q::r)
  simp only[dR,QU,QV]at *
  omega
theorem split_len(z:PH):(QK z " ").length<=z.length+1:=by
 rw[zC]
 have h:=zG ((QK z ⟨#[32]⟩).map (·.cps.toList))
 rw[<-iA,Uh,P7,aP]at h
 exact h
theorem repr_fits{z:PH}(ha:aV z)(hz:z.length<=100000):(Uw z).length<=1000002:=by
 have:=Zd z (fun c hc=>by
  have:=Array.all_eq_true'.mp ha c (by simpa using hc)
  have:=of_decide_eq_true this
  exact Uy this (by decide))
 omega
theorem Be{a:PH}{xs:List PH}:L2.NG (.str a) (xs.map V.str)=decide (a∈xs):=by
 unfold L2.NG
 rw[Xa,Ri,Wa,decide_eq_true_eq]
 constructor
 ·rintro⟨y,hy,e⟩
  have e:(y==a)=true:=e
  rw[<-eq_of_beq e]
  exact hy
 ·intro h
  exact⟨a,h,by show(a==a)=true;simp⟩
theorem sV(xs:List PH):(xs.map V.str).all L2.oS=true:=by
 rw[Uu,Ru]
 intro x _
 rfl
theorem Ie(z:PH):(decide (0+("0":PH).length<=z.length)&&aaw z "0" 0)=decide (z.cps.toList.head?=some 48):=by
 rw[zq,Ri,QX,decide_eq_true_eq,decide_eq_true_eq,Ze z 48 0]
 cases z.cps.toList<;>simp
theorem Kp(c:Nat):(!(TQ ("0123456789":PH) ⟨#[c]⟩ 0 ("0123456789":PH).length 1).isEmpty)=mw c:=by
 rw[W0,show("0123456789":PH).cps.toList=YD 48 10 by decide +kernel,Ri]
 simp only[mw,decide_eq_true_eq,QX,XF]
 omega
section
variable {H:Hp}{Q:VK}{z a b:PH}
theorem size_eq:PZ=16777216:=by decide
theorem i9(h:a.length+b.length<=16777216)(q:Q (.str (a++b)) H):dh (.str a) (.str b) H Q:=⟨a,b,rfl,rfl,by rw[size_eq];exact h,q⟩
theorem Nk(h:z.length<=16777216)(q:Q (.int z.length) H):vq [.str z] H Q:=⟨z,rfl,by rw[size_eq];exact h,q⟩
theorem Oh(q:Q (.bl (!(TQ b a 0 b.length 1).isEmpty)) H):HN (.str a) (.str b) H Q:=⟨a,b,rfl,rfl,q⟩
theorem OI{lo hi:Option Int}(h:z.length<=16777216)(q:Q (.str (QJ z lo hi)) H):qx (.str z) lo hi H Q:=⟨z,rfl,by rw[size_eq];exact h,q⟩
theorem Od(q:Q (.bl (decide (a=b))) H):oA (.str a) (.str b) H Q:=⟨rfl,by
 have e:decide (V.str a=V.str b)=decide (a=b):=by rw[Ri];simp
 rw[e];exact q⟩
theorem ON(q:Q (.bl (!decide (a=b))) H):LL (.str a) (.str b) H Q:=⟨rfl,by
 have e:decide (V.str a=V.str b)=decide (a=b):=by rw[Ri];simp
 rw[e];exact q⟩
theorem Lr{tl:TE}{σ:St}{R:It->Hp->Prop}(h:tl σ H fun v H1=>∃x:PH,v=.str x/\x.cps.all (· < 128)=true/\R (OU x) H1):Fv tl σ H R:=h
theorem HX(q:Q (.bl (decide (z.cps.toList.head?=some 48))) H):uX (.str z) [.str "0"] H Q:=⟨z,"0",rfl,rfl,by rw[Ie];exact q⟩
theorem xv{i:Int}(h:i.natAbs.log2<1920)(q:Q (.str (toString i:String)) H):qm [.int i] H Q:=⟨i,rfl,h,q⟩
end
local macro_rules | `(tactic| walk_at "early") => `(tactic| first
 |((with_reducible show LS _ "str" (V.str _) _/\_);refine⟨rfl,?_⟩)
 |((with_reducible show vq _ _ _);refine Nk (by omega) ?_)
 |((with_reducible show dh _ _ _ _);refine i9 (by omega) ?_)
 |((with_reducible show HN _ _ _ _);refine Oh ?_)
 |((with_reducible show qx _ _ _ _ _);refine OI (by omega) ?_)
 |with_reducible refine Lr ?_
 |((with_reducible show uX _ _ _ _);refine HX ?_)
 |((with_reducible show oA (V.str _) (V.str _) _ _);refine Od ?_)
 |((with_reducible show LL (V.str _) (V.str _) _ _);refine ON ?_))
theorem du{z:PH}:aV z↔∀c∈z.cps.toList,c<128:=by
 unfold aV
 rw[<-YB,Ru]
 exact⟨fun h c hc=>of_decide_eq_true (h c hc),fun h c hc=>decide_eq_true (h c hc)⟩
theorem cV(a b:PH):(a++b).cps.toList=a.cps.toList++b.cps.toList:=by rw[Ue];simp
theorem bq{a b:PH}(ha:aV a)(hb:aV b):aV (a++b):=by
 rw[du,cV]
 intro c hc
 rcases QC.mp hc with h|h
 ·exact du.mp ha c h
 ·exact du.mp hb c h
theorem fU{sep:PH}(hs:aV sep):∀{xs:List PH},(∀x∈xs,aV x)->aV (QO sep xs)
 |[],_=>by rw[du];intro c hc;cases hc
 |[x],h=>h x (by simp)
 |x::y::r,h=>bq (bq (h x (by simp)) hs) (fU hs fun z hz=>h z (Qs _ hz))
theorem B2(sep:PH)(m:Nat):∀(xs:List PH)(a:Nat),(∀x∈xs,x.length<=m)->xs.foldl (fun n x=>n+x.length+sep.length) a<=a+xs.length*(m+sep.length)
 |[],a,_=>by simp
 |x::xs,a,h=>by
  have h1:=h x (by simp)
  have ih:=B2 sep m xs (a+x.length+sep.length) fun y hy=>h y (Qs _ hy)
  have e:(x::xs).length*(m+sep.length)=xs.length*(m+sep.length)+(m+sep.length):=by rw[QV,Xy,Xf]
  rw[e]
  simp only[Yq]
  omega
theorem j0{sep:PH}{m:Nat}:∀{xs:List PH},(∀x∈xs,x.length<=m)->(QO sep xs).length<=xs.length*(m+sep.length)
 |[],_=>by show(Qp:PH).length<=_;exact Q3 _
 |[x],h=>by
  have:=h x (by simp)
  show x.length<=1*_
  omega
 |x::y::r,h=>by
  have h1:=h x (by simp)
  have ih:=j0 (sep:=sep) (xs:=y::r) fun z hz=>h z (Qs _ hz)
  show(x++sep++QO sep (y::r)).length<=_
  rw[Qv,Qv,show(x::y::r).length=(y::r).length+1 from rfl,Xy,Xf]
  omega
theorem pA{K:PM}{H:Hp}{Q:VK}{sep:PH}{p:PK}{xs:List PH}(m:Nat)(hS:aY K H p (xs.map V.str))(hx:∀x∈xs,x.length<=m)(hb:xs.length*(m+sep.length)<=16777216)(q:Q (.str (QO sep xs)) H):rJoin K (.str sep) [.ref p] H Q:=by
 have e:=ZQ sep xs
 exists sep,p,xs,rfl,rfl,hS,?_,?_
 ·have h:=B2 sep m xs 0 hx
  refine decide_eq_false ?_
  rw[size_eq]
  simp only[List.foldl_toArray',Q0]
  omega
 ·rw[e,size_eq]
  exact P6 (j0 hx) hb
 ·rw[e]
  exact q
theorem Bk(c:Nat):(⟨#[c]⟩:PH).length=1:=rfl
theorem Fq{l:List Nat}{w:Int}(h0:0<=w)(h1:w.toNat<l.length):xU l w=some (l.getD w.toNat 0):=by
 have h:l[w.toNat]?=some (l.getD w.toNat 0):=by rw[QD,Qj h1];rfl
 have:=bM h
 rw[V5 h0]at this
 exact this
theorem xu:∀{ps:List (List Nat)}{p:List Nat},p∈ps->p.length<=(dR ps).length
 |[],_,h=>nomatch h
 |[p],q,h=>by
  have:q=p:=by simpa using h
  subst this
  exact Qe _
 |p::q::r,x,h=>by
  rcases Qa.mp h with rfl|h
  ·simp only[dR,QU];omega
  ·have:=xu h
   simp only[dR,QU,QV]
   omega
theorem JS{z p:PH}(h:p∈QK z " "):p.length<=z.length:=by
 have e:=Uh z ⟨#[32]⟩
 rw[zC]at h
 have:=xu (XA (f:=fun x:PH=>x.cps.toList) h)
 rw[<-iA,e,aP,aP]at this
 exact this
theorem zK:∀{ps:List (List Nat)}{p:List Nat}{c:Nat},p∈ps->c∈p->c∈dR ps
 |[],_,_,h,_=>nomatch h
 |[p],q,c,h,hc=>by
  have:q=p:=by simpa using h
  subst this
  exact hc
 |p::q::r,x,c,h,hc=>by
  rcases Qa.mp h with rfl|h
  ·simp only[dR,QC];exact .inl hc
  ·have:=zK h hc
   simp only[dR,QC,Qa]
   exact .inr (.inr this)
theorem DG{z p:PH}(ha:aV z)(h:p∈QK z " "):aV p:=by
 have e:=Uh z ⟨#[32]⟩
 rw[zC]at h
 rw[du]
 intro c hc
 have:=zK (XA (f:=fun x:PH=>x.cps.toList) h) hc
 rw[<-iA,e]at this
 exact du.mp ha c this
theorem tR{x:PH}(h:aV x):Vx x=true:=by
 unfold Vx
 rw[<-YB,Ru]
 intro c hc
 have:=du.mp h c hc
 exact decide_eq_true (by omega)
theorem KW(h:Option Int)(n:Nat):Te none h 1 n=Te (some ((0:Nat):Int)) h 1 n:=by
 have e:max (0:Int) (min 0 (n:Int))=0:=by omega
 simp[Te,e]
noncomputable def b7(l:List PK)(H H':Hp):Prop:=(∀a o,a∉l->H a=some o->H' a=some o)/\(∀a xs,H a=some (.tup xs)->H' a=some (.tup xs))/\∀a,H' a=none->H a=none
section
variable {H H1 H2:Hp}{l l':List PK}
theorem b7.of(s:av H H1):b7 l H H1:=⟨fun a o _ h=>s a o h,fun a xs h=>s a _ h,fun _ h=>s.free h⟩
theorem b7.trans(a:b7 l H H1)(b:b7 l H1 H2):b7 l H H2:=⟨fun c o n h=>b.1 c o n (a.1 c o n h),fun c xs h=>b.2.1 c xs (a.2.1 c xs h),fun c h=>a.2.2 c (b.2.2 c h)⟩
theorem b7.mono(a:b7 l H H1)(h:∀c∈l,c∈l'):b7 l' H H1:=⟨fun c o n q=>a.1 c o (fun z=>n (h c z)) q,a.2.1,a.2.2⟩
theorem b7.upd{a:PK}{o o':HO}(h:H a=some o)(ht:∀xs,o≠.tup xs)(m:a∈l):b7 l H (L2.upd H a o'):=by
 refine⟨fun c u n q=>?_,fun c xs q=>?_,fun c q=>?_⟩
 ·rw[ak (fun z=>n (by rw[z];exact m))];exact q
 ·rw[ak (fun z=>by rw[z,h]at q;exact ht xs (QW q))];exact q
 ·by_cases z:c=a
  ·rw[z,ax]at q;cases q
  ·rw[ak z]at q;exact q
noncomputable def ji(l l':List PK)(H:Hp):Prop:=∀a∈l',a∈l\/H a=none
theorem ji.refl:ji l l H:=fun _ h=>.inl h
theorem ji.trans{l'':List PK}(a:ji l l' H)(b:ji l' l'' H1)(bt:b7 l' H H1):ji l l'' H:=fun c h=>by
 rcases b c h with z|z
 ·exact a c z
 ·exact .inr (bt.2.2 c z)
end
noncomputable def O2(H:Hp)(p:PH×Int)(t:PK):Prop:=H t=some (.tup [.str p.1,.int p.2])
noncomputable def Br(H:Hp)(p:PH×PH)(t:PK):Prop:=H t=some (.tup [.str p.1,.str p.2])
noncomputable def mD(H:Hp)(l:PK)(rows:List (PH×Int)):Prop:=∃ts:List PK,H l=some (.lst (ts.map V.ref))/\Qd (O2 H) rows ts
theorem mD.but{H H':Hp}{fp:List PK}{l:PK}{rows:List (PH×Int)}(b:b7 fp H H')(h:mD H l rows)(n:l∉fp):mD H' l rows:=by
 obtain⟨ts,h1,h2⟩:=h
 exact⟨ts,b.1 _ _ n h1,Paired.mapP h2 fun _ _ q=>b.2.1 _ _ q⟩
theorem mD.same{H H':Hp}{l:PK}{rows:List (PH×Int)}(h:mD H l rows)(s:av H H'):mD H' l rows:=h.but (l:=l) (b7.of (l:=[]) s) (by simp)
noncomputable def eD(ps:List (PH×Int)):List (Key×V):=ps.map fun p=>(.inr p.1,.int p.2)
theorem cW(ps:List (PH×Int)):(eD ps).length=ps.length:=by simp[eD]
theorem jk{ps:List (PH×Int)}{i:Nat}{p:PH×Int}(h:ps[i]?=some p):(eD ps)[i]?=some (.inr p.1,.int p.2):=by simp[eD,h]
theorem nV:∀{ps:List (PH×Int)}{n:PH},n∉ps.map (·.1)->gK (eD ps) (.inr n)=none
 |[],_,_=>rfl
 |p::r,n,h=>by
  have h1:¬p.1=n:=fun z=>h (by rw[<-z];simp)
  show gK ((.inr p.1,.int p.2)::eD r) (.inr n)=none
  rw[mQ (by simpa using h1)]
  exact nV fun z=>h (by rw[Qu];exact Qs _ z)
theorem nR:∀{ps:List (PH×Int)}{n:PH}{x:Int},(ps.map (·.1)).Nodup->(n,x)∈ps->gK (eD ps) (.inr n)=some (.int x)
 |p::r,n,x,nd,h=>by
  have nd:(p.1::r.map (·.1)).Nodup:=nd
  obtain⟨n1,n2⟩:=RX.mp nd
  show gK ((.inr p.1,.int p.2)::eD r) (.inr n)=_
  rcases Qa.mp h with z|z
  ·subst z
   exact qj rfl
  ·have h1:¬p.1=n:=fun e=>n1 (by rw[e];exact P9.mpr ⟨_,z,rfl⟩)
   rw[mQ (by simpa using h1)]
   exact nR n2 z
theorem FQ{ps:List (PH×Int)}{n:PH}{x:Int}(h:n∉ps.map (·.1)):putK (eD ps) (.inr n) (.int x)=eD (ps++[(n,x)]):=by
 rw[J9 _ (nV h)]
 simp[eD]
theorem C8(ps:List (PH×Int))(n:PH):rn (eD ps) (.inr n)=eD (ps.filter fun p=>decide (p.1≠n)):=by
 unfold rn eD
 rw[U0]
 congr 1
 refine Vi fun p _=>?_
 show decide ((RK p.1:Key)≠.inr n)=_
 congr 1
 simp
structure aG where
 ps:List (PH×Int)
 cs:List (PH×Int)
 ws:List (PH×PH)
 pot:Int
 giv:Int
 spt:Int
noncomputable def gN(d1 d2 w:PK)(a b c:Int):List (PH×V):=[("purses",.ref d1),("costs",.ref d2),("wishes",.ref w),("unshared",.int a),("gifts",.int b),("outlay",.int c)]
structure uq(K:PM)(H:Hp)(c dx d1 d2 w:PK)(wt:List PK)(s:aG):Prop where
 at_:H c=some (.ins (ao K "Chest") dx (gN d1 d2 w s.pot s.giv s.spt))
 p1:H d1=some (.dK (eD s.ps))
 p2:H d2=some (.dK (eD s.cs))
 w_:H w=some (.lst (wt.map V.ref))
 wt:Qd (Br H) s.ws wt
 ne:d1≠d2
 nd:(s.ps.map (·.1)).Nodup
 nd2:(s.cs.map (·.1)).Nodup
noncomputable def aO(K:PM)(H:Hp)(c:PK)(fp:List PK)(s:aG):Prop:=∃dx d1 d2 w wt,uq K H c dx d1 d2 w wt s/\fp=[c,d1,d2,w]
theorem gu:("costs":PH)≠"purses"/\("wishes":PH)≠"purses"/\("unshared":PH)≠"purses"/\("gifts":PH)≠"purses"/\("outlay":PH)≠"purses"/\
  ("wishes":PH)≠"costs"/\("unshared":PH)≠"costs"/\("gifts":PH)≠"costs"/\("outlay":PH)≠"costs"/\
  ("unshared":PH)≠"wishes"/\("gifts":PH)≠"wishes"/\("outlay":PH)≠"wishes"/\("gifts":PH)≠"unshared"/\("outlay":PH)≠"unshared"/\("outlay":PH)≠"gifts":=by decide +kernel
section
variable {d1 d2 w e:PK}{a b c x:Int}
theorem cj:(gN d1 d2 w a b c).lookup ("purses":PH)=some (V.ref d1):=by simp[gN,Rj]
theorem dM:(gN d1 d2 w a b c).lookup ("costs":PH)=some (V.ref d2):=by
 have h:=gu
 simp[gN,Rj,beq_eq_false_iff_ne.mpr h.1]
theorem fZ:(gN d1 d2 w a b c).lookup ("wishes":PH)=some (V.ref w):=by
 obtain⟨h1,h2,h3,h4,h5,h6,h7,h8,h9,h10,h11,h12,h13,h14,h15⟩:=gu
 simp[gN,Rj,beq_eq_false_iff_ne.mpr h2,beq_eq_false_iff_ne.mpr h6]
theorem eY:(gN d1 d2 w a b c).lookup ("unshared":PH)=some (V.int a):=by
 obtain⟨h1,h2,h3,h4,h5,h6,h7,h8,h9,h10,h11,h12,h13,h14,h15⟩:=gu
 simp[gN,Rj,beq_eq_false_iff_ne.mpr h3,beq_eq_false_iff_ne.mpr h7,beq_eq_false_iff_ne.mpr h10]
theorem BR:(gN d1 d2 w a b c).lookup ("gifts":PH)=some (V.int b):=by
 obtain⟨h1,h2,h3,h4,h5,h6,h7,h8,h9,h10,h11,h12,h13,h14,h15⟩:=gu
 simp[gN,Rj,beq_eq_false_iff_ne.mpr h4,beq_eq_false_iff_ne.mpr h8,beq_eq_false_iff_ne.mpr h11,beq_eq_false_iff_ne.mpr h13]
theorem zc:(gN d1 d2 w a b c).lookup ("outlay":PH)=some (V.int c):=by
 obtain⟨h1,h2,h3,h4,h5,h6,h7,h8,h9,h10,h11,h12,h13,h14,h15⟩:=gu
 simp[gN,Rj,beq_eq_false_iff_ne.mpr h5,beq_eq_false_iff_ne.mpr h9,beq_eq_false_iff_ne.mpr h12,beq_eq_false_iff_ne.mpr h14,beq_eq_false_iff_ne.mpr h15]
theorem y9:b9 "purses" (.ref e) (gN d1 d2 w a b c)=gN e d2 w a b c:=by simp[gN,b9]
theorem sL:b9 "wishes" (.ref e) (gN d1 d2 w a b c)=gN d1 d2 e a b c:=by
 obtain⟨h1,h2,h3,h4,h5,h6,h7,h8,h9,h10,h11,h12,h13,h14,h15⟩:=gu
 simp[gN,b9,h2.symm,h6.symm]
theorem ju:b9 "unshared" (.int x) (gN d1 d2 w a b c)=gN d1 d2 w x b c:=by
 obtain⟨h1,h2,h3,h4,h5,h6,h7,h8,h9,h10,h11,h12,h13,h14,h15⟩:=gu
 simp[gN,b9,h3.symm,h7.symm,h10.symm]
theorem IA:b9 "gifts" (.int x) (gN d1 d2 w a b c)=gN d1 d2 w a x c:=by
 obtain⟨h1,h2,h3,h4,h5,h6,h7,h8,h9,h10,h11,h12,h13,h14,h15⟩:=gu
 simp[gN,b9,h4.symm,h8.symm,h11.symm,h13.symm]
theorem Hm:b9 "outlay" (.int x) (gN d1 d2 w a b c)=gN d1 d2 w a b x:=by
 obtain⟨h1,h2,h3,h4,h5,h6,h7,h8,h9,h10,h11,h12,h13,h14,h15⟩:=gu
 simp[gN,b9,h5.symm,h9.symm,h12.symm,h14.symm,h15.symm]
theorem Ky:b9 "outlay" (.int c) (b9 "gifts" (.int b) (b9 "unshared" (.int a) (b9 "wishes" (.ref w) (b9 "costs" (.ref d2) (b9 "purses" (.ref d1) [])))))=gN d1 d2 w a b c:=by
 obtain⟨h1,h2,h3,h4,h5,h6,h7,h8,h9,h10,h11,h12,h13,h14,h15⟩:=gu
 simp[gN,b9,h1.symm,h2.symm,h3.symm,h4.symm,h5.symm,h6.symm,h7.symm,h8.symm,h9.symm,h10.symm,h11.symm,h12.symm,h13.symm,h14.symm,h15.symm]
theorem dy{m:PH}(h:(["purses","costs","wishes","unshared","gifts","outlay"]:List PH).contains m=false):(gN d1 d2 w a b c).lookup m=none:=by
 have h:∀x∈(["purses","costs","wishes","unshared","gifts","outlay"]:List PH),x≠m:=fun x hx e=>by
  rw[e]at hx
  rw[List.contains_iff_mem.mpr hx]at h
  cases h
 have g:∀x∈(["purses","costs","wishes","unshared","gifts","outlay"]:List PH),(m==x)=false:=fun x hx=>beq_eq_false_iff_ne.mpr (h x hx).symm
 simp only[gN,Rj,g _ (by simp:("purses":PH)∈_),g _ (by simp:("costs":PH)∈_),g _ (by simp:("wishes":PH)∈_),g _ (by simp:("unshared":PH)∈_),g _ (by simp:("gifts":PH)∈_),g _ (by simp:("outlay":PH)∈_)]
end
section
variable {K:PM}{H H':Hp}{c dx d1 d2 w:PK}{wt:List PK}{s:aG}{fp l:List PK}
theorem uq.but(x:uq K H c dx d1 d2 w wt s)(b:b7 l H H')(n1:c∉l)(n2:d1∉l)(n3:d2∉l)(n4:w∉l):uq K H' c dx d1 d2 w wt s:=
 ⟨b.1 _ _ n1 x.at_,b.1 _ _ n2 x.p1,b.1 _ _ n3 x.p2,b.1 _ _ n4 x.w_,Paired.mapP x.wt fun _ _ q=>b.2.1 _ _ q,x.ne,x.nd,x.nd2⟩
theorem uq.same(x:uq K H c dx d1 d2 w wt s)(b:av H H'):uq K H' c dx d1 d2 w wt s:=x.but (b7.of (l:=[]) b) (by simp) (by simp) (by simp) (by simp)
theorem aO.but(x:aO K H c fp s)(b:b7 l H H')(n:∀a∈fp,a∉l):aO K H' c fp s:=by
 obtain⟨dx,d1,d2,w,wt,x,rfl⟩:=x
 exact⟨dx,d1,d2,w,wt,x.but b (n _ (by simp)) (n _ (by simp)) (n _ (by simp)) (n _ (by simp)),rfl⟩
theorem aO.same(x:aO K H c fp s)(b:av H H'):aO K H' c fp s:=x.but (b7.of (l:=[]) b) (by simp)
theorem aO.there(x:aO K H c fp s):∀a∈fp,H a≠none:=by
 obtain⟨dx,d1,d2,w,wt,x,rfl⟩:=x
 intro a ha
 simp only[Qa,Rf,or_false]at ha
 rcases ha with rfl|rfl|rfl|rfl
 ·rw[x.at_];simp
 ·rw[x.p1];simp
 ·rw[x.p2];simp
 ·rw[x.w_];simp
theorem aK{a b:PK}{o o':HO}(h:H a=some o)(h':H b=some o')(n:o≠o'):a≠b:=fun e=>n (by rw[e,h']at h;exact(QW h).symm)
theorem fS{a b:PK}{o:HO}(h:H a=some o)(h':H b=none):a≠b:=fun e=>by rw[e,h']at h;cases h
theorem uq.setF{a b e:Int}(x:uq K H c dx d1 d2 w wt s):uq K (L2.upd H c (.ins (ao K "Chest") dx (gN d1 d2 w a b e))) c dx d1 d2 w wt ⟨s.ps,s.cs,s.ws,a,b,e⟩:=by
 have n1:=aK x.p1 x.at_ (by simp)
 have n2:=aK x.p2 x.at_ (by simp)
 have n3:=aK x.w_ x.at_ (by simp)
 exact⟨ax,by rw[ak n1];exact x.p1,by rw[ak n2];exact x.p2,by rw[ak n3];exact x.w_,Paired.mapP x.wt fun _ _ q=>by
  unfold Br at *
  rw[ak (aK q x.at_ (by simp))];exact q,x.ne,x.nd,x.nd2⟩
theorem uq.setD{e:PK}{ps:List (PH×Int)}(x:uq K H c dx d1 d2 w wt s)(he:H e=some (.dK (eD ps)))(hne:e≠d2)(nd:(ps.map (·.1)).Nodup):
  uq K (L2.upd H c (.ins (ao K "Chest") dx (gN e d2 w s.pot s.giv s.spt))) c dx e d2 w wt ⟨ps,s.cs,s.ws,s.pot,s.giv,s.spt⟩:=by
 have n1:=aK he x.at_ (by simp)
 have n2:=aK x.p2 x.at_ (by simp)
 have n3:=aK x.w_ x.at_ (by simp)
 exact⟨ax,by rw[ak n1];exact he,by rw[ak n2];exact x.p2,by rw[ak n3];exact x.w_,Paired.mapP x.wt fun _ _ q=>by
  unfold Br at *
  rw[ak (aK q x.at_ (by simp))];exact q,hne,nd,x.nd2⟩
theorem uq.setW{e:PK}{ws:List (PH×PH)}{wt':List PK}(x:uq K H c dx d1 d2 w wt s)(he:H e=some (.lst (wt'.map V.ref)))(hp:Qd (Br H) ws wt'):
  uq K (L2.upd H c (.ins (ao K "Chest") dx (gN d1 d2 e s.pot s.giv s.spt))) c dx d1 d2 e wt' ⟨s.ps,s.cs,ws,s.pot,s.giv,s.spt⟩:=by
 have n1:=aK x.p1 x.at_ (by simp)
 have n2:=aK x.p2 x.at_ (by simp)
 have n3:=aK he x.at_ (by simp)
 exact⟨ax,by rw[ak n1];exact x.p1,by rw[ak n2];exact x.p2,by rw[ak n3];exact he,Paired.mapP hp fun _ _ q=>by
  unfold Br at *
  rw[ak (aK q x.at_ (by simp))];exact q,x.ne,x.nd,x.nd2⟩
theorem uq.setP{ps:List (PH×Int)}(x:uq K H c dx d1 d2 w wt s)(nd:(ps.map (·.1)).Nodup):uq K (L2.upd H d1 (.dK (eD ps))) c dx d1 d2 w wt ⟨ps,s.cs,s.ws,s.pot,s.giv,s.spt⟩:=by
 have n1:=aK x.at_ x.p1 (by simp)
 have n3:=aK x.w_ x.p1 (by simp)
 exact⟨by rw[ak n1];exact x.at_,ax,by rw[ak (Qy x.ne)];exact x.p2,by rw[ak n3];exact x.w_,Paired.mapP x.wt fun _ _ q=>by
  unfold Br at *
  rw[ak (aK q x.p1 (by simp))];exact q,x.ne,nd,x.nd2⟩
end
local macro_rules | `(tactic| walk_at "early") => `(tactic| first
 |with_reducible refine Nq ?_
 |with_reducible refine Oz ?_
 |with_reducible refine Md ?_
 |with_reducible refine Nm ?_
 |with_reducible refine NB ?_
 |with_reducible refine MB ?_
 |with_reducible refine NK ?_
 |with_reducible refine ME ?_
 |with_reducible refine OB ?_
 |with_reducible refine Ot ?_)
noncomputable def isLet(c:Nat):Bool:=decide (97<=c)&&decide (c<=122)
noncomputable def dw(z:PH):Bool:=(decide (1<=z.length)&&decide (z.length<=8))&&z.cps.toList.all isLet
theorem FI:("abcdefghijklmnopqrstuvwxyz":PH).cps.toList=[97,98,99,100,101,102,103,104,105,106,107,108,109,110,111,112,113,114,115,116,117,118,119,120,121,122]:=by decide +kernel
theorem Lj(c:Nat):(!(TQ ("abcdefghijklmnopqrstuvwxyz":PH) ⟨#[c]⟩ 0 ("abcdefghijklmnopqrstuvwxyz":PH).length 1).isEmpty)=isLet c:=by
 rw[W0,show("abcdefghijklmnopqrstuvwxyz":PH).cps.toList=YD 97 26 by decide +kernel,Ri]
 simp only[isLet,decide_eq_true_eq,QX,XF]
 omega
theorem C0{z:PH}(h:dw z=true):aV z:=by
 rw[du]
 intro c hc
 have h2:=(QX _ _▸h:_/\_).2
 have:=Ru.mp h2 c hc
 simp[isLet]at this
 omega
theorem fI{z:PH}(h:dw z=true):1<=z.length/\z.length<=8:=by
 simp[dw]at h
 exact h.1
theorem j9(f:PH)(v:V):∀fs:List (PH×V),(b9 f v fs).length<=fs.length+1
 |[]=>Qe _
 |(g,x)::r=>by
  unfold b9
  by_cases h:g=f
  ·rw[if_pos h];simp
  ·rw[if_neg h]
   have:=j9 f v r
   simp only[QV]
   omega
theorem iN{α:Type}(p:α->Bool)(d:α)(xs:List α):((P4 xs.length).filter fun i=>p (xs.getD i d)).map (fun i=>xs.getD i d)=xs.filter p:=by
 have h:=bw (fun x=>x) d xs
 rw[UI]at h
 conv=>rhs;rw[<-h]
 rw[U0]
 rfl
noncomputable def vj(s:aG)(x:Int):aG:={s with ps:=s.ps.map fun p=>(p.1,p.2+x),pot:=s.pot-x*s.ps.length}
noncomputable def qI(s:aG)(x:Int):aG:=if s.ps=[]then{s with pot:=s.pot+x,giv:=s.giv+x} else vj {s with pot:=s.pot+x,giv:=s.giv+x} ((s.pot+x)/(s.ps.length:Int))
noncomputable def Jl(s:aG)(n:PH)(x:Int):aG:={s with ps:=s.ps.filter fun p=>decide (p.1≠n),ws:=s.ws.filter fun p=>!decide (p.1=n),pot:=s.pot+x}
theorem map_fst(ps:List (PH×Int))(x:Int):(ps.map fun p=>(p.1,p.2+x)).map (·.1)=ps.map (·.1):=by rw[Qn];rfl
theorem rJ{α:Type}{ps:List (PH×α)}{p:PH×α->Bool}(h:(ps.map (·.1)).Nodup):((ps.filter p).map (·.1)).Nodup:=YW (Z6 _ List.filter_sublist) h
theorem made{K:PM}{H H2:Hp}{c dx:PK}{fp:List PK}(f0:H c=none)(g0:H dx=none)(b:b7 [c] (upd (upd H dx (.own c)) c (.ins (ao K "Chest") dx [])) H2)(w:ji [c] fp (upd (upd H dx (.own c)) c (.ins (ao K "Chest") dx []))):
  av H H2/\∀a∈fp,H a=none:=by
 refine⟨fun a o h=>?_,fun a ha=>?_⟩
 ·have n1:a≠c:=fun e=>by rw[e,f0]at h;cases h
  have n2:a≠dx:=fun e=>by rw[e,g0]at h;cases h
  exact b.1 a o (by simpa using n1) (by rw[ak n1,ak n2];exact h)
 ·rcases w a ha with e|e
  ·rw[QR.mp e];exact f0
  ·by_cases n1:a=c
   ·rw[n1];exact f0
   ·rw[ak n1]at e
    by_cases n2:a=dx
    ·rw[n2];exact g0
    ·rw[ak n2]at e;exact e
theorem Kf{H0 H H':Hp}{L:List PK}(s:av H0 H)(b:b7 L H H')(h:∀a∈L,H0 a=none):av H0 H':=fun a o q=>b.1 a o (fun m=>by rw[h a m]at q;cases q) (s a o q)
noncomputable def eP(c:Int)(k:Nat):Int:=(c%900900929+2503*(k:Int)+77)*(c%900900929+2503*(k:Int)+77)*(c%900900929+2503*(k:Int)+77+31*(k:Int))/13%700700003
noncomputable def dX(c:Int)(m:Nat):List Int:=(P4 m).map (eP c)
theorem oa(c:Int)(m:Nat):(dX c m).length=m:=by simp[dX]
theorem vo{c:Int}{m k:Nat}(h:k<m):((dX c m).map V.int)[k]?=some (.int (eP c k)):=by simp[dX,h]
theorem MT(l:Option Int)(n:Nat):Te l none 1 n=Te l (some (n:Int)) 1 n:=by
 have h:¬((n:Int)<0):=by omega
 have e:max (0:Int) (min (if(n:Int)<0 then(n:Int)+n else n) (n:Int))=n:=by rw[if_neg h];omega
 simp[Te,e]
theorem tj{z:PH}{a b:Nat}(h1:a<=b)(h2:b<=z.length):(QJ z (some (a:Int)) (some (b:Int))).cps.toList=(z.cps.toList.drop a).take (b-a):=by
 have hl:=aP z
 unfold QJ
 split
 ·rename_i hc
  rw[aag h1 h2]at hc
  have:b-a=z.length:=by simpa using hc
  have:a=0:=by omega
  subst this
  rw[Vs,RI (by omega)]
 ·rw[aaP z h1 h2]
theorem qy{z:PH}{b:Nat}(h:b<=z.length):(QJ z none (some (b:Int))).cps.toList=z.cps.toList.take b:=by
 have e:QJ z none (some (b:Int))=QJ z (some ((0:Nat):Int)) (some (b:Int)):=by unfold QJ;rw[KW]
 rw[e,tj (Q3 _) h]
 simp
theorem ku{z:PH}{a:Nat}(h:a<=z.length):(QJ z (some (a:Int)) none).cps.toList=z.cps.toList.drop a:=by
 have hl:=aP z
 have e:QJ z (some (a:Int)) none=QJ z (some (a:Int)) (some (z.length:Int)):=by unfold QJ;rw[MT]
 rw[e,tj h (Qe _),RI (by rw[Rq];omega)]
noncomputable def md(x:Int):Nat:=97+(x%26).toNat
theorem Nj(x:Int):xU ("abcdefghijklmnopqrstuvwxyz":PH).cps.toList (x%26)=some (md x):=by
 have n0:0<=x%26:=by omega
 have n1:x%26<26:=by omega
 have hl:("abcdefghijklmnopqrstuvwxyz":PH).cps.toList.length=26:=by rw[FI];rfl
 rw[Fq n0 (by rw[hl];omega),FI]
 unfold md
 generalize x%26=y at *
 obtain⟨n,rfl⟩:∃n:Nat,y=(n:Int):=⟨y.toNat,by omega⟩
 have hn:n<26:=by omega
 have key:∀n:Fin 26,([97,98,99,100,101,102,103,104,105,106,107,108,109,110,111,112,113,114,115,116,117,118,119,120,121,122]:List Nat).getD n.val 0=97+n.val:=by decide
 have:=key ⟨n,hn⟩
 rw[show((n:Int)).toNat=n by omega]
 rw[this]
theorem uV(x:Int):isLet (md x)=true:=by
 unfold isLet md
 simp
 omega
theorem wF{x:Int}{i j:Nat}(hi:i<26)(hj:j<26)(h:md (x+i)=md (x+j)):i=j:=by
 unfold md at h
 omega
noncomputable def wl(c:Int):List Nat:=(P4 7).map fun j=>md (eP c j)
theorem kP(c:Int):(wl c).length=7:=by simp[wl]
theorem NM(c:Int):∀x∈wl c,isLet x=true:=fun x hx=>by
 obtain⟨j,_,rfl⟩:=P9.mp hx
 exact uV _
noncomputable def L7(c:Int):List Nat:=(wl c).take (eP c 8/4%8).toNat
noncomputable def Kh(c:Int):Nat:=(eP c 8/32%(((L7 c).length:Int)+1)).toNat
noncomputable def jY(c:Int)(k:Nat):List Nat:=
 if eP c 8%4=0 then md (eP c 7+(k/8:Nat))::(wl c).take (k%8)
 else if eP c 8%4=1 then(wl c).drop (7-k%8)++[md (eP c 7+(k/8:Nat))]
 else(L7 c).take (Kh c)++md (eP c 7+(k:Int))::(L7 c).drop (Kh c)
noncomputable def aQ(c:Int)(k:Nat):PH:=⟨(jY c k).toArray⟩
theorem ir(c:Int)(k:Nat):(aQ c k).cps.toList=jY c k:=by simp[aQ]
theorem FF(c:Int):(L7 c).length<=7:=by
 unfold L7
 rw[QY,kP]
 omega
theorem IY(c:Int)(k:Nat):1<=(jY c k).length/\(jY c k).length<=8/\∀x∈jY c k,isLet x=true:=by
 have h3:=FF c
 have hw:=NM c
 have hn:∀x∈L7 c,isLet x=true:=fun x hx=>hw x (Sl hx)
 unfold jY
 split
 ·refine⟨by simp,by simp[kP];omega,fun x hx=>?_⟩
  rcases Qa.mp hx with rfl|hx
  ·exact uV _
  ·exact hw x (Sl hx)
 ·split
  ·refine⟨by simp,by simp only[QU,Rq,kP,R9];omega,fun x hx=>?_⟩
   rcases QC.mp hx with hx|hx
   ·exact hw x (T7 hx)
   ·rw[QR.mp hx];exact uV _
  ·refine⟨by simp;omega,?_,fun x hx=>?_⟩
   ·simp only[QU,QV,QY,Rq];omega
   ·rcases QC.mp hx with hx|hx
    ·exact hn x (Sl hx)
    ·rcases Qa.mp hx with rfl|hx
     ·exact uV _
     ·exact hn x (T7 hx)
theorem da(c:Int)(k:Nat):dw (aQ c k)=true:=by
 obtain⟨h1,h2,h3⟩:=IY c k
 have hl:=aP (aQ c k)
 rw[ir]at hl
 unfold dw
 rw[ir,decide_eq_true (by omega),decide_eq_true (by omega),Ru.mpr h3]
 rfl
theorem GO{c:Int}{i j:Nat}(hi:i<21)(hj:j<21)(h:aQ c i=aQ c j):i=j:=by
 have h:jY c i=jY c j:=by rw[<-ir,<-ir,h]
 unfold jY at h
 split at h
 ·obtain⟨h1,h2⟩:=S5 h
  have h3:=congrArg Tz h2
  rw[QY,QY,kP]at h3
  have h4:=wF (by omega) (by omega) h1
  omega
 ·split at h
  ·have h3:=congrArg Tz h
   simp only[QU,Rq,kP,R9]at h3
   have h5:=congrArg (fun l=>l.getLast?) h
   simp only[List.getLast?_append,List.getLast?_singleton,Option.some_or]at h5
   have h4:=wF (by omega) (by omega) (QW h5)
   omega
  ·have h6:=List.append_cancel_left h
   exact wF (by omega) (by omega) (S5 h6).1
theorem IK(c:Int):((P4 21).map (aQ c)).Nodup:=by
 have h:(P4 21).Pairwise (fun a b=>aQ c a≠aQ c b):=Zy (fun {a b} ha hb hab h=>hab (GO (Q6.mp ha) (Q6.mp hb) h)) (List.nodup_range (n:=21))
 exact VT _ (fun a b h=>h) h
section
variable {l e:PK}{a b x:Int}
end
section
variable {K:PM}{H:Hp}{Q:VK}{p:PK}{xs:List V}{i:Int}{v:V}
theorem Fg(hs:kN K H p xs)(ha:xU xs i=some v)(h:Q v H):Lc K (.ref p) (.int i) H Q:=⟨p,xs,i,v,rfl,rfl,hs,ha,h⟩
theorem KH{z:PH}{zs:List PH}(hs:aY K H p (zs.map V.str))(h:Q (.bl (!decide (z∈zs))) H):Hz K true (.str z) (.ref p) H Q:=by
 exists p,_,rfl,.inl hs,rfl,sV zs
 rw[if_pos rfl,Be]
 exact h
end
section
variable {K:PM}{H H':Hp}{c sd l:PK}{fp L:List PK}{s:aG}
end
theorem JV(xs:List V)(m:Nat):iw xs none (some (m:Int))=xs.take m:=by
 unfold iw
 rw[HT.qv,HT.oh,WO,Vs]
 rcases UQ m xs.length with h|h
 ·rw[UT h]
 ·rw[Vd h,RI (Qe _),RI h]
theorem Jj(xs:List V)(m:Nat):iw xs (some (m:Int)) none=xs.drop m:=by
 unfold iw
 rw[HT.qv,HT.oh]
 rcases UQ m xs.length with h|h
 ·rw[UT h,RI (by rw[Rq];omega)]
 ·rw[Vd h,Yu (Qe _),Yu h,List.take_nil]
theorem jl{α β:Type}{F:α->β->Prop}:∀{xs:List α}{ys:List β}{a:α}{b:β},Qd F xs ys->F a b->Qd F (xs++[a]) (ys++[b])
 |_,_,_,_,.nil,h=>.cons h .nil
 |_,_,_,_,.cons q t,h=>.cons q (jl t h)
theorem Ga(c:Int)(ks:List PH)(h:ks.length<20):0<(((P4 21).map (aQ c)).filter fun z=>!decide (z∈ks)).length:=by
 refine Nat.pos_of_ne_zero fun e=>?_
 have e:=Ud.mp e
 have sub:((P4 21).map (aQ c)) ⊆ ks:=fun z hz=>by
  by_cases m:z∈ks
  ·exact m
  ·have:z∈((P4 21).map (aQ c)).filter fun z=>!decide (z∈ks):=QL.mpr ⟨hz,by simp[m]⟩
   rw[e]at this
   cases this
 have:=ZG (IK c) sub
 rw[P7,SQ]at this
 omega
section
variable {K:PM}{H H':Hp}{c dx d1 d2 w:PK}{wt:List PK}{s:aG}{fp l:List PK}
theorem uq.setC{cs:List (PH×Int)}(x:uq K H c dx d1 d2 w wt s)(nd:(cs.map (·.1)).Nodup):uq K (L2.upd H d2 (.dK (eD cs))) c dx d1 d2 w wt ⟨s.ps,cs,s.ws,s.pot,s.giv,s.spt⟩:=by
 have n1:=aK x.at_ x.p2 (by simp)
 have n3:=aK x.w_ x.p2 (by simp)
 exact⟨by rw[ak n1];exact x.at_,by rw[ak x.ne];exact x.p1,ax,by rw[ak n3];exact x.w_,Paired.mapP x.wt fun _ _ q=>by
  unfold Br at *
  rw[ak (aK q x.p2 (by simp))];exact q,x.ne,x.nd,nd⟩
theorem uq.addW{v n:PH}{t:PK}(x:uq K H c dx d1 d2 w wt s)(ht:H t=some (.tup [.str v,.str n])):uq K (L2.upd H w (.lst ((wt++[t]).map V.ref))) c dx d1 d2 w (wt++[t]) ⟨s.ps,s.cs,s.ws++[(v,n)],s.pot,s.giv,s.spt⟩:=by
 have n1:=aK x.at_ x.w_ (by simp)
 have n2:=aK x.p1 x.w_ (by simp)
 have n3:=aK x.p2 x.w_ (by simp)
 refine⟨by rw[ak n1];exact x.at_,by rw[ak n2];exact x.p1,by rw[ak n3];exact x.p2,ax,jl (Paired.mapP x.wt fun _ _ q=>?_) ?_,x.ne,x.nd,x.nd2⟩
 ·unfold Br at *
  rw[ak (aK q x.w_ (by simp))];exact q
 ·unfold Br
  rw[ak (aK ht x.w_ (by simp))];exact ht
end
noncomputable def EV(p:PH×PH):Qx:=.tuple [.str p.1,.str p.2]
theorem EX{p q:PH×PH}(h:EV p=EV q):p=q:=by
 unfold EV at h
 simp at h
 exact Prod.ext h.1 h.2
theorem MU{K:PM}{H:Hp}{ws:List (PH×PH)}{wt:List PK}(h:Qd (Br H) ws wt):DatAll K H (wt.map V.ref) (ws.map EV):=by
 induction h with
 |nil=>exact .nil
 |cons q _ ih=>exact .cons (.tup (kN.of q) (.cons (.str _) (.cons (.str _) .nil))) ih
theorem Ih{n:Nat}{x:PH}(h:aV x):fQ n (.str x):=⟨by rw[nice];exact tR h,by simp[S2]⟩
theorem Ad{n:Nat}{p:PH×PH}(h1:aV p.1)(h2:aV p.2):fQ (n+1) (EV p):=Jh fun e he=>by
 rcases Qa.mp he with rfl|he
 ·exact Ih h1
 ·rcases Qa.mp he with rfl|he
  ·exact Ih h2
  ·cases he
theorem OL{n:Nat}{ws:List (PH×PH)}(h:∀p∈ws,aV p.1/\aV p.2):fQ (n+2) (.list (ws.map EV)):=KO fun d hd=>by
 obtain⟨p,hp,rfl⟩:=P9.mp hd
 exact Ad (h p hp).1 (h p hp).2
theorem FN(p:PH×PH):∀ws:List (PH×PH),((ws.map EV).any fun y=>WQ y (EV p))=decide (p∈ws)
 |[]=>by simp
 |q::r=>by
  rw[Qu,R7,FN p r,Ri,Bool.or_eq_true,decide_eq_true_eq,decide_eq_true_eq,Yy,Qa]
  constructor
  ·rintro(e|e)
   ·exact .inl (EX e).symm
   ·exact .inr e
  ·rintro(e|e)
   ·exact .inl (by rw[e])
   ·exact .inr e
theorem Ib(p q:PH×PH):WQ (EV p) (EV q)=decide (p=q):=by
 rw[Ri,Yy,decide_eq_true_eq]
 exact⟨EX,fun h=>by rw[h]⟩
section
variable {K:PM}{H:Hp}{Q:VK}{t w:PK}{p:PH×PH}{ws:List (PH×PH)}{wt:List PK}{neg:Bool}
theorem Ej(ht:H t=some (.tup [.str p.1,.str p.2]))(hw:H w=some (.lst (wt.map V.ref)))(hp:Qd (Br H) ws wt)(a1:aV p.1)(a2:aV p.2)(ha:∀p∈ws,aV p.1/\aV p.2)(h:Q (.bl (decide (p∈ws) != neg)) H):Gg K neg (.ref t) (.ref w) H Q:=
 ⟨ws.map EV,EV p,.lst (aY.of hw) (MU hp),.tup (kN.of ht) (.cons (.str _) (.cons (.str _) .nil)),(OL (n:=2) ha).mono (by decide),(Ad (n:=2) a1 a2).mono (by decide),by rw[FN];exact h⟩
end
noncomputable def Pr(H:Hp)(r:PH×Int×List PH)(t:PK):Prop:=∃l:PK,H t=some (.tup [.str r.1,.int r.2.1,.ref l])/\H l=some (.lst (r.2.2.map V.str))
section
variable {K:PM}{mp:List (Option Nat)}{te td:TE}{σ:St}{H:Hp}{Q:VK}{d:PK}{kvs:List (Key×V)}
theorem BQ(htd:∀k:VK,k (.ref d) H->td σ H k)(hd:H d=some (.dK kvs))(hz:kvs.length<=PZ)(u v:Nat->V)(hu:∀i q,kvs[i]?=some q->kV q.1=u i/\q.2=v i)
  (st:Nat->St) (hf:∀i σ',(σ'=c6 mp σ\/∃j,σ'=st j)->(σ'.set 0 (some (u i))).set 1 (some (v i))=st i) (R:PK->Nat->V->Hp->Prop)
  (hR:∀l i v H1 H2,ef l H1 H2->R l i v H1->R l i v H2) (hRd:∀l i v H1 o,H1 d=some (.frz o (.dK kvs))->R l i v H1->R l i v (upd H1 d (.dK kvs)))
  (he:∀l i,i<kvs.length->∀(H':Hp)(G:VK),H l=none->(∃o,H' l=some o)->(∃o,H' d=some o)->ef d H H'->(∀v H'',R l i v H''->av H' H''->G v H'')->te (st i) H' G)
  (hq:∀l ys H2,H l=none->av H H2->H2 l=some (.lst ys)->Qd (fun i v=>R l i v H2) (P4 kvs.length) ys->Q (.ref l) H2):
  gP (bO mp (wH td) (gf K 2 (bz (au 0) (bz (au 1) fW))) dv te) σ H Q:=by
 exists d,kvs,hd
 refine mK ?_
 refine htd _ ⟨d,kvs,rfl,hd,fun o w hw hne=>?_⟩
 have hl0:∀a,upd (upd H w (zg w d)) d (.frz o (.dK kvs)) a=none->H a=none:=fun a ha=>by
  by_cases h1:a=d
  ·subst h1;rw[ax]at ha;cases ha
  ·rw[ak h1]at ha
   by_cases h2:a=w
   ·subst h2;exact hw
   ·rwa [ak h2]at ha
 have hx:∀H',av (upd (upd H w (zg w d)) d (.frz o (.dK kvs))) H'->ef d H H':=fun H' s a x ha h=>by
  have hw2:a≠w:=fun e=>by rw[e,hw]at h;cases h
  exact s _ _ (by rw[ak ha,ak hw2];exact h)
 refine gh (CN 0 1 u v hu) st hf (fun H' s=>s _ _ ax) hz (fun _=>true) R hR (fun i hi H' G s k=>k H' (av.refl _)) (fun l i hi _ H' G h0 h1 s k=>he l i hi H' G (hl0 l h0) h1 ⟨_,s _ _ ax⟩ (hx H' s) k) fun l ys H' h0 s h1 pr=>?_
 rw[Sd.mpr (fun _ _=>rfl)]at pr
 have hfd:H' d=some (.frz o (.dK kvs)):=s _ _ ax
 have hld:l≠d:=fun e=>by rw[e,ax]at h0;cases h0
 refine⟨o,kvs,hfd,hq l ys _ (hl0 l h0) (fun a x ha=>?_) (by rw[ak hld];exact h1) (Paired.mapP pr fun i v q=>hRd l i v H' o hfd q)⟩
 by_cases h1:a=d
 ·subst h1
  rw[ax,<-hd];exact ha
 ·rw[ak h1]
  exact hx H' s a x h1 ha
theorem Mu{p:PK}{z:PH}{zs:List PH}(hs:aY K H p (zs.map V.str))(h:Q (.bl (decide (z∈zs))) H):Hz K false (.str z) (.ref p) H Q:=by
 exists p,_,rfl,.inl hs,rfl,sV zs
 rw[if_neg QM,Be]
 exact h
end
theorem tG{H':Hp}{P:PK->Prop}{f:Nat->PH×Int×List PH}:∀{is:List Nat}{ys:List V},Qd (fun i v=>∃t w,v=V.ref t/\P w/\H' t=some (.tup [.str (f i).1,.int (f i).2.1,.ref w])/\H' w=some (.lst ((f i).2.2.map V.str))) is ys->
  ∃ts:List PK,ys=ts.map V.ref/\Qd (Pr H') (is.map f) ts/\∀t∈ts,∀x y w,H' t=some (.tup [x,y,.ref w])->P w
 |_,_,.nil=>⟨[],rfl,.nil,fun t ht=>by cases ht⟩
 |_,_,.cons ⟨t,w,e,hp,h1,h2⟩ r=>by
  obtain⟨ts,e2,p2,q2⟩:=tG r
  refine⟨t::ts,by rw[e,e2];rfl,.cons ⟨w,h1,h2⟩ p2,fun t' ht x y w' h'=>?_⟩
  rcases Qa.mp ht with rfl|ht
  ·rw[h1]at h'
   injection h' with h'
   injection h' with h'
   simp at h'
   rw[<-h'.2.2];exact hp
  ·exact q2 t' ht x y w' h'
theorem Dm(ps:List (PH×Int))(P:PH->Bool):(((P4 ps.length).filter fun i=>P (ps.getD i ("",0)).1).map fun i=>V.str (ps.getD i ("",0)).1)=((ps.map (·.1)).filter P).map V.str:=by
 have h:=iN (fun p:PH×Int=>P p.1) ("",0) ps
 have e:((ps.map (·.1)).filter P)=(ps.filter fun p=>P p.1).map (·.1):=by rw[U0];rfl
 rw[e,<-h,Qn,Qn]
 rfl
noncomputable def IX(H:Hp)(l:PK)(ts:List PK)(rows:List (PH×Int×List PH)):Prop:=H l=some (.lst (ts.map V.ref))/\Qd (Pr H) rows ts
noncomputable def wX(s:aG)(p:PH×Int):PH×Int×List PH:=(p.1,p.2,(s.ps.map (·.1)).filter fun v=>decide ((v,p.1)∈s.ws))
section
variable {K:PM}{H H':Hp}{c lp lw:PK}{fp L:List PK}{s:aG}{people:List PH}{rows:List WkR}{m:Nat}
end
section
variable {K:PM}{H:Hp}{Q:VK}{l:PK}{zs:List PH}{n:PH}{j:Nat}
end
noncomputable def BY(s:aG)(v:PH):List Nat:=(P4 s.cs.length).filter fun k=>decide ((v,(s.cs.getD k ("",0)).1)∈s.ws)
noncomputable def intsOf(ks:List Nat):List Int:=ks.map fun k:Nat=>(k:Int)
noncomputable def a9(s:aG):List (List Int):=s.ps.map fun p=>intsOf (BY s p.1)
noncomputable def fc(s:aG):Nat:=mT s.ps.length ^ (s.cs.length+1)
noncomputable def aH(s:aG):List Int:=s.ps.map fun p=>p.2*(fc s:Int)
noncomputable def cc(s:aG):List Int:=s.cs.map (·.2)
noncomputable abbrev jj:=PH×Int×List (PH×Int)
noncomputable def bK(s:aG)(x:Nat×Int×List Int):jj:=((s.cs.getD x.1 ("",0)).1,(s.cs.getD x.1 ("",0)).2,((s.ps.map (·.1)).zip x.2.2).filter fun p=>decide (0<p.2))
noncomputable def Mm(H:Hp)(x:jj)(t:PK):Prop:=∃r:PK,H t=some (.tup [.str x.1,.int x.2.1,.ref r])/\mD H r x.2.2
noncomputable def oQ(H:Hp)(l:PK)(ts:List PK)(rows:List jj):Prop:=H l=some (.lst (ts.map V.ref))/\Qd (Mm H) rows ts
theorem Mm.but{H H':Hp}{fp:List PK}{x:jj}{t:PK}(h:Mm H x t)(b:b7 fp H H')(n:∀y z r,H t=some (.tup [y,z,.ref r])->r∉fp):Mm H' x t:=by
 obtain⟨r,h1,h2⟩:=h
 exact⟨r,b.2.1 _ _ h1,h2.but b (n _ _ _ h1)⟩
theorem oQ.but{H H':Hp}{fp:List PK}{l:PK}{ts:List PK}{rows:List jj}(h:oQ H l ts rows)(b:b7 fp H H')(n:l∉fp)(nr:∀t∈ts,∀y z r,H t=some (.tup [y,z,.ref r])->r∉fp):oQ H' l ts rows:=by
 obtain⟨h1,h2⟩:=h
 exists b.1 _ _ n h1
 clear h1
 induction h2 with
 |nil=>exact .nil
 |cons q _ ih=>exact .cons (q.but b (nr _ (by simp))) (ih fun t ht=>nr t (by simp[ht]))
theorem oQ.tup{H H':Hp}{l:PK}{ts:List PK}{rows:List jj}(h:oQ H l ts rows){fp:List PK}(b:b7 fp H H'):∀t∈ts,∀y z r,H' t=some (.tup [y,z,.ref r])->H t=some (.tup [y,z,.ref r]):=by
 obtain⟨h0,h2⟩:=h
 clear h0
 induction h2 with
 |nil=>intro t ht;cases ht
 |cons q _ ih=>
  intro t ht y z r e
  rcases Qa.mp ht with rfl|ht
  ·obtain⟨r',h1,_⟩:=q
   rw[b.2.1 _ _ h1]at e
   rw[h1];exact e
  ·exact ih t ht y z r e
noncomputable def N5(H0 H:Hp)(r:PK)(rows:List (PH×Int)):Prop:=∃ts:List PK,H r=some (.lst (ts.map V.ref))/\Qd (fun p t=>H0 t=none/\O2 H p t) rows ts
theorem qr{H':Hp}{P:PK->Prop}{f:Nat->jj}:∀{is:List Nat}{ys:List V},Qd (fun i v=>∃t r,v=V.ref t/\P r/\H' t=some (.tup [.str (f i).1,.int (f i).2.1,.ref r])/\mD H' r (f i).2.2) is ys->
  ∃ts:List PK,ys=ts.map V.ref/\Qd (Mm H') (is.map f) ts/\∀t∈ts,∀x y w,H' t=some (.tup [x,y,.ref w])->P w
 |_,_,.nil=>⟨[],rfl,.nil,fun t ht=>by cases ht⟩
 |_,_,.cons ⟨t,w,e,hp,h1,h2⟩ r=>by
  obtain⟨ts,e2,p2,q2⟩:=qr r
  refine⟨t::ts,by rw[e,e2];rfl,.cons ⟨w,h1,h2⟩ p2,fun t' ht x y w' h'=>?_⟩
  rcases Qa.mp ht with rfl|ht
  ·rw[h1]at h'
   injection h' with h'
   injection h' with h'
   simp at h'
   rw[<-h'.2.2];exact hp
  ·exact q2 t' ht x y w' h'
theorem MP{K:PM}{H:Hp}{Q:VK}{d:PK}{kvs:List (Key×V)}(h:H d=some (.dK kvs))(q:∀v H1,H v=none->av H H1->H1 v=some (mZ v d)->Q (.ref v) H1):LS K "dict" (.ref d) H/\Ji (.ref d) [] H Q:=
 ⟨.inr (.inr (.inl ⟨rfl,.inl ⟨kvs,h⟩⟩)),d,kvs,rfl,rfl,h,fun v hv=>q v _ hv (av.updN hv) ax⟩
noncomputable def Me:jj:=("",0,[])
theorem oQ.ys{K:PM}{H:Hp}{l:PK}{ts:List PK}{rows:List jj}(h:oQ H l ts rows):∃rs:List PK,∀(fp:List PK)(H':Hp),b7 fp H H'->l∉fp->
  aY K H' l (ts.map V.ref)/\∀(i:Nat)(t:PK),ts[i]?=some t->kN K H' t [.str (rows.getD i Me).1,.int (rows.getD i Me).2.1,.ref (rs.getD i 0)]:=by
 obtain⟨h1,h2⟩:=h
 have go:∀{rows:List jj}{ts:List PK},Qd (Mm H) rows ts->∃rs:List PK,∀(i:Nat)(t:PK),ts[i]?=some t->H t=some (.tup [.str (rows.getD i Me).1,.int (rows.getD i Me).2.1,.ref (rs.getD i 0)]):=by
  intro rows ts h
  induction h with
  |nil=>exact⟨[],fun i t e=>by simp at e⟩
  |cons q _ ih=>
   obtain⟨rs,hr⟩:=ih
   obtain⟨r,g1,_⟩:=q
   refine⟨r::rs,fun i t e=>?_⟩
   cases i with
   |zero=>
    simp at e
    subst e
    exact g1
   |succ i=>exact hr i t (by simpa using e)
 obtain⟨rs,hr⟩:=go h2
 exact⟨rs,fun fp H' b n=>⟨aY.of (b.1 _ _ n h1),fun i t e=>kN.of (b.2.1 _ _ (hr i t e))⟩⟩
theorem Ll{s:aG}(g:s.ps.length<=20/\s.cs.length<=12):0<(fc s:Int)/\((fc s:Nat):Int)<nt:=by
 have h1:=fX s.ps.length (s.cs.length+1)
 have h2:=pT (v:=s.ps.length) (w:=s.cs.length+1) g.1 (by have:=g.2;omega)
 have h3:=HV
 unfold fc
 refine⟨by exact_mod_cast h1,Uj h2 (Uj ?_ h3)⟩
 decide +kernel
noncomputable def JU(s:aG)(left:List Int)(g:Int):aG:={s with pot:=s.pot+(left.map (· % g)).sum/g,ps:=(s.ps.map (·.1)).zip (left.map (· / g))}
noncomputable def cQ(s:aG)(left:List Int)(g:Int)(rs:List jj):aG:=
 ⟨(s.ps.map (·.1)).zip (left.map (· / g)),s.cs.filter fun p=>decide (p.1∉rs.map (·.1)),s.ws.filter fun p=>decide (p.2∉rs.map (·.1)),s.pot+(left.map (· % g)).sum/g,s.giv,s.spt+(rs.map (·.2.1)).sum⟩
theorem D0(s:aG)(left:List Int)(g:Int):cQ s left g []=JU s left g:=by
 unfold cQ JU
 simp
structure oX(s:aG):Prop where
 v20:s.ps.length<=20
 n12:s.cs.length<=12
 ap:∀p∈s.ps,aV p.1
 ac:∀p∈s.cs,aV p.1
 aw:∀p∈s.ws,aV p.1/\aV p.2
 cb:∀p∈s.cs,1<=p.2/\p.2<=1000000000000
 p0:∀p∈s.ps,0<=p.2/\p.2<=1000000000000
 wl:s.ws.length<=900
theorem oX.town{s:aG}(g:oX s)(h:s.ps≠[]):IS (cc s) (a9 s) (aH s) where
 c12:=by simp[cc];exact g.n12
 cb:=fun x hx=>by
  obtain⟨p,hp,rfl⟩:=P9.mp hx
  exact g.cb p hp
 v1:=by simp[a9];exact TM.mpr h
 v20:=by simp[a9];exact g.v20
 pl:=by simp[aH,a9]
 p0:=fun x hx=>by
  obtain⟨p,hp,rfl⟩:=P9.mp hx
  exact UO (g.p0 p hp).1 (VQ _)
 pd:=fun x hx=>by
  obtain⟨p,hp,rfl⟩:=P9.mp hx
  have e1:(a9 s).length=s.ps.length:=by simp[a9]
  have e2:(cc s).length=s.cs.length:=by simp[cc]
  rw[e1,e2]
  exact Vf (jA (Rz _)) (VG _ _)
theorem getD_mem{α:Type}{xs:List α}{i:Nat}(d:α)(h:i<xs.length):xs.getD i d∈xs:=by
 rw[QD,Qj h]
 exact RC h
theorem BH(s:aG)(left:List Int)(g:Int)(rs:List jj)(r:jj):cQ s left g (rs++[r])=
  {cQ s left g rs with spt:=(cQ s left g rs).spt+r.2.1,cs:=(cQ s left g rs).cs.filter fun p=>decide (p.1≠r.1),ws:=(cQ s left g rs).ws.filter fun p=>!decide (p.2=r.1)}:=by
 unfold cQ
 simp only[Rk,Uc,List.filter_filter,Qu,S7,Rb,Ws,aG.mk.injEq,true_and]
 refine⟨?_,?_,by omega⟩
 ·refine Vi fun p _=>?_
  rw[Ri]
  simp
  exact Yl
 ·refine Vi fun p _=>?_
  rw[Ri]
  simp
  exact Yl
theorem J0{ps:List (PH×Int)}(nd:(ps.map (·.1)).Nodup){i j:Nat}(hi:i<ps.length)(hj:j<ps.length)(h:(ps.getD i ("",0)).1=(ps.getD j ("",0)).1):i=j:=by
 rw[QD,QD,Qj hi,Qj hj]at h
 have h:(ps[i]).1=(ps[j]).1:=h
 rcases Nat.lt_trichotomy i j with c|c|c
 ·have:=T4.mp nd i j (by simpa using hi) (by simpa using hj) c
  simp at this
  exact absurd h this
 ·exact c
 ·have:=T4.mp nd j i (by simpa using hj) (by simpa using hi) c
  simp at this
  exact absurd h.symm this
section
variable {K:PM}{σ:St}{H:Hp}{Q:VK}{l:PK}
end
section
variable {K:PM}{H:Hp}{Q:VK}{a l:PK}{n:Nat}{ds:List Qx}
end
theorem map_getD{α β:Type}(f:α->β)(d:α)(e:β){xs:List α}{i:Nat}(h:i<xs.length):(xs.map f).getD i e=f (xs.getD i d):=by simp[Qm,h]
theorem Ef{s:aG}(G:oX s){sts:List (Nat×Int×List Int)}(hb:∀x∈sts,x.1<s.cs.length):∀r∈sts.map (bK s),aV r.1/\∀p∈r.2.2,aV p.1:=fun r hr=>by
 obtain⟨x,hx,rfl⟩:=P9.mp hr
 refine⟨G.ac _ (getD_mem _ (hb x hx)),fun p hp=>?_⟩
 have hp:=(QL.mp hp).1
 have:=(TK (a:=p.1) (b:=p.2) hp).1
 obtain⟨q,hq,e⟩:=P9.mp this
 rw[<-e];exact G.ap q hq
theorem pJ(ps:List Int)(sts:List (Nat×Int×List Int)):(bL ps sts).length=ps.length:=by simp[bL]
theorem rW{cs:List Int}{rows:List (List Int)}:∀{run:List (Nat×Int)}{ps:List Int}{done:List Nat},ps.length=rows.length->gU (bP cs rows) (PF ps) done run->(cF rows ps run).sum=ps.sum-(run.map fun x=>(bP cs rows).c x.1).sum
 |[],ps,done,hl,h=>by simp[cF]
 |(k,L)::r,ps,done,hl,h=>by
  cases h with
  |step nx ex rest=>
   rw[cF,rW (by rw[il];exact hl) (by rw[iX hl];exact rest)]
   have e:ps.sum=sumTo ps.length (PF ps):=by
    unfold sumTo PF
    rw[bw (fun x:Int=>x) 0 ps,UI]
   have:(iI rows ps k L).sum=ps.sum-(bP cs rows).c k:=by
    rw[<-ex]
    show sumTo ps.length (Em (WR rows) (PF ps) k L)=_
    rw[e,hl]
    unfold Em uk
    exact yV _ _ _
   rw[Qu,Rb,this]
   show _=_-((bP cs rows).c k+_)
   omega
theorem EZ{g:Int}:∀{l:List Int},g∣l.sum-(l.map (· % g)).sum
 |[]=>⟨0,by simp⟩
 |x::l=>by
  obtain⟨q,hq⟩:=EZ (g:=g) (l:=l)
  exists x/g+q
  have:=VE x g
  rw[Qu,Rb,Rb,Uq]
  omega
theorem Al{g:Int}:∀{l:List Int},(∀x∈l,g∣x)->g∣l.sum
 |[],_=>⟨0,by simp⟩
 |x::l,h=>by
  rw[Rb]
  exact YF (h x (by simp)) (Al fun y hy=>h y (by simp[hy]))
theorem HR{s:aG}{run:List (Nat×Int)}(rx:gU (bP (cc s) (a9 s)) (PF (aH s)) [] run):(fc s:Int)∣((bL (aH s) (aT (a9 s) (aH s) run)).map (· % (fc s:Int))).sum:=by
 have h1:=rW (by simp[aH,a9]) rx
 have h2:(fc s:Int)∣(cF (a9 s) (aH s) run).sum:=by
  rw[h1]
  refine UA (Al fun x hx=>?_) (Al fun x hx=>?_)
  ·obtain⟨p,_,rfl⟩:=P9.mp hx
   exact VG _ _
  ·obtain⟨y,_,rfl⟩:=P9.mp hx
   have e1:(a9 s).length=s.ps.length:=by simp[a9]
   have e2:(cc s).length=s.cs.length:=by simp[cc]
   show _∣(cc s).getD y.1 0*((mT (a9 s).length ^ ((cc s).length+1):Nat):Int)
   rw[e1,e2]
   exact VG _ _
 rw[hZ]
 have h3:=EZ (g:=(fc s:Int)) (l:=cF (a9 s) (aH s) run)
 have:=UA h2 h3
 rwa [show ∀a b:Int,a-(a-b)=b from fun a b=>by omega]at this
theorem EE(ps:List Int):bL ps []=ps:=by
 unfold bL
 refine Uk (Sw fun i _=>?_) ((bw (fun x:Int=>x) 0 ps).trans (UI _))
 simp
theorem C9:∀ps:List (PH×Int),(ps.map (·.1)).zip (ps.map (·.2))=ps
 |[]=>rfl
 |p::r=>by rw[Qu,Qu,List.zip_cons_cons,C9 r]
noncomputable def PD(H:Hp)(t:PK):PK:=match H t with
 |some (.tup [_,_,.ref r])=>r
 |_=>0
theorem iQ{s:aG}{run:List (Nat×Int)}(rx:gU (bP (cc s) (a9 s)) (PF (aH s)) [] run):(aT (a9 s) (aH s) run).length<=s.cs.length/\∀x∈aT (a9 s) (aH s) run,x.1<s.cs.length/\x.2.2.length=s.ps.length:=by
 have hrw:=zd rx.run
 have hcl:(cc s).length=s.cs.length:=by simp[cc]
 have hpl:(aH s).length=s.ps.length:=by simp[aH]
 refine⟨?_,fun x hx=>⟨?_,by rw[jy _ _ _ x hx,hpl]⟩⟩
 ·rw[iK]
  have:=ik s.cs.length (run.map (·.1)) hrw.2 (fun x hx=>by
   obtain⟨y,hy,rfl⟩:=P9.mp hx
   have:=(hrw.1 y hy).1
   rw[<-hcl];exact this)
  simpa using this
 ·have hm:x.1∈run.map (·.1):=by rw[<-vR];exact P9.mpr ⟨x,hx,rfl⟩
  obtain⟨y,hy,e⟩:=P9.mp hm
  have:=(hrw.1 y hy).1
  rw[<-e,<-hcl];exact this
theorem Am{s:aG}{i:Nat}(hi:i<s.ps.length):PF (aH s) i=(s.ps.getD i ("",0)).2*(fc s:Int):=by
 unfold PF aH
 exact map_getD (fun p:PH×Int=>p.2*(fc s:Int)) ("",0) 0 hi
theorem Ko{s:aG}{k:Nat}(hk:k<s.cs.length):(bP (cc s) (a9 s)).c k=(s.cs.getD k ("",0)).2*(fc s:Int):=by
 have e1:(a9 s).length=s.ps.length:=by simp[a9]
 have e2:(cc s).length=s.cs.length:=by simp[cc]
 show(cc s).getD k 0*((mT (a9 s).length ^ ((cc s).length+1):Nat):Int)=_
 rw[e1,e2]
 unfold cc
 rw[map_getD (fun p:PH×Int=>p.2) ("",0) 0 hk]
 rfl
theorem zip_get{ns:List PH}{xs:List Int}{i:Nat}(h1:i<ns.length)(h2:i<xs.length):(ns.zip xs).getD i ("",0)=(ns.getD i "",xs.getD i 0):=by
 have h3:i<(ns.zip xs).length:=by simp;omega
 rw[QD,Qj h3,QD,Qj h1,QD,Qj h2]
 simp[List.getElem_zip]
noncomputable def dS(s:aG)(run:List (Nat×Int)):aG:=cQ s (bL (aH s) (aT (a9 s) (aH s) run)) (fc s) ((aT (a9 s) (aH s) run).map (bK s))
theorem lD{s:aG}{run:List (Nat×Int)}:(dS s run).ps.map (·.1)=s.ps.map (·.1):=by
 show((s.ps.map (·.1)).zip (Ry _ (bL (aH s) (aT (a9 s) (aH s) run)))).map (·.1)=_
 rw[Yr (by simp[pJ,aH])]
theorem BO(s:aG):dS s []=s:=by
 have g0:0<(fc s:Int):=by exact_mod_cast fX s.ps.length (s.cs.length+1)
 have e1:(aT (a9 s) (aH s) [])=[]:=rfl
 have e2:((aH s).map (· / (fc s:Int)))=s.ps.map (·.2):=by
  unfold aH
  rw[Qn]
  exact Sw fun p _=>Yp _ (by omega)
 have e3:((aH s).map (· % (fc s:Int))).sum=0:=by
  have:∀l:List (PH×Int),((l.map fun p=>p.2*(fc s:Int)).map (· % (fc s:Int))).sum=0:=fun l=>by
   induction l with
   |nil=>rfl
   |cons x r ih=>rw[Qu,Qu,Rb,ih,Int.mul_emod_left];rfl
  exact this s.ps
 unfold dS
 rw[e1,EE]
 unfold cQ
 rw[e2,e3,C9]
 simp only[S7,Rf,not_false_eq_true,decide_true,Ws,Int.add_zero,Int.zero_ediv,Sd.mpr (fun _ _=>rfl)]
theorem tq{cs:List Int}{rows:List (List Int)}:∀{run:List (Nat×Int)}{ps:List Int}{done:List Nat},ps.length=rows.length->gU (bP cs rows) (PF ps) done run->(∀i,0<=PF ps i)->∀i,0<=PF (cF rows ps run) i/\PF (cF rows ps run) i<=PF ps i
 |[],ps,done,hl,h,h0,i=>⟨h0 i,RU _⟩
 |(k,L)::r,ps,done,hl,h,h0,i=>by
  cases h with
  |step nx ex rest=>
   rw[cF]
   have hL:=nx.pos
   have h1:∀j,0<=PF (iI rows ps k L) j:=fun j=>by rw[iX hl];exact DN (h0 j)
   obtain⟨z1,z2⟩:=tq (by rw[il];exact hl) (by rw[iX hl];exact rest) h1 i
   refine⟨z1,Tj z2 ?_⟩
   rw[iX hl]
   exact II (h0 i) (by omega)
theorem oX.closed{s:aG}(G:oX s){run:List (Nat×Int)}(rx:gU (bP (cc s) (a9 s)) (PF (aH s)) [] run):oX (dS s run):=by
 have g0:0<(fc s:Int):=by exact_mod_cast fX s.ps.length (s.cs.length+1)
 have hn:=lD (s:=s) (run:=run)
 have hcl:(dS s run).ps.length=s.ps.length:=by have:=congrArg Tz hn;simpa using this
 have hpl:(aH s).length=(a9 s).length:=by simp[aH,a9]
 have hll:(bL (aH s) (aT (a9 s) (aH s) run)).length=s.ps.length:=by rw[pJ];simp[aH]
 have hp0:∀i,0<=PF (aH s) i:=fun i=>by
  by_cases hi:i<s.ps.length
  ·rw[Am hi]
   exact UO (G.p0 _ (getD_mem _ hi)).1 (Tb g0)
  ·rw[Ds (by simp[aH];omega)]
   exact RU _
 refine⟨by rw[hcl];exact G.v20,P6 (RB _ _) G.n12,fun p hp=>?_,fun p hp=>G.ac p (QL.mp hp).1,fun p hp=>G.aw p (QL.mp hp).1,fun p hp=>G.cb p (QL.mp hp).1,fun p hp=>?_,P6 (RB _ _) G.wl⟩
 ·have:p.1∈s.ps.map (·.1):=by rw[<-hn];exact P9.mpr ⟨p,hp,rfl⟩
  obtain⟨r,hr,e⟩:=P9.mp this
  rw[<-e];exact G.ap r hr
 ·obtain⟨i,hi,e⟩:=Tq hp
  have hi':i<s.ps.length:=by rw[<-hcl];exact hi
  have eg:(dS s run).ps.getD i ("",0)=((s.ps.getD i ("",0)).1,(bL (aH s) (aT (a9 s) (aH s) run)).getD i 0/(fc s:Int)):=by
   show((s.ps.map (·.1)).zip (Ry (fun x=>x/(fc s:Int)) (bL (aH s) (aT (a9 s) (aH s) run)))).getD i ("",0)=_
   rw[zip_get (by simpa using hi') (by simpa[hll]using hi'),map_getD (fun p:PH×Int=>p.1) ("",0) "" hi',map_getD (fun x:Int=>x/(fc s:Int)) 0 0 (by rw[hll];exact hi')]
  have e2:(dS s run).ps.getD i ("",0)=p:=by rw[QD,Qj hi];exact e
  rw[e2]at eg
  rw[eg]
  obtain⟨z1,z2⟩:=tq hpl rx hp0 i
  rw[<-hZ]at z1 z2
  have z1:0<=(bL (aH s) (aT (a9 s) (aH s) run)).getD i 0:=z1
  have z2:(bL (aH s) (aT (a9 s) (aH s) run)).getD i 0<=PF (aH s) i:=z2
  rw[Am hi']at z2
  exists Yn z1 (Tb g0)
  have h1:=(G.p0 _ (getD_mem (xs:=s.ps) ("",0) hi')).2
  have h2:(bL (aH s) (aT (a9 s) (aH s) run)).getD i 0/(fc s:Int)<=(s.ps.getD i ("",0)).2:=by
   have:=Int.ediv_le_ediv g0 z2
   rwa [Yp _ (by omega)]at this
  exact Tj h2 h1
noncomputable def vP:List (PH×Int)->PH->Int
 |[],_=>0
 |p::r,v=>if p.1=v then p.2 else vP r v
theorem qf:∀{ps:List (PH×Int)}{v:PH},v∈ps.map (·.1)->(v,vP ps v)∈ps
 |[],_,h=>by cases h
 |p::r,v,h=>by
  unfold vP
  by_cases e:p.1=v
  ·rw[if_pos e,<-e]
   exact QI
  ·rw[if_neg e]
   have h:v∈p.1::r.map (·.1):=h
   rcases Qa.mp h with z|z
   ·exact absurd z.symm e
   ·exact Qs _ (qf z)
section
variable {lps:List (PH×Int)}{g:Int}{rows:List WRow}{r:WRow}{k:Nat}{L M:Int}
end
section
variable {s:aG}{left:List Int}(hl:left.length=s.ps.length)(nd:(s.ps.map (·.1)).Nodup)
include hl nd
end
section
variable {s:aG}{left:List Int}(hl:left.length=s.ps.length)(nd:(s.ps.map (·.1)).Nodup)
include hl nd
end
noncomputable def cA(K:PM)(H:Hp)(E:XK)(n:PH):Prop:=∀H',av H H'->E (.ref (ao K n)) none H'
inductive cq where
 |enrol (z:PH)
 |propose (z:PH) (x:Int)
 |give (x:Int)
 |leave (z:PH)
 |withdraw (z:PH)
 |want (v n:PH)
 |unwant (v n:PH)
noncomputable def cq.due(s:aG):cq->Option PH
 |.enrol z=>if dw z=false then some "NoName" else if z∈s.ps.map (·.1)then some "Twice" else if 20<=s.ps.length then some "Full" else none
 |.propose z x=>if dw z=false then some "NoName" else if z∈s.cs.map (·.1)then some "Twice" else if x<1\/1000000000<x then some "TooMuch" else if 12<=s.cs.length then some "Full" else none
 |.give x=>if x<0\/1000000000<x then some "TooMuch" else none
 |.leave z=>if z∈s.ps.map (·.1)then none else some "NoVoter"
 |.withdraw z=>if z∈s.cs.map (·.1)then none else some "NoWork"
 |.want v n=>if v∈s.ps.map (·.1)then(if n∈s.cs.map (·.1)then none else some "NoWork")else some "NoVoter"
 |.unwant v n=>if v∈s.ps.map (·.1)then(if n∈s.cs.map (·.1)then none else some "NoWork")else some "NoVoter"
noncomputable def Tx(z:PH):Prop:=aV z/\z.length<=1000
theorem Cb{ps:List (PH×Int)}{n:PH}(nd:(ps.map (·.1)).Nodup)(h:n∈ps.map (·.1)):(gK (eD ps) (.inr n)).isSome=true:=by
 obtain⟨p,hp,rfl⟩:=P9.mp h
 rw[nR nd (show(p.1,p.2)∈ps from hp)]
 rfl
theorem wu{z a:PH}{n:Nat}(hz:Tx z)(ha:(Qp++a).length=n)(hn:n<=1000):(Qp++a).length<=PZ/\(Uw z).length<=PZ/\(Qp++a++Uw z).length<=PZ:=by
 have hsz:=size_eq
 have h2:=hz.2
 have hrp:=repr_fits hz.1 (show z.length<=100000 by omega)
 exists by omega,by omega
 rw[Qv]
 omega
section
variable {a b c x:Int}
end
section
variable {H H':Hp}{lp lw ld:PK}{L:List PK}{s:aG}{rows:List WkT}
end
section
variable {H:Hp}{l t:PK}{rows:List (PH×Int)}{i:Nat}{z:PH}{y:Int}
end
section
variable {H:Hp}{lp lw ld:PK}{s:aG}{rows:List WkT}
end
noncomputable def iT(n:Int):PH:=((toString n:String):PH)
theorem qK(n:Nat):(iT (n:Int)).cps.toList=(Uv 10 n).map UP:=XT n
theorem AF{n:Int}{k:Nat}(h0:0<=n)(hk:0<k)(h:n<10 ^ k):(iT n).length<=k:=by
 obtain⟨m,rfl⟩:=Tr h0
 have hm:m<10 ^ k:=by exact_mod_cast h
 have:=(Nat.length_toDigits_le_iff (b:=10) (n:=m) (k:=k) (by decide) hk).mpr hm
 rw[show(iT (m:Int)).length=(iT (m:Int)).cps.toList.length by simp[UC],qK,P7]
 exact this
theorem IL{a b:Int}(ha:0<=a)(hb:0<=b)(h:iT a=iT b):a=b:=by
 obtain⟨m,rfl⟩:=Tr ha
 obtain⟨n,rfl⟩:=Tr hb
 have e:(Uv 10 m).map UP=(Uv 10 n).map UP:=by rw[<-qK,<-qK,h]
 have e2:Uv 10 m=Uv 10 n:=Xu (fun x y hxy=>Char.ext (UInt32.toNat_inj.mp hxy)) |>.mp e
 have:=congrArg (fun l=>Nat.ofDigitChars 10 l 0) e2
 simp only[Nat.ofDigitChars_toDigits (b:=10) (by decide) (by decide)]at this
 omega
noncomputable def Ob:Int:=10 ^ 500
theorem Kt{n:Int}(h0:0<=n)(h:n<Ob):n.natAbs.log2<1920:=by
 obtain⟨m,rfl⟩:=Tr h0
 have hm:m<2 ^ 1920:=by
  have h2:(m:Int)<((2 ^ 1920:Nat):Int):=WL h (by decide +kernel)
  exact Int.ofNat_lt.mp h2
 by_cases e:m=0
 ·subst e;decide
 ·exact(Vn (by simpa using e)).mpr (by rw[YM];exact hm)
noncomputable def xH(p:PH×Int):PH:=Qp++p.1++" "++iT p.2
noncomputable def E1(rs:List (PH×Int)):PH:=QO ", " (rs.map xH)
noncomputable def jW(r:jj):PH:=Qp++r.1++" "++iT r.2.1++": "++E1 r.2.2
noncomputable def rH(rs:List jj)(g:Int):PH:=if rs=[]then "none" else Qp++QO "; " (rs.map jW)++" of "++iT g
noncomputable def xA(ns:List PH):PH:=if ns=[]then "-" else QO "+" ns
noncomputable def nC(r:PH×Int×List PH):PH:=Qp++r.1++" "++iT r.2.1++" "++xA r.2.2
noncomputable def rT(rs:List (PH×Int×List PH)):PH:=if rs=[]then "none" else QO ", " (rs.map nC)
noncomputable def Sm(x:PH):Prop:=x.length<=8
noncomputable def Nb(n:Int):Prop:=0<=n/\n<Ob
theorem Nb.len{n:Int}(h:Nb n):(iT n).length<=600:=AF h.1 (by decide) (WL h.2 (by decide +kernel))
theorem Nb.log{n:Int}(h:Nb n):n.natAbs.log2<1920:=Kt h.1 h.2
theorem dU:(", ":PH).length=2/\("; ":PH).length=2/\(" ":PH).length=1/\(": ":PH).length=2/\(" of ":PH).length=4/\("+":PH).length=1/\("-":PH).length=1/\(Qp).length=0:=by decide +kernel
theorem wo{p:PH×Int}(h1:Sm p.1)(h2:Nb p.2):(xH p).length<=609:=by
 obtain⟨_,_,e,_,_,_,_,e0⟩:=dU
 have:=h2.len
 unfold Sm at h1
 unfold xH
 simp only[Qv]
 omega
theorem yS{rs:List (PH×Int)}(hr:rs.length<=20)(h:∀p∈rs,Sm p.1/\Nb p.2):(E1 rs).length<=12220:=by
 obtain⟨e,_⟩:=dU
 have:=j0 (sep:=", ") (m:=609) (xs:=rs.map xH) (fun x hx=>by
  obtain⟨p,hp,rfl⟩:=P9.mp hx
  exact wo (h p hp).1 (h p hp).2)
 rw[P7,e]at this
 have:rs.length*(609+2)<=20*611:=SD _ hr
 unfold E1
 omega
theorem zt{r:jj}(h1:Sm r.1)(h2:Nb r.2.1)(hr:r.2.2.length<=20)(h:∀p∈r.2.2,Sm p.1/\Nb p.2):(jW r).length<=12840:=by
 obtain⟨_,_,e,e2,_,_,_,e0⟩:=dU
 have:=h2.len
 have:=yS hr h
 unfold Sm at h1
 unfold jW
 simp only[Qv]
 omega
theorem xo{ns:List PH}(hn:ns.length<=20)(h:∀x∈ns,Sm x):(xA ns).length<=180:=by
 obtain⟨_,_,_,_,_,e,e2,_⟩:=dU
 unfold xA
 split
 ·omega
 ·have:=j0 (sep:="+") (m:=8) (xs:=ns) h
  rw[e]at this
  have:ns.length*(8+1)<=20*9:=SD _ hn
  omega
theorem y8{r:PH×Int×List PH}(h1:Sm r.1)(h2:Nb r.2.1)(hr:r.2.2.length<=20)(h:∀x∈r.2.2,Sm x):(nC r).length<=800:=by
 obtain⟨_,_,e,_,_,_,_,e0⟩:=dU
 have:=h2.len
 have:=xo hr h
 unfold Sm at h1
 unfold nC
 simp only[Qv]
 omega
theorem CO{s:aG}{r1 r2:List (Nat×Int)}(h1:gU (bP (cc s) (a9 s)) (PF (aH s)) [] r1)(h2:gU (bP (cc s) (a9 s)) (PF (aH s)) [] r2):r1=r2:=DY h1.run h2.run
open Classical in
noncomputable def runOf(s:aG):List (Nat×Int):=if h:∃run,gU (bP (cc s) (a9 s)) (PF (aH s)) [] run then h.choose else[]
theorem vf{s:aG}{run:List (Nat×Int)}(h:gU (bP (cc s) (a9 s)) (PF (aH s)) [] run):runOf s=run:=by
 unfold runOf
 rw[dif_pos ⟨run,h⟩]
 exact CO (Exists.choose_spec (⟨run,h⟩:∃run,gU (bP (cc s) (a9 s)) (PF (aH s)) [] run)) h
noncomputable def toldOf(s:aG):List jj:=(aT (a9 s) (aH s) (runOf s)).map (bK s)
noncomputable def lj(s:aG):aG:=if s.ps=[]\/s.cs=[]then s else dS s (runOf s)
noncomputable def sR(s:aG):PH:=if s.ps=[]\/s.cs=[]then "none" else rH (toldOf s) (fc s)
noncomputable def cq.app(s:aG):cq->aG
 |.enrol z=>{s with ps:=s.ps++[(z,0)]}
 |.propose z x=>{s with cs:=s.cs++[(z,x)]}
 |.give x=>qI s x
 |.leave z=>Jl s z (vP s.ps z)
 |.withdraw z=>{s with cs:=s.cs.filter fun p=>decide (p.1≠z),ws:=s.ws.filter fun p=>!decide (p.2=z)}
 |.want v n=>if(v,n)∈s.ws then s else{s with ws:=s.ws++[(v,n)]}
 |.unwant v n=>{s with ws:=s.ws.filter fun p=>!decide (p=(v,n))}
inductive Act where
 |deed (D:cq)
 |close
 |tell (t:PH)
 |no (cl:PH)
noncomputable def CA(z:PH):Int:=(Wf z).getD 0
noncomputable def Cn(s:aG)(w:PH):Act:=if w="close" then .close else if w="works" then .tell (rT (s.cs.map (wX s)))else if w="pot" then .tell (iT s.pot)else if w="given" then .tell (iT s.giv)else if w="spent" then .tell (iT s.spt)else .no "NoRow"
noncomputable def act2(s:aG)(w a:PH):Act:=if w="purse" then(if a∈s.ps.map (·.1)then .tell (iT (vP s.ps a))else .no "NoVoter")else if w="enrol" then .deed (.enrol a)else if w="leave" then .deed (.leave a)else if w="give" then(if i8 a then .deed (.give (CA a))else .no "NoRow")else if w="withdraw" then .deed (.withdraw a)else .no "NoRow"
noncomputable def yc(s:aG)(w a b:PH):Act:=if w="propose" then(if i8 b then .deed (.propose a (CA b))else .no "NoRow")else if w="want" then .deed (.want a b)else if w="unwant" then .deed (.unwant a b)else .no "NoRow"
noncomputable def Ee(s:aG):List PH->Act
 |[w]=>Cn s w
 |[w,a]=>act2 s w a
 |[w,a,b]=>yc s w a b
 |_=>.no "NoRow"
noncomputable def df(s:aG)(row:PH):Act:=if("":PH)∈QK row " " then .no "NoRow" else Ee s (QK row " ")
noncomputable def xr(K:PM)(A:Hp->List PK->aG->Prop)(H:Hp)(fp:List PK)(s:aG)(Q:VK)(E:XK):Act->Prop
 |.deed D=>(D.due s=none->∀H' fp',A H' fp' (D.app s)->b7 fp H H'->ji fp fp' H->Q (.str "ok") H')/\∀cl,D.due s=some cl->cA K H E cl
 |.close=>∀H' fp',A H' fp' (lj s)->b7 fp H H'->ji fp fp' H->Q (.str (sR s)) H'
 |.tell t=>∀H',av H H'->Q (.str t) H'
 |.no cl=>cA K H E cl
structure lL(s:aG):Prop where
 g:oX s
 nv:∀p∈s.ps,dw p.1=true
 nc:∀p∈s.cs,dw p.1=true
 pot:Nb s.pot
 giv:Nb s.giv
 spt:Nb s.spt
theorem nB{n:Int}(h0:0<=n)(h:n<=1000000000000):Nb n:=⟨h0,Uj h (by decide +kernel)⟩
noncomputable def cE(K:PM)(H:Hp)(d:PK)(fp:List PK)(s:aG):Prop:=∃dx c fpc,H d=some (.ins (ao K "Desk") dx [("chest",.ref c)])/\aO K H c fpc s/\d∉fpc/\fp=d::fpc
theorem E4{cs:List Int}{rows:List (List Int)}{M:Int}:∀{run:List (Nat×Int)}{ps:List Int}{done:List Nat},ps.length=rows.length->gU (bP cs rows) (PF ps) done run->(∀i,0<=PF ps i/\PF ps i<=M)->∀x∈aT rows ps run,∀y∈x.2.2,y<=M
 |[],ps,done,hl,h,h0,x,hx,y,hy=>by cases hx
 |(k,L)::r,ps,done,hl,h,h0,x,hx,y,hy=>by
  cases h with
  |step nx ex rest=>
   have hL:=nx.pos
   have hM:0<=M:=Tj (h0 0).1 (h0 0).2
   rw[aT]at hx
   rcases Qa.mp hx with rfl|hx
   ·have hy:y∈nE rows ps k L:=hy
    obtain⟨i,_,rfl⟩:=P9.mp hy
    have h1:=(h0 i).2
    unfold Bs
    split<;>omega
   ·refine E4 (by rw[il];exact hl) (by rw[iX hl];exact rest) (fun i=>?_) x hx y hy
    rw[iX hl]
    exact⟨DN (h0 i).1,Tj (II (h0 i).1 (by omega)) (h0 i).2⟩
theorem JP{s:aG}(G:oX s):(0:Int)<(fc s:Int)/\((fc s:Nat):Int)<=232792560 ^ 13:=by
 have h1:=fX s.ps.length (s.cs.length+1)
 have h2:=pT (v:=s.ps.length) (w:=s.cs.length+1) G.v20 (by have:=G.n12;omega)
 unfold fc
 exact⟨by exact_mod_cast h1,h2⟩
theorem NV{s:aG}(G:oX s):Nb ((fc s:Nat):Int):=⟨Tb (JP G).1,Uj (JP G).2 (by decide +kernel)⟩
theorem FE{s:aG}(G:lL s){run:List (Nat×Int)}(rx:gU (bP (cc s) (a9 s)) (PF (aH s)) [] run):
  ∀r∈(aT (a9 s) (aH s) run).map (bK s),Sm r.1/\Nb r.2.1/\r.2.2.length<=20/\∀p∈r.2.2,Sm p.1/\Nb p.2:=fun r hr=>by
 obtain⟨x,hx,rfl⟩:=P9.mp hr
 obtain⟨b1,b2⟩:=(iQ rx).2 x hx
 obtain⟨g1,g2⟩:=JP G.g
 have hm:=getD_mem (xs:=s.cs) ("",0) b1
 have hcb:=G.g.cb _ hm
 refine⟨(fI (G.nc _ hm)).2,nB (by have:=hcb.1;show(0:Int)<=(s.cs.getD x.1 ("",0)).2;omega) hcb.2,?_,fun p hp=>?_⟩
 ·refine P6 (RB _ _) ?_
  rw[List.length_zip,P7]
  exact P6 (Xj _ _) G.g.v20
 ·obtain⟨hz,hpos⟩:=QL.mp hp
  have hpos:=of_decide_eq_true hpos
  have hpl:(aH s).length=(a9 s).length:=by simp[aH,a9]
  obtain⟨z1,z2⟩:=TK hz
  obtain⟨v,hv,e⟩:=P9.mp z1
  exists ?_,Tb hpos
  ·rw[<-e]
   exact(fI (G.nv v hv)).2
  ·have:=E4 (M:=1000000000000*232792560 ^ 13) hpl rx (fun i=>?_) x hx p.2 z2
   ·exact Uj this (by decide +kernel)
   ·by_cases hi:i<s.ps.length
    ·rw[Am hi]
     have hb:=G.g.p0 _ (getD_mem (xs:=s.ps) ("",0) hi)
     exact⟨UO hb.1 (Tb g1),Tj (US hb.2 (Tb g1)) (Xm g2 (by decide))⟩
    ·rw[Ds (by simp[aH];omega)]
     exact⟨RU _,by decide +kernel⟩
noncomputable def fP(ps:List (PH×Int)):Int:=(ps.map (·.2)).sum
theorem Fd:∀{ps:List (PH×Int)},(∀p∈ps,0<=p.2)->0<=fP ps/\∀p∈ps,p.2<=fP ps
 |[],_=>⟨RU _,fun _ h=>nomatch h⟩
 |q::r,h=>by
  obtain⟨h1,h2⟩:=Fd (ps:=r) fun p hp=>h p (Qs _ hp)
  have h0:=h q (QI ..)
  have e:fP (q::r)=q.2+fP r:=by simp[fP]
  refine⟨by omega,fun p hp=>?_⟩
  rcases Qa.mp hp with rfl|hp
  ·omega
  ·have:=h2 p hp;omega
theorem Cy(x:Int):∀ps:List (PH×Int),fP (ps.map fun p=>(p.1,p.2+x))=fP ps+x*ps.length
 |[]=>by simp[fP]
 |q::r=>by
  have:=Cy x r
  simp only[fP,Qu,Rb,QV]at this ⊢
  rw[this]
  have:x*((r.length+1:Nat):Int)=x*(r.length:Int)+x:=by rw[TY,Uq];simp
  omega
theorem y6:∀{ps:List (PH×Int)}{z:PH},(ps.map (·.1)).Nodup->z∈ps.map (·.1)->fP (ps.filter fun p=>decide (p.1≠z))+vP ps z=fP ps
 |[],_,_,h=>nomatch h
 |q::r,z,nd,h=>by
  have hq:q.1∉r.map (·.1):=(RX.mp nd).1
  rw[vP]
  by_cases e:q.1=z
  ·subst e
   rw[if_pos rfl,SR,if_neg (by simp),(Sd (p:=fun p:PH×Int=>decide (p.1≠q.1)) (l:=r)).mpr fun p hp=>decide_eq_true fun z=>hq (P9.mpr ⟨p,hp,z⟩)]
   simp[fP];omega
  ·have:=y6 (ps:=r) (z:=z) (RX.mp nd).2 (by
    rcases Qa.mp h with h|h
    ·exact absurd h.symm e
    ·exact h)
   rw[if_neg e,SR,if_pos (decide_eq_true e)]
   simp only[fP,Qu,Rb]at this ⊢
   omega
structure cG(n:Nat)(s:aG):Prop where
 d:lL s
 nd:(s.ps.map (·.1)).Nodup
 nd2:(s.cs.map (·.1)).Nodup
 w:s.ws.length<=n
 gn:s.giv<=n*1000000000
 co:s.spt+s.pot+fP s.ps=s.giv
theorem cG.of{n:Nat}{s:aG}(hn:n<=900)(v20:s.ps.length<=20)(n12:s.cs.length<=12)(nv:∀p∈s.ps,dw p.1=true)(nc:∀p∈s.cs,dw p.1=true)(aw:∀p∈s.ws,aV p.1/\aV p.2)
  (cb:∀p∈s.cs,1<=p.2/\p.2<=1000000000000) (p0:∀p∈s.ps,0<=p.2) (nd:(s.ps.map (·.1)).Nodup) (nd2:(s.cs.map (·.1)).Nodup) (w:s.ws.length<=n) (gn:s.giv<=n*1000000000) (h1:0<=s.pot) (h2:0<=s.spt) (co:s.spt+s.pot+fP s.ps=s.giv):cG n s:=by
 obtain⟨z1,z2⟩:=Fd p0
 have hn':(n:Int)<=900:=by exact_mod_cast hn
 exact⟨⟨⟨v20,n12,fun p hp=>C0 (nv p hp),fun p hp=>C0 (nc p hp),aw,cb,fun p hp=>⟨p0 p hp,by have:=z2 p hp;omega⟩,P6 w hn⟩,nv,nc,nB h1 (by omega),nB (by omega) (by omega),nB h2 (by omega)⟩,nd,nd2,w,gn,co⟩
theorem cG.up{n m:Nat}{s:aG}(g:cG n s)(h:n<=m):cG m s:=by
 have h1:=g.gn
 have h2:(n:Int)<=m:=by exact_mod_cast h
 exact⟨g.d,g.nd,g.nd2,P6 g.w h,by omega,g.co⟩
theorem uT{zs:List PH}{z:PH}(h:zs.Nodup)(n:z∉zs):(zs++[z]).Nodup:=Wz.mpr ⟨h,YV (fun _ h=>nomatch h) .nil,fun a ha b hb e=>n (by rw[QR]at hb;rw[<-hb,<-e];exact ha)⟩
theorem cG.app{n:Nat}{s:aG}(g:cG n s)(hn:n+1<=900){D:cq}(hd:D.due s=none):cG (n+1) (D.app s):=by
 have G:=g.d.g
 have hgn:=g.gn
 have hco:=g.co
 have hp0:∀p∈s.ps,0<=p.2:=fun p hp=>(G.p0 p hp).1
 have hw:s.ws.length<=n+1:=Nat.le_succ_of_le g.w
 have hgn1:s.giv<=((n+1:Nat):Int)*1000000000:=by rw[TY];omega
 have same:∀{s':aG},s'.ps=s.ps->s'.pot=s.pot->s'.giv=s.giv->s'.spt=s.spt->s'.cs.length<=12->(∀p∈s'.cs,dw p.1=true/\1<=p.2/\p.2<=1000000000000)->(s'.cs.map (·.1)).Nodup->(∀p∈s'.ws,aV p.1/\aV p.2)->s'.ws.length<=n+1->cG (n+1) s':=fun {s'} e1 e2 e3 e4 h1 h2 h3 h4 h5=>by
  refine cG.of hn (by rw[e1];exact G.v20) h1 (by rw[e1];exact g.d.nv) (fun p hp=>(h2 p hp).1) h4 (fun p hp=>(h2 p hp).2) (by rw[e1];exact hp0) (by rw[e1];exact g.nd) h3 h5 (by rw[e3];exact hgn1) (by rw[e2];exact g.d.pot.1) (by rw[e4];exact g.d.spt.1) (by rw[e1,e2,e3,e4];exact hco)
 have hcs:∀p∈s.cs,dw p.1=true/\1<=p.2/\p.2<=1000000000000:=fun p hp=>⟨g.d.nc p hp,G.cb p hp⟩
 cases D with
 |enrol z=>
  rw[cq.due]at hd
  split at hd
  ·cases hd
  rename_i a1
  split at hd
  ·cases hd
  rename_i a2
  split at hd
  ·cases hd
  rename_i a3
  have hz:dw z=true:=by cases h:dw z<;>simp_all
  have hm:∀p∈s.ps++[(z,0)],dw p.1=true/\0<=p.2:=fun p hp=>by
   rcases QC.mp hp with h|h
   ·exact⟨g.d.nv p h,hp0 p h⟩
   ·rw[QR]at h;subst h;exact⟨hz,RU _⟩
  refine cG.of hn (by simp[cq.app];omega) G.n12 (fun p hp=>(hm p hp).1) g.d.nc G.aw G.cb (fun p hp=>(hm p hp).2) ?_ g.nd2 hw hgn1 g.d.pot.1 g.d.spt.1 ?_
  ·simp only[cq.app,Rk,Qu,S7]
   exact uT g.nd a2
  ·simp only[cq.app]
   rw[<-hco]
   simp[fP]
 |propose z x=>
  rw[cq.due]at hd
  split at hd
  ·cases hd
  rename_i a1
  split at hd
  ·cases hd
  rename_i a2
  split at hd
  ·cases hd
  rename_i a3
  split at hd
  ·cases hd
  rename_i a4
  have hz:dw z=true:=by cases h:dw z<;>simp_all
  refine same rfl rfl rfl rfl (by simp[cq.app];omega) (fun p hp=>?_) ?_ G.aw hw
  ·rcases QC.mp hp with h|h
   ·exact hcs p h
   ·rw[QR]at h;subst h;exact⟨hz,by omega,by omega⟩
  ·simp only[cq.app,Rk,Qu,S7]
   exact uT g.nd2 a2
 |give x=>
  rw[cq.due]at hd
  split at hd
  ·cases hd
  rename_i a1
  have hx:0<=x/\x<=1000000000:=by omega
  have hg:s.giv+x<=((n+1:Nat):Int)*1000000000:=by rw[TY];omega
  have hpot:=g.d.pot.1
  show cG (n+1) (qI s x)
  unfold qI
  split
  ·exact cG.of hn G.v20 G.n12 g.d.nv g.d.nc G.aw G.cb hp0 g.nd g.nd2 hw hg (by show 0<=s.pot+x;omega) g.d.spt.1 (by show s.spt+(s.pot+x)+fP s.ps=s.giv+x;omega)
  ·rename_i hne
   have hl:0<(s.ps.length:Int):=by have:=TM.mpr hne;omega
   have hq0:0<=(s.pot+x)/(s.ps.length:Int):=Yn (by omega) (by omega)
   have hq1:(s.pot+x)/(s.ps.length:Int)*(s.ps.length:Int)<=s.pot+x:=Int.ediv_mul_le _ (by omega)
   generalize (s.pot+x)/(s.ps.length:Int)=q at *
   have hm:∀p∈s.ps.map (fun p=>(p.1,p.2+q)),dw p.1=true/\0<=p.2:=fun p hp=>by
    obtain⟨r,hr,rfl⟩:=P9.mp hp
    exact⟨g.d.nv r hr,by have:=hp0 r hr;show 0<=r.2+q;omega⟩
   refine cG.of hn (by simp[vj];exact G.v20) G.n12 (fun p hp=>(hm p hp).1) g.d.nc G.aw G.cb (fun p hp=>(hm p hp).2) (by simp only[vj];rw[map_fst];exact g.nd) g.nd2 hw hg (by show 0<=s.pot+x-q*(s.ps.length:Int);omega) g.d.spt.1 ?_
   show s.spt+(s.pot+x-q*(s.ps.length:Int))+fP (s.ps.map fun p=>(p.1,p.2+q))=s.giv+x
   rw[Cy]
   omega
 |leave z=>
  rw[cq.due]at hd
  split at hd
  ·rename_i a1
   have h1:=y6 g.nd a1
   have h2:=hp0 _ (qf a1)
   have hpot:=g.d.pot.1
   exact cG.of hn (P6 (RB _ _) G.v20) G.n12 (fun p hp=>g.d.nv p (QL.mp hp).1) g.d.nc (fun p hp=>G.aw p (QL.mp hp).1) G.cb (fun p hp=>hp0 p (QL.mp hp).1) (rJ g.nd) g.nd2 (P6 (RB _ _) hw) hgn1 (by show 0<=s.pot+vP s.ps z;omega) g.d.spt.1 (by
    show s.spt+(s.pot+vP s.ps z)+fP (s.ps.filter fun p=>decide (p.1≠z))=s.giv
    omega)
  ·cases hd
 |withdraw z=>
  exact same rfl rfl rfl rfl (P6 (RB _ _) G.n12) (fun p hp=>hcs p (QL.mp hp).1) (rJ g.nd2) (fun p hp=>G.aw p (QL.mp hp).1) (P6 (RB _ _) hw)
 |want v m=>
  rw[cq.due]at hd
  split at hd
  ·rename_i a1
   split at hd
   ·rename_i a2
    rw[cq.app]
    split
    ·exact same rfl rfl rfl rfl G.n12 hcs g.nd2 G.aw hw
    ·refine same rfl rfl rfl rfl G.n12 hcs g.nd2 (fun p hp=>?_) (by simp;exact g.w)
     rcases QC.mp hp with h|h
     ·exact G.aw p h
     ·rw[QR]at h;subst h
      obtain⟨x,hx,e⟩:=P9.mp a1
      obtain⟨y,hy,e'⟩:=P9.mp a2
      exact⟨by rw[<-e];exact G.ap x hx,by rw[<-e'];exact G.ac y hy⟩
   ·cases hd
  ·cases hd
 |unwant v m=>
  exact same rfl rfl rfl rfl G.n12 hcs g.nd2 (fun p hp=>G.aw p (QL.mp hp).1) (P6 (RB _ _) hw)
theorem FA{g:Int}:∀{l:List Int},g*(l.map (· / g)).sum+(l.map (· % g)).sum=l.sum
 |[]=>by simp
 |x::l=>by
  have:=FA (g:=g) (l:=l)
  have:=VE x g
  simp only[Qu,Rb,Uq]at *
  omega
theorem vO(g:Int):∀l:List Int,(l.map (· * g)).sum=l.sum*g
 |[]=>by simp
 |x::l=>by rw[Qu,Rb,Rb,vO g l,Va]
theorem za{rows:List (List Int)}:∀{run:List (Nat×Int)}{ps:List Int},(aT rows ps run).map (·.1)=run.map (·.1)
 |[],_=>rfl
 |(k,L)::r,ps=>by rw[aT,Qu,Qu,za]
theorem cG.closed{n:Nat}{s:aG}(g:cG n s)(hn:n<=900){run:List (Nat×Int)}(rx:gU (bP (cc s) (a9 s)) (PF (aH s)) [] run):cG n (dS s run):=by
 have GC:=g.d.g.closed rx
 have G:=g.d.g
 have g0:0<(fc s:Int):=by exact_mod_cast fX s.ps.length (s.cs.length+1)
 have hnm:=lD (s:=s) (run:=run)
 have hd:=HR rx
 have hsum:=rW (by simp[aH,a9]) rx
 rw[<-hZ]at hsum
 have hco:=g.co
 have e1:(aH s).sum=fP s.ps*(fc s:Int):=by
  unfold aH fP
  rw[<-vO,Qn];rfl
 have e2:(run.map fun x=>(bP (cc s) (a9 s)).c x.1).sum=(((aT (a9 s) (aH s) run).map (bK s)).map (·.2.1)).sum*(fc s:Int):=by
  rw[<-vO,Qn,Qn]
  have e3:(run.map fun x=>(bP (cc s) (a9 s)).c x.1)=(run.map (·.1)).map (bP (cc s) (a9 s)).c:=by rw[Qn];rfl
  rw[e3,<-za (rows:=a9 s) (ps:=aH s),Qn]
  exact congrArg List.sum (Sw fun x hx=>Ko ((iQ rx).2 x hx).1)
 have e4:=FA (g:=(fc s:Int)) (l:=bL (aH s) (aT (a9 s) (aH s) run))
 obtain⟨k,hk⟩:=hd
 have e5:fP (dS s run).ps=((bL (aH s) (aT (a9 s) (aH s) run)).map (· / (fc s:Int))).sum:=by
  show fP ((s.ps.map (·.1)).zip _)=_
  unfold fP
  rw[List.map_snd_zip (by rw[P7,P7,pJ];simp[aH])]
 have e6:(dS s run).pot=s.pot+k:=by
  show s.pot+_/(fc s:Int)=_
  rw[hk,Int.mul_ediv_cancel_left _ (by omega)]
 have e7:(dS s run).spt=s.spt+(((aT (a9 s) (aH s) run).map (bK s)).map (·.2.1)).sum:=rfl
 have k0:0<=k:=by
  have h1:0<=(fc s:Int)*k:=by
   rw[<-hk]
   exact qh fun x hx=>by
    obtain⟨y,_,rfl⟩:=P9.mp hx
    exact Su _ (by omega)
  exact Int.nonneg_of_mul_nonneg_right h1 g0
 have c0:0<=(((aT (a9 s) (aH s) run).map (bK s)).map (·.2.1)).sum:=qh fun x hx=>by
  obtain⟨y,hy,rfl⟩:=P9.mp hx
  obtain⟨z,hz,rfl⟩:=P9.mp hy
  have:=(G.cb _ (getD_mem (xs:=s.cs) ("",0) ((iQ rx).2 z hz).1)).1
  show 0<=(s.cs.getD z.1 ("",0)).2
  omega
 generalize (((aT (a9 s) (aH s) run).map (bK s)).map (·.2.1)).sum=C at *
 generalize (bL (aH s) (aT (a9 s) (aH s) run)).sum=Z at *
 generalize ((bL (aH s) (aT (a9 s) (aH s) run)).map (· / (fc s:Int))).sum=D at *
 generalize ((bL (aH s) (aT (a9 s) (aH s) run)).map (· % (fc s:Int))).sum=M at *
 have key:D+k+C=fP s.ps:=by
  have:(fc s:Int)*(D+k+C)=(fc s:Int)*fP s.ps:=by
   rw[Uq,Uq,Tt _ C,Tt _ (fP s.ps),<-e2,<-e1]
   omega
  exact Int.eq_of_mul_eq_mul_left (by omega) this
 refine cG.of hn GC.v20 GC.n12 (fun p hp=>?_) (fun p hp=>g.d.nc p (QL.mp hp).1) GC.aw GC.cb (fun p hp=>(GC.p0 p hp).1) (by rw[hnm];exact g.nd) (rJ g.nd2) (P6 (RB _ _) g.w) g.gn (by have:=g.d.pot.1;omega) (by have:=g.d.spt.1;omega) ?_
 ·have:p.1∈s.ps.map (·.1):=by rw[<-hnm];exact P9.mpr ⟨p,hp,rfl⟩
  obtain⟨r,hr,e⟩:=P9.mp this
  rw[<-e];exact g.d.nv r hr
 ·rw[e5,e6,e7]
  show s.spt+C+(s.pot+k)+D=s.giv
  omega
theorem cG.close{n:Nat}{s:aG}(g:cG n s)(hn:n<=900):cG n (lj s):=by
 unfold lj
 split
 ·exact g
 ·by_cases h:∃run,gU (bP (cc s) (a9 s)) (PF (aH s)) [] run
  ·obtain⟨run,rx⟩:=h
   rw[vf rx]
   exact g.closed hn rx
  ·rw[show runOf s=[]from dif_neg h,BO]
   exact g
theorem KQ{D:cq}{s:aG}{cl:PH}(h:D.due s=some cl):cl="NoName"\/cl="Twice"\/cl="NoVoter"\/cl="NoWork"\/cl="TooMuch"\/cl="Full":=by
 cases D<;>simp only[cq.due]at h<;>(repeat' split at h)<;>cases h<;>simp
inductive L9 where
 |txt (t:PH)
 |kin (cl:PH)
noncomputable def jS(s:aG):Act->L9
 |.deed D=>match D.due s with
  |none=>.txt "ok"
  |some cl=>.kin cl
 |.close=>.txt (sR s)
 |.tell t=>.txt t
 |.no cl=>.kin cl
noncomputable def mh(s:aG):Act->aG
 |.deed D=>match D.due s with
  |none=>D.app s
  |some _=>s
 |.close=>lj s
 |.tell _=>s
 |.no _=>s
noncomputable def gz(kf:PH->List Bool)(H H':Hp)(v:V):L9->Prop
 |.txt t=>v=.str t
 |.kin cl=>∃l,v=.ref l/\H l=none/\H' l=some (.lst ((kf cl).map V.bl))
theorem Jx{K:PM}{A:Hp->List PK->aG->Prop}{H:Hp}{fp:List PK}{s:aG}{Q:VK}{E:XK}{act:Act}(hA:∀H',av H H'->A H' fp s)(hn:∀H' fp' t,A H' fp' (mh s act)->b7 fp H H'->ji fp fp' H->jS s act=.txt t->Q (.str t) H')(hx:∀cl,jS s act=.kin cl->cA K H E cl):xr K A H fp s Q E act:=by
 cases act with
 |deed D=>
  refine⟨fun hd H' fp' a b w=>hn H' fp' "ok" (by simp only[mh,hd];exact a) b w (by simp only[jS,hd]),fun cl hd=>hx cl (by simp only[jS,hd])⟩
 |close=>exact fun H' fp' a b w=>hn H' fp' _ a b w rfl
 |tell t=>exact fun H' s'=>hn H' fp _ (hA H' s') (b7.of s') ji.refl rfl
 |no cl=>exact hx cl rfl
theorem cE.but{K:PM}{H H':Hp}{d:PK}{fp l:List PK}{s:aG}(x:cE K H d fp s)(b:b7 l H H')(n:∀a∈fp,a∉l):cE K H' d fp s:=by
 obtain⟨dx,c,fpc,hd,ch,nd,rfl⟩:=x
 exact⟨dx,c,fpc,b.1 _ _ (n d (QI ..)) hd,ch.but b fun a ha=>n a (Qs _ ha),nd,rfl⟩
theorem cE.same{K:PM}{H H':Hp}{d:PK}{fp:List PK}{s:aG}(x:cE K H d fp s)(b:av H H'):cE K H' d fp s:=x.but (b7.of (l:=[]) b) (by simp)
theorem cE.there{K:PM}{H:Hp}{d:PK}{fp:List PK}{s:aG}(x:cE K H d fp s):∀a∈fp,H a≠none:=by
 obtain⟨dx,c,fpc,hd,ch,nd,rfl⟩:=x
 intro a ha
 rcases Qa.mp ha with rfl|ha
 ·rw[hd];exact fun z=>nomatch z
 ·exact ch.there a ha
theorem LC{s:aG}{row cl:PH}(h:jS s (df s row)=.kin cl):cl="NoName"\/cl="Twice"\/cl="NoVoter"\/cl="NoWork"\/cl="TooMuch"\/cl="Full"\/cl="NoRow":=by
 have hact:∀cl,df s row=.no cl->cl="NoVoter"\/cl="NoRow":=fun cl h=>by
  unfold df at h
  split at h
  ·cases h;exact .inr rfl
  ·unfold Ee at h
   split at h
   ·unfold Cn at h
    (repeat' split at h)<;>cases h
    exact .inr rfl
   ·unfold act2 at h
    (repeat' split at h)<;>cases h<;>first|exact .inl rfl|exact .inr rfl
   ·unfold yc at h
    (repeat' split at h)<;>cases h<;>exact .inr rfl
   ·cases h;exact .inr rfl
 cases e:df s row with
 |deed D=>
  rw[e]at h
  simp only[jS]at h
  split at h
  ·cases h
  ·rename_i c hd
   cases h
   rcases KQ hd with h|h|h|h|h|h<;>simp[h]
 |close=>rw[e]at h;cases h
 |tell t=>rw[e]at h;cases h
 |no c=>
  rw[e]at h
  cases h
  rcases hact cl e with h|h<;>simp[h]
theorem cG.next{n:Nat}{s:aG}(g:cG n s)(hn:n+1<=900)(a:Act):cG (n+1) (mh s a):=by
 cases a with
 |deed D=>
  simp only[mh]
  split
  ·rename_i hd;exact g.app hn hd
  ·exact g.up (Rz _)
 |close=>exact(g.close (by omega)).up (Rz _)
 |tell t=>exact g.up (Rz _)
 |no cl=>exact g.up (Rz _)
theorem LN:∀{p q A B:List Nat},p++32::A=q++32::B->32∉p->32∉q->p=q/\A=B
 |[],[],A,B,h,_,_=>⟨rfl,(S5 h).2⟩
 |[],c::q,A,B,h,_,hq=>absurd (Qa.mpr (.inl (S5 h).1)) hq
 |c::p,[],A,B,h,hp,_=>absurd (Qa.mpr (.inl (S5 h).1.symm)) hp
 |c::p,e::q,A,B,h,hp,hq=>by
  obtain⟨h1,h2⟩:=S5 h
  obtain⟨h3,h4⟩:=LN h2 (fun z=>hp (Qs _ z)) fun z=>hq (Qs _ z)
  exact⟨by rw[h1,h3],h4⟩
theorem zu:∀{ps qs:List (List Nat)},ps≠[]->qs≠[]->(∀p∈ps,32∉p)->(∀p∈qs,32∉p)->dR ps=dR qs->ps=qs
 |[],_,h,_,_,_,_=>absurd rfl h
 |_::_,[],_,h,_,_,_=>absurd rfl h
 |[p],[q],_,_,_,_,h=>by rw[show p=q from h]
 |[p],q::q2::r,_,_,hp,_,h=>absurd (show 32∈p by rw[show p=q++32::dR (q2::r)from h];simp) (hp p (by simp))
 |p::p2::r,[q],_,_,_,hq,h=>absurd (show 32∈q by rw[<-show p++32::dR (p2::r)=q from h];simp) (hq q (by simp))
 |p::p2::r,q::q2::r2,_,_,hp,hq,h=>by
  obtain⟨h1,h2⟩:=LN (show p++32::dR (p2::r)=q++32::dR (q2::r2)from h) (hp p (by simp)) (hq q (by simp))
  rw[h1,zu (by simp) (by simp) (fun x hx=>hp x (Qs _ hx)) (fun x hx=>hq x (Qs _ hx)) h2]
noncomputable def Wd(z:PH):Prop:=z.length<=40/\∀c∈z.cps.toList,c<128/\c≠32
theorem Wd.asc{z:PH}(h:Wd z):aV z:=du.mpr fun c hc=>(h.2 c hc).1
theorem B7{ws:List PH}(h:ws≠[])(f:∀w∈ws,Wd w):QK (QO " " ws) " "=ws:=by
 rw[zC]
 have e:dR ((QK (QO ⟨#[32]⟩ ws) ⟨#[32]⟩).map (·.cps.toList))=dR (ws.map (·.cps.toList)):=by rw[<-iA,Uh,iA]
 have:=zu (fun e=>CS _ _ (Wh.mp e)) (fun e=>h (Wh.mp e)) (fun p hp=>by
  obtain⟨x,hx,rfl⟩:=P9.mp hp
  exact WB _ 32 x hx) (fun p hp=>by
  obtain⟨x,hx,rfl⟩:=P9.mp hp
  exact fun z=>((f x hx).2 32 z).2 rfl) e
 exact(Xu fun x y hxy=>iM.mpr hxy).mp this
theorem kG{s:aG}{ws:List PH}(h:ws≠[])(f:∀w∈ws,Wd w):df s (QO " " ws)=if("":PH)∈ws then .no "NoRow" else Ee s ws:=by
 unfold df
 rw[B7 h f]
theorem qz{ws:List PH}(hl:ws.length<=20)(f:∀w∈ws,Wd w):Tx (QO " " ws):=by
 exists fU (du.mpr (by rw[zC];simp)) fun x hx=>(f x hx).asc
 have:=j0 (sep:=" ") (m:=40) (xs:=ws) fun x hx=>(f x hx).1
 rw[dU.2.2.1]at this
 have:ws.length*(40+1)<=20*41:=SD _ hl
 omega
noncomputable def W1:List PH:=["close","works","pot","given","spent"]
noncomputable def W2:List PH:=["purse","enrol","leave","give","withdraw"]
noncomputable def W3:List PH:=["propose","want","unwant"]
theorem EY{s:aG}{w:PH}(h:w∉W1):Cn s w=.no "NoRow":=by
 simp only[W1,Qa,Rf,or_false,not_or]at h
 obtain⟨h1,h2,h3,h4,h5⟩:=h
 rw[Cn,if_neg h1,if_neg h2,if_neg h3,if_neg h4,if_neg h5]
theorem Bg{s:aG}{w a:PH}(h:w∉W2):act2 s w a=.no "NoRow":=by
 simp only[W2,Qa,Rf,or_false,not_or]at h
 obtain⟨h1,h2,h3,h4,h5⟩:=h
 rw[act2,if_neg h1,if_neg h2,if_neg h3,if_neg h4,if_neg h5]
theorem E6{s:aG}{w a b:PH}(h:w∉W3):yc s w a b=.no "NoRow":=by
 simp only[W3,Qa,Rf,or_false,not_or]at h
 obtain⟨h1,h2,h3⟩:=h
 rw[yc,if_neg h1,if_neg h2,if_neg h3]
noncomputable def gb(ws:List PH):Prop:=∀s,df s (QO " " ws)=.no "NoRow"
theorem Cz{ws:List PH}(f:∀w∈ws,Wd w)(h:("":PH)∈ws):gb ws:=fun s=>by rw[kG (List.ne_nil_of_mem h) f,if_pos h]
theorem GU:gb []:=fun s=>by
 unfold df
 rw[if_pos]
 rw[GS]
 decide +kernel
theorem kc{ws:List PH}(h:ws≠[])(f:∀w∈ws,Wd w)(g:∀s,Ee s ws=.no "NoRow"):gb ws:=fun s=>by rw[kG h f,g s];split<;>rfl
theorem va{w:PH}{r:List PH}(f:∀x∈w::r,Wd x)(h1:w∉W1)(h2:w∉W2)(h3:w∉W3):gb (w::r):=kc (by simp) f fun s=>by
 match r with
 |[]=>exact EY h1
 |[a]=>exact Bg h2
 |[a,b]=>exact E6 (s:=s) h3
 |a::b::c::r=>rfl
noncomputable def WA:List PH:=(["enrol","leave","give","propose","withdraw","want","unwant"]:List PH)++(["close","purse","pot","given","spent","works"]:List PH)
theorem Ip{w:PH}(h:w∉WA):w∉W1/\w∉W2/\w∉W3:=by
 simp only[WA,W1,W2,W3,QC,Qa,Rf,or_false,not_or]at h ⊢
 simp[h]
noncomputable def Pq(n o:PH):List (List PH):=["enrol",n]::["leave",n]::["give","5"]::["propose",n,"7"]::["withdraw",n]::["close"]::[["want",n,o],["unwant",n,o],["purse",n],["pot"],["works"],["spent"]]
noncomputable def CQ(n o:PH):List (List PH):=Pq n o++([["given"]]:List (List PH))
theorem mJ{n o:PH}{g:List PH}(h:g∈CQ n o):g=(["enrol",n]:List PH)\/g=(["leave",n]:List PH)\/g=(["give","5"]:List PH)\/g=(["propose",n,"7"]:List PH)\/g=(["withdraw",n]:List PH)\/g=(["close"]:List PH)\/g=(["want",n,o]:List PH)\/g=(["unwant",n,o]:List PH)\/g=(["purse",n]:List PH)\/g=(["pot"]:List PH)\/g=(["works"]:List PH)\/g=(["spent"]:List PH)\/g=(["given"]:List PH):=by
 simpa[CQ,Pq]using h
theorem hW:(∀w∈WA,Wd w)/\Wd "5"/\Wd "7"/\Wd "rows"/\Wd ""/\Wd "\t"/\Wd "\n":=by
 unfold Wd
 decide +kernel
theorem nW{n o:PH}{g:List PH}(h:g∈CQ n o):∃w r,g=w::r/\w∈WA/\(∀x∈r,x=n\/x=o\/x="5"\/x="7")/\r.length<=2:=by
 rcases mJ h with rfl|rfl|rfl|rfl|rfl|rfl|rfl|rfl|rfl|rfl|rfl|rfl|rfl<;>exact⟨_,_,rfl,by decide +kernel,by simp,by simp⟩
theorem C3{n o:PH}(hn:Wd n)(ho:Wd o){g:List PH}(h:g∈CQ n o):∀x∈g,Wd x:=fun x hx=>by
 obtain⟨w,r,rfl,hw,hr,_⟩:=nW h
 obtain⟨a,b,c,_⟩:=hW
 rcases Qa.mp hx with rfl|hx
 ·exact a _ hw
 ·rcases hr x hx with rfl|rfl|rfl|rfl
  ·exact hn
  ·exact ho
  ·exact b
  ·exact c
theorem Io{n o e:PH}(hn:Wd n)(ho:Wd o)(he:Wd e){g:List PH}(h:g∈CQ n o):gb (g++[e]):=by
 have f:∀x∈g++[e],Wd x:=fun x hx=>by
  rcases QC.mp hx with hx|hx
  ·exact C3 hn ho h x hx
  ·rw[QR.mp hx];exact he
 refine kc (by simp) f fun s=>?_
 rcases mJ h with rfl|rfl|rfl|rfl|rfl|rfl|rfl|rfl|rfl|rfl|rfl|rfl|rfl<;>first|exact Bg (by decide +kernel)|exact E6 (by decide +kernel)|rfl
theorem JG{n o:PH}(hn:Wd n)(ho:Wd o){g:List PH}(h:g∈CQ n o){j:Nat}(hj:j<g.length):gb (g.take j):=by
 have f:∀x∈g.take j,Wd x:=fun x hx=>C3 hn ho h x (Sl hx)
 match j,hj,f with
 |0,_,_=>rw[List.take_zero];exact GU
 |1,hj,f=>
  rcases mJ h with rfl|rfl|rfl|rfl|rfl|rfl|rfl|rfl|rfl|rfl|rfl|rfl|rfl<;>first|exact kc (by simp) f fun s=>EY (by decide +kernel)|exact absurd hj (by simp)
 |2,hj,f=>
  rcases mJ h with rfl|rfl|rfl|rfl|rfl|rfl|rfl|rfl|rfl|rfl|rfl|rfl|rfl<;>first|exact kc (by simp) f fun s=>Bg (by decide +kernel)|exact absurd hj (by simp)
 |j+3,hj,_=>
  obtain⟨w,r,rfl,_,_,hr⟩:=nW h
  simp at hj;omega
theorem Fh{n z:PH}(hn:Wd n)(hz:Wd z)(hb:i8 z=false):gb ["give",z]/\gb ["propose",n,z]:=by
 have a:=hW.1
 refine⟨kc (by simp) (fun x hx=>?_) fun s=>?_,kc (by simp) (fun x hx=>?_) fun s=>?_⟩
 ·simp at hx
  rcases hx with rfl|rfl
  ·exact a _ (by decide +kernel)
  ·exact hz
 ·show act2 s "give" z=_
  rw[act2,if_neg (by decide +kernel),if_neg (by decide +kernel),if_neg (by decide +kernel),if_pos rfl,hb];rfl
 ·simp at hx
  rcases hx with rfl|rfl|rfl
  ·exact a _ (by decide +kernel)
  ·exact hn
  ·exact hz
 ·show yc s "propose" n z=_
  rw[yc,if_pos rfl,hb];rfl
theorem iJ{a b:PH}(ha:Wd a)(hb:Wd b)(h:a.length+b.length<=40):Wd (a++b):=by
 refine⟨by rw[Qv];exact h,fun c hc=>?_⟩
 rw[cV]at hc
 rcases QC.mp hc with hc|hc
 ·exact ha.2 c hc
 ·exact hb.2 c hc
theorem Oi:∀w∈WA,∀c∈w.cps.toList,c≠9/\c≠10:=by decide +kernel
theorem Lo{w:PH}{c:Nat}(h:c∈w.cps.toList)(hc:c=9\/c=10):w∉WA:=fun z=>by
 have:=Oi w z c h
 omega
theorem AJ:∀w∈WA,3<=w.length/\w.length<=8:=by decide +kernel
noncomputable def um(x:Int):PH:=if x%2=0 then "\t" else "\n"
theorem Kj(x:Int):∃c,(um x).cps.toList=[c]/\(c=9\/c=10):=by
 unfold um
 split
 ·exact⟨9,by decide +kernel,.inl rfl⟩
 ·exact⟨10,by decide +kernel,.inr rfl⟩
theorem og(x:Int):Wd (um x)/\(um x).length=1:=by
 obtain⟨_,_,_,_,_,h1,h2⟩:=hW
 unfold um
 split
 ·exact⟨h1,by decide +kernel⟩
 ·exact⟨h2,by decide +kernel⟩
theorem Cq{w:PH}{r:List PH}{x:Int}(hw:w∈WA)(f:∀y∈r,Wd y):gb ((w++um x)::r)/\gb ((um x++w)::r):=by
 obtain⟨c,hc,hc2⟩:=Kj x
 obtain⟨h1,h2⟩:=og x
 have h3:=hW.1 w hw
 have h4:=(AJ w hw).2
 have g:∀z,c∈z.cps.toList->Wd z->gb (z::r):=fun z hz wz=>by
  obtain⟨a,b,d⟩:=Ip (Lo hz hc2)
  exact va (fun y hy=>by
   rcases Qa.mp hy with rfl|hy
   ·exact wz
   ·exact f y hy) a b d
 exact⟨g _ (by rw[cV,hc];simp) (iJ h3 h1 (by omega)),g _ (by rw[cV,hc];simp) (iJ h1 h3 (by omega))⟩
theorem mX{zs:List PH}{x:Int}{n:Nat}(hn:zs.length=n)(h0:0<n):∃z∈zs,xU (zs.map V.str) (x%(n:Int))=some (.str z):=by
 have h1:0<=x%(n:Int):=Su _ (by omega)
 have h2:x%(n:Int)<n:=Tf _ (by omega)
 have h3:(x%(n:Int)).toNat<zs.length:=by omega
 exists zs[(x%(n:Int)).toNat],RC h3
 have:=bM (xs:=zs.map V.str) (j:=(x%(n:Int)).toNat) (v:=.str zs[(x%(n:Int)).toNat]) (by simp[h3])
 rwa [V5 h1]at this
theorem M9:∀c:Fin 123,97<=c.val->Sj c.val=[c.val-32]:=by decide +kernel
theorem NR{c:Nat}(h:isLet c=true):Sj c=[c-32]:=by
 unfold isLet at h
 simp only[QX,decide_eq_true_eq]at h
 exact M9 ⟨c,by omega⟩ h.1
theorem FD{z:PH}(h:∀c∈z.cps.toList,isLet c=true):(Ff z).cps.toList=z.cps.toList.map (· - 32):=by
 show((Array.mapIdx (fun _ c=>(Sj c).toArray) z.cps).flatten).toList=_
 rw[Array.toList_flatten,Array.toList_mapIdx]
 generalize z.cps.toList=l at h
 have:∀(l:List Nat),(∀c∈l,isLet c=true)->(Ry XD (l.map fun c=>(Sj c).toArray)).flatten=l.map (· - 32):=fun l=>by
  induction l with
  |nil=>intro _;rfl
  |cons c r ih=>
   intro h
   rw[Qu,Qu,Tw,ih fun x hx=>h x (Qs _ hx),NR (h c (QI ..))]
   rfl
 rw[<-this l h]
 have e:List.mapIdx (fun _ c=>(Sj c).toArray) l=l.map fun c=>(Sj c).toArray:=by
  apply SI<;>simp
 rw[e]
theorem AO{z:PH}(h:∀c∈z.cps.toList,isLet c=true):(Ff z).length=z.length:=by rw[<-aP,<-aP,FD h,P7]
theorem LO{z:PH}(h:∀c∈z.cps.toList,isLet c=true):∀c∈(Ff z).cps.toList,65<=c/\c<91:=fun c hc=>by
 rw[FD h]at hc
 obtain⟨d,hd,rfl⟩:=P9.mp hc
 have:=h d hd
 unfold isLet at this
 simp only[QX,decide_eq_true_eq]at this
 show 65<=d-32/\d-32<91
 omega
theorem Fc{z:PH}{H:Hp}{Q:VK}(h:∀c∈z.cps.toList,isLet c=true)(hl:z.length<=1000)(q:Q (.str (Ff z)) H):Af (.str z) [] H Q:=by
 have e:=AO h
 refine⟨z,rfl,rfl,?_,by rw[e,size_eq];omega,q⟩
 have e2:(PySem.placed z fun _ c=>Sj c).size=z.length:=e
 rw[e2]
 exact decide_eq_false (by rw[size_eq];omega)
theorem Ir:∀w∈WA,∀c∈w.cps.toList,isLet c=true:=by decide +kernel
noncomputable def LZ:List PH:=["01","00","1a","-1","+1","1_0",("1":PH)++Vz "0" 13,"a","1.","0x1","1\t","1\n","-0","O","l"]
theorem zx:∀z∈LZ,i8 z=false/\Wd z:=by
 unfold Wd
 decide +kernel
theorem Iu{H:Hp}{Q:VK}{y:Int}(q:Q (.str (um y)) H):uQ (.str "\t\n") (.int (y%2)) H Q:=by
 have e:("\t\n":PH).cps.toList=[9,10]:=by decide +kernel
 have h1:("\t":PH)=⟨#[9]⟩:=by decide +kernel
 have h2:("\n":PH)=⟨#[10]⟩:=by decide +kernel
 refine⟨"\t\n",_,if y%2=0 then 9 else 10,rfl,rfl,by rw[size_eq];decide +kernel,?_,?_⟩
 ·rw[e]
  by_cases h:y%2=0
  ·rw[h];rfl
  ·rw[show y%2=1 by omega];rfl
 ·unfold um at q
  split at q
  ·rename_i h;rw[if_pos h,<-h1];exact q
  ·rename_i h;rw[if_neg h,<-h2];exact q
theorem vU{α β:Type}{F:α->β->Prop}:∀{xs:List α}{ys:List β}{i:Nat}{x:α},Qd F xs ys->xs[i]?=some x->∃y,ys[i]?=some y/\F x y
 |_,_,_,_,.nil,e=>by simp at e
 |_,_,0,_,.cons r _,e=>by simp at e;subst e;exact⟨_,rfl,r⟩
 |_,_,i+1,_,.cons _ t,e=>by
  obtain⟨y,h1,h2⟩:=vU (i:=i) t (by simpa using e)
  exact⟨y,by simpa using h1,h2⟩
theorem CF{H:Hp}{P:PK->Prop}:∀{gs:List (List PH)}{as:List PK}{n:Nat}(x:Int),Qd (fun g a=>P a/\H a=some (.lst (g.map V.str))) gs as->gs.length=n->0<n->∃a g,g∈gs/\P a/\H a=some (.lst (g.map V.str))/\xU (as.map V.ref) (x%(n:Int))=some (.ref a):=fun {gs as n} x hp hn h0=>by
 have h1:0<=x%(n:Int):=Su _ (by omega)
 have h2:x%(n:Int)<n:=Tf _ (by omega)
 have h3:(x%(n:Int)).toNat<gs.length:=by omega
 obtain⟨a,ha,pa⟩:=vU hp (Qj h3)
 exists a,gs[(x%(n:Int)).toNat],RC h3,pa.1,pa.2
 have:=bM (xs:=as.map V.ref) (j:=(x%(n:Int)).toNat) (v:=.ref a) (by simp[ha])
 rwa [V5 h1]at this
theorem LX{w A B C U:PH}{a c:Nat}(hw:w∈WA)(ha:a<w.length)(hA:A.cps.toList=w.cps.toList.take a)(hB:B.cps.toList=w.cps.toList.drop (a+1))(hC:C.cps.toList=w.cps.toList.drop a)(hU:U=⟨#[c]⟩\/U=Ff ⟨#[c]⟩)(hc:isLet c=true):Wd (A++B)/\(∀D,D=B\/D=C->Wd (A++U++D)):=by
 have wl:=(AJ w hw).2
 have wL:=Ir w hw
 have lt:∀d,isLet d=true->d<128/\d≠32:=fun d h=>by unfold isLet at h;simp only[QX,decide_eq_true_eq]at h;omega
 have lA:A.length<=8:=by rw[<-aP,hA,QY,aP];omega
 have lB:B.length<=8:=by rw[<-aP,hB,Rq,aP];omega
 have lC:C.length<=8:=by rw[<-aP,hC,Rq,aP];omega
 have mA:∀d∈A.cps.toList,d<128/\d≠32:=fun d hd=>lt d (wL d (by rw[hA]at hd;exact Sl hd))
 have mB:∀d∈B.cps.toList,d<128/\d≠32:=fun d hd=>lt d (wL d (by rw[hB]at hd;exact T7 hd))
 have mC:∀d∈C.cps.toList,d<128/\d≠32:=fun d hd=>lt d (wL d (by rw[hC]at hd;exact T7 hd))
 have h1:∀d∈(⟨#[c]⟩:PH).cps.toList,isLet d=true:=fun d hd=>by
  have:d=c:=by simpa using hd
  rw[this];exact hc
 have hu:U.length=1/\∀d∈U.cps.toList,d<128/\d≠32:=by
  rcases hU with rfl|rfl
  ·exact⟨rfl,fun d hd=>lt d (h1 d hd)⟩
  ·exact⟨AO h1,fun d hd=>by have:=LO h1 d hd;omega⟩
 have w1:Wd (A++U):=iJ ⟨by omega,mA⟩ ⟨by omega,hu.2⟩ (by omega)
 have l1:(A++U).length<=9:=by rw[Qv];omega
 refine⟨iJ ⟨by omega,mA⟩ ⟨by omega,mB⟩ (by omega),fun D hD=>?_⟩
 rcases hD with rfl|rfl
 ·exact iJ w1 ⟨by omega,mB⟩ (by omega)
 ·exact iJ w1 ⟨by omega,mC⟩ (by omega)
noncomputable def Pu:List PH:=["voters","withdrawn","help","join","fund","ask"]
theorem MX:∀z∈Pu,Wd z:=by
 unfold Wd
 decide +kernel
noncomputable def iF(ns:List PH)(r:PH):Prop:=Tx r/\∀s z,df s r=.deed (.enrol z)->z∈ns
theorem DH{s:aG}{ws:List PH}{z:PH}(h:Ee s ws=.deed (.enrol z)):ws=(["enrol",z]:List PH):=by
 unfold Ee at h
 split at h
 ·unfold Cn at h
  (repeat' split at h)<;>cases h
 ·rename_i w a
  unfold act2 at h
  (repeat' split at h)<;>cases h
  rename_i e
  rw[e]
 ·unfold yc at h
  (repeat' split at h)<;>cases h
 ·cases h
theorem BE{ns ws:List PH}(h:ws≠[])(f:∀w∈ws,Wd w)(hl:ws.length<=20)(he:∀z,ws=(["enrol",z]:List PH)->z∈ns):iF ns (QO " " ws):=⟨qz hl f,fun s z hz=>by
 rw[kG h f]at hz
 split at hz
 ·cases hz
 ·exact he z (DH hz)⟩
theorem zF{s:aG}{ns:List PH}{r:PH}(hr:iF ns r)(h:∀p∈s.ps,p.1∈ns):∀p∈(mh s (df s r)).ps,p.1∈ns:=by
 have cl:∀p∈(lj s).ps,p.1∈ns:=fun p hp=>by
  unfold lj at hp
  split at hp
  ·exact h p hp
  ·have:p.1∈(dS s (runOf s)).ps.map (·.1):=P9.mpr ⟨p,hp,rfl⟩
   rw[lD]at this
   obtain⟨q,hq,e⟩:=P9.mp this
   rw[<-e];exact h q hq
 cases e:df s r with
 |deed D=>
  simp only[mh]
  split
  ·cases D with
   |enrol z=>
    intro p hp
    rcases QC.mp hp with hp|hp
    ·exact h p hp
    ·rw[QR.mp hp];exact hr.2 s z e
   |propose z x=>exact h
   |give x=>
    intro p hp
    simp only[cq.app,qI]at hp
    split at hp
    ·exact h p hp
    ·obtain⟨q,hq,rfl⟩:=P9.mp hp
     exact h q hq
   |leave z=>exact fun p hp=>h p (QL.mp hp).1
   |withdraw z=>exact h
   |want v n=>
    simp only[cq.app]
    split<;>exact h
   |unwant v n=>exact h
  ·exact h
 |close=>exact cl
 |tell t=>exact h
 |no c=>exact h
theorem Jz{n:Int}{k:Nat}(h0:0<=n)(hk:0<k)(h:n<10 ^ k)(k40:k<=40):Wd (iT n):=by
 refine⟨P6 (AF h0 hk h) k40,fun c hc=>?_⟩
 obtain⟨m,rfl⟩:=Tr h0
 rw[qK]at hc
 obtain⟨d,hd,rfl⟩:=P9.mp hc
 have:=W4 (b:=10) (n:=m) (by decide) (by decide) hd
 unfold XN at this
 simp only[QX,decide_eq_true_eq]at this
 have h1:48<=d.toNat:=this.1
 have h2:d.toNat<=57:=this.2
 omega
theorem tZ{z:PH}(h:dw z=true):Wd z:=by
 refine⟨by have:=(fI h).2;omega,fun c hc=>?_⟩
 unfold dw at h
 simp only[QX]at h
 have:=Ru.mp h.2 c hc
 unfold isLet at this
 simp only[QX,decide_eq_true_eq]at this
 omega
theorem Hu(a b c:PH):a++b++c=a++(b++c):=iM.mpr (by simp only[cV,Wg])
theorem Lf{w w' a:PH}(h:w'=w++" "):w'++a=QO " " [w,a]:=by rw[h];rfl
theorem Po{w w' a b:PH}(h:w'=w++" "):w'++a++" "++b=QO " " [w,a,b]:=by
 rw[h]
 show w++" "++a++" "++b=w++" "++(a++" "++b)
 simp only[Hu]
theorem kb:Wd "enrol"/\Wd "give"/\Wd "propose"/\Wd "want"/\Wd "purse"/\Wd "close":=by
 have:=hW.1
 exact⟨this _ (by decide +kernel),this _ (by decide +kernel),this _ (by decide +kernel),this _ (by decide +kernel),this _ (by decide +kernel),this _ (by decide +kernel)⟩
theorem FY{ns:List PH}{z:PH}(h:Wd z)(hz:z∈ns):iF ns (("enrol ":PH)++z):=by
 rw[Lf (w:="enrol") (by decide +kernel)]
 exact BE (by simp) (by simp[kb,h]) (by simp) (fun y e=>by
  have e:z=y:=by simpa using e
  rw[<-e];exact hz)
theorem Lx{ns:List PH}{w w' z:PH}(e:w'=w++" ")(hw:Wd w)(h:Wd z)(ne:w≠"enrol"):iF ns (w'++z):=by
 rw[Lf e]
 exact BE (by simp) (by simp[hw,h]) (by simp) (fun y e=>absurd (S5 e).1 ne)
theorem zI{ns:List PH}{w w' z y:PH}(e:w'=w++" ")(hw:Wd w)(h:Wd z)(h':Wd y):iF ns (w'++z++" "++y):=by
 rw[Po e]
 exact BE (by simp) (by simp[hw,h,h']) (by simp) (fun x e=>by simp at e)
theorem G3{ns:List PH}:iF ns "close":=by
 rw[show("close":PH)=QO " " ["close"]from rfl]
 exact BE (by simp) (by simp[kb]) (by simp) (fun x e=>by simp at e)
theorem OH{i:Int}{H:Hp}{Q:VK}(h0:0<=i)(h:i<=1000000000000)(q:Q (.str (iT i)) H):qm [.int i] H Q:=xv (nB h0 h).log q
theorem gD{n:Int}(h0:0<=n):aV (iT n):=du.mpr fun c hc=>by
 obtain⟨m,rfl⟩:=Tr h0
 rw[qK]at hc
 obtain⟨d,hd,rfl⟩:=P9.mp hc
 have:=W4 (b:=10) (n:=m) (by decide) (by decide) hd
 unfold XN at this
 simp only[QX,decide_eq_true_eq]at this
 have h2:d.toNat<=57:=this.2
 omega
theorem rO:aV Qp/\aV " "/\aV ", "/\aV "; "/\aV ": "/\aV " of "/\aV "+"/\aV "-"/\aV "none"/\aV "ok":=by
 unfold aV
 decide +kernel
theorem EC{p:PH×Int}(h1:aV p.1)(h2:0<=p.2):aV (xH p):=by
 obtain⟨e0,e1,_⟩:=rO
 exact bq (bq (bq e0 h1) e1) (gD h2)
theorem tM{rs:List jj}{g:Int}(hg:0<=g)(h:∀r∈rs,aV r.1/\0<=r.2.1/\∀p∈r.2.2,aV p.1/\0<=p.2):aV (rH rs g):=by
 obtain⟨e0,e1,e2,e3,e4,e5,e6,e7,e8,_⟩:=rO
 unfold rH
 split
 ·exact e8
 ·refine bq (bq (bq e0 (fU e3 fun x hx=>?_)) e5) (gD hg)
  obtain⟨r,hr,rfl⟩:=P9.mp hx
  obtain⟨z1,z2,z3⟩:=h r hr
  refine bq (bq (bq (bq (bq e0 z1) e1) (gD z2)) e4) (fU e2 fun x hx=>?_)
  obtain⟨p,hp,rfl⟩:=P9.mp hx
  exact EC (z3 p hp).1 (z3 p hp).2
theorem Bm{rs:List (PH×Int×List PH)}(h:∀r∈rs,aV r.1/\0<=r.2.1/\∀x∈r.2.2,aV x):aV (rT rs):=by
 obtain⟨e0,e1,e2,e3,e4,e5,e6,e7,e8,_⟩:=rO
 unfold rT
 split
 ·exact e8
 ·refine fU e2 fun x hx=>?_
  obtain⟨r,hr,rfl⟩:=P9.mp hx
  obtain⟨z1,z2,z3⟩:=h r hr
  refine bq (bq (bq (bq (bq e0 z1) e1) (gD z2)) e1) ?_
  unfold xA
  split
  ·exact e7
  ·exact fU e6 z3
theorem GZ{s:aG}(G:lL s){row t:PH}(h:jS s (df s row)=.txt t):aV t:=by
 obtain⟨_,_,_,_,_,_,_,_,e8,e9⟩:=rO
 have ht:∀t,df s row=.tell t->aV t:=fun t ht=>by
  unfold df at ht
  split at ht
  ·cases ht
  ·unfold Ee at ht
   split at ht
   ·unfold Cn at ht
    (repeat' split at ht)<;>cases ht
    ·exact Bm fun r hr=>by
      obtain⟨p,hp,rfl⟩:=P9.mp hr
      exact⟨G.g.ac p hp,by have:=(G.g.cb p hp).1;show 0<=p.2;omega,fun x hx=>by
       have hx:x∈(s.ps.map (·.1)).filter _:=hx
       obtain⟨v,hv,rfl⟩:=P9.mp (QL.mp hx).1
       exact G.g.ap v hv⟩
    ·exact gD G.pot.1
    ·exact gD G.giv.1
    ·exact gD G.spt.1
   ·unfold act2 at ht
    (repeat' split at ht)<;>cases ht
    rename_i hm
    exact gD (G.g.p0 _ (qf hm)).1
   ·unfold yc at ht
    (repeat' split at ht)<;>cases ht
   ·cases ht
 cases e:df s row with
 |deed D=>
  rw[e]at h
  simp only[jS]at h
  split at h<;>cases h
  exact e9
 |close=>
  rw[e]at h
  cases h
  unfold sR
  split
  ·exact e8
  ·by_cases hr:∃run,gU (bP (cc s) (a9 s)) (PF (aH s)) [] run
   ·obtain⟨run,rx⟩:=hr
    refine tM (VQ _) fun r hr=>?_
    unfold toldOf at hr
    rw[vf rx]at hr
    obtain⟨a1,a2⟩:=Ef G.g (fun x hx=>((iQ rx).2 x hx).1) r hr
    obtain⟨b1,b2,b3,b4⟩:=FE G rx r hr
    exact⟨a1,b2.1,fun p hp=>⟨a2 p hp,(b4 p hp).2.1⟩⟩
   ·have e0:toldOf s=[]:=by unfold toldOf;rw[show runOf s=[]from dif_neg hr];rfl
    rw[e0]
    exact tM (VQ _) fun r hr=>nomatch hr
 |tell t'=>
  rw[e]at h
  cases h
  exact ht t e
 |no c=>rw[e]at h;cases h
noncomputable def D7(kf:PH->List Bool):L9->Qx
 |.txt t=>.str t
 |.kin cl=>.list ((kf cl).map Ug)
theorem ia{K:PM}{H:Hp}:∀bs:List Bool,DatAll K H (bs.map V.bl) (bs.map Ug)
 |[]=>.nil
 |b::r=>.cons (.bl b) (ia r)
theorem gz.dat{K:PM}{kf:PH->List Bool}{H0 H:Hp}{v:V}:∀{a:L9},gz kf H0 H v a->eF K H v (D7 kf a)
 |.txt t,h=>by cases h;exact .str t
 |.kin cl,h=>by
  obtain⟨l,rfl,_,e⟩:=h
  exact .lst (aY.of e) (ia _)
noncomputable def Bj(n:Nat)(d:Qx):Prop:=d.canLay0=true/\d.depth<=n
theorem Bj.shaped{n:Nat}{d:Qx}(h:Bj n d)(hn:n<=64):Sg d=true:=by
 unfold Sg
 rw[h.1,decide_eq_true (show d.depth<=64 by have:=h.2;omega)]
 rfl
theorem HI{n:Nat}:∀{ds:List Qx},(∀d∈ds,Bj n d)->SG ds=true/\S4 ds<=n
 |[],_=>by simp[SG,S4]
 |x::xs,h=>by
  obtain⟨h1,h2⟩:=h x QI
  obtain⟨h3,h4⟩:=HI fun y hy=>h y (Qs _ hy)
  rw[SG,h1,h3,S4]
  exact⟨rfl,by omega⟩
theorem FH{n:Nat}{ds:List Qx}(h:∀d∈ds,Bj n d):Bj (n+1) (.list ds):=by
 obtain⟨h1,h2⟩:=HI h
 exact⟨by rw[RS];exact h1,by rw[S2];omega⟩
theorem vT(bs:List Bool):Bj 1 (.list (bs.map Ug)):=FH fun d hd=>by
 obtain⟨b,_,rfl⟩:=P9.mp hd
 exact⟨by rw[RS],by simp[S2]⟩
theorem BD{kf:PH->List Bool}{s:aG}(G:lL s){row:PH}:Bj 1 (D7 kf (jS s (df s row))):=by
 cases e:jS s (df s row)with
 |txt t=>exact⟨by rw[D7,RS];exact tR (GZ G e),by simp[D7,S2]⟩
 |kin cl=>exact vT _
theorem gz.but{kf:PH->List Bool}{H0 H H':Hp}{v:V}{fp:List PK}(b:b7 fp H H')(n:∀l,v=.ref l->l∉fp):∀{a:L9},gz kf H0 H v a->gz kf H0 H' v a
 |.txt _,h=>h
 |.kin _,h=>by
  obtain⟨l,rfl,f,e⟩:=h
  exact⟨l,rfl,f,b.1 _ _ (n l rfl) e⟩
noncomputable def wR(K:PM)(H0 H:Hp)(d1 d2:PK)(s1 s2:aG)(L:List (PK×List V)):Prop:=∃fp1 fp2,cE K H d1 fp1 s1/\cE K H d2 fp2 s2/\(∀a∈fp1,a∉fp2)/\(∀a∈fp1,H0 a=none)/\(∀a∈fp2,H0 a=none)/\av H0 H/\∀p∈L,H p.1=some (.lst p.2)/\p.1∉fp1/\p.1∉fp2
theorem wR.same{K:PM}{H0 H H':Hp}{d1 d2:PK}{s1 s2:aG}{L:List (PK×List V)}(t:wR K H0 H d1 d2 s1 s2 L)(s:av H H'):wR K H0 H' d1 d2 s1 s2 L:=by
 obtain⟨fp1,fp2,a1,a2,dj,z1,z2,s0,hL⟩:=t
 exact⟨fp1,fp2,a1.same s,a2.same s,dj,z1,z2,s0.trans s,fun p hp=>⟨s _ _ (hL p hp).1,(hL p hp).2⟩⟩
theorem wR.add{K:PM}{H0 H H':Hp}{d1 d2:PK}{s1 s2:aG}{L:List (PK×List V)}(t:wR K H0 H d1 d2 s1 s2 L)(s:av H H'){l:PK}{xs:List V}(f:H l=none)(h:H' l=some (.lst xs)):wR K H0 H' d1 d2 s1 s2 ((l,xs)::L):=by
 obtain⟨fp1,fp2,a1,a2,dj,z1,z2,s0,hL⟩:=t
 refine⟨fp1,fp2,a1.same s,a2.same s,dj,z1,z2,s0.trans s,fun p hp=>?_⟩
 rcases Qa.mp hp with rfl|hp
 ·exact⟨h,fun z=>a1.there _ z f,fun z=>a2.there _ z f⟩
 ·exact⟨s _ _ (hL p hp).1,(hL p hp).2⟩
theorem wR.flip{K:PM}{H0 H:Hp}{d1 d2:PK}{s1 s2:aG}{L:List (PK×List V)}(t:wR K H0 H d1 d2 s1 s2 L):wR K H0 H d2 d1 s2 s1 L:=by
 obtain⟨fp1,fp2,a1,a2,dj,z1,z2,s0,hL⟩:=t
 exact⟨fp2,fp1,a2,a1,fun a h2 h1=>dj a h1 h2,z2,z1,s0,fun p hp=>⟨(hL p hp).1,(hL p hp).2.2,(hL p hp).2.1⟩⟩
theorem wR.one{K:PM}{H0 H:Hp}{d1 d2:PK}{s1 s2:aG}{L:List (PK×List V)}(t:wR K H0 H d1 d2 s1 s2 L):∃fp,cE K H d1 fp s1/\(∀p∈L,p.1∉fp)/\(∀l,H l=none->l∉fp)/\∀H' fp' s' E,cE K H' d1 fp' s'->b7 fp H H'->ji fp fp' H->(∀p∈E,H' p.1=some (.lst p.2)/\p.1∉fp'/\H p.1=none)->wR K H0 H' d1 d2 s' s2 (E++L):=by
 obtain⟨fp1,fp2,a1,a2,dj,z1,z2,s0,hL⟩:=t
 refine⟨fp1,a1,fun p hp=>(hL p hp).2.1,fun l hl z=>a1.there _ z hl,fun H' fp' s' E a b w hE=>?_⟩
 have nw:∀x o,H x=some o->x∉fp1->x∉fp':=fun x o hx h1 h2=>by
  rcases w x h2 with h|h
  ·exact h1 h
  ·rw[hx]at h;cases h
 refine⟨fp',fp2,a,a2.but b fun x hx h1=>dj x h1 hx,fun x h1 h2=>?_,fun x h1=>?_,z2,Kf s0 b z1,fun p hp=>?_⟩
 ·rcases w x h1 with h|h
  ·exact dj x h h2
  ·exact a2.there x h2 h
 ·rcases w x h1 with h|h
  ·exact z1 x h
  ·exact s0.free h
 ·rcases QC.mp hp with hp|hp
  ·exact⟨(hE p hp).1,(hE p hp).2.1,fun z=>a2.there _ z (hE p hp).2.2⟩
  ·exact⟨b.1 _ _ (hL p hp).2.1 (hL p hp).1,nw _ _ (hL p hp).1 (hL p hp).2.1,(hL p hp).2.2⟩
theorem wR.sub{K:PM}{H0 H:Hp}{d1 d2:PK}{s1 s2:aG}{L L':List (PK×List V)}(t:wR K H0 H d1 d2 s1 s2 L)(h:∀p∈L',p∈L):wR K H0 H d1 d2 s1 s2 L':=by
 obtain⟨fp1,fp2,a1,a2,dj,z1,z2,s0,hL⟩:=t
 exact⟨fp1,fp2,a1,a2,dj,z1,z2,s0,fun p hp=>hL p (h p hp)⟩
theorem wR.at{K:PM}{H0 H:Hp}{d1 d2:PK}{s1 s2:aG}{L:List (PK×List V)}(t:wR K H0 H d1 d2 s1 s2 L):av H0 H/\∀p∈L,H p.1=some (.lst p.2):=by
 obtain⟨fp1,fp2,a1,a2,dj,z1,z2,s0,hL⟩:=t
 exact⟨s0,fun p hp=>(hL p hp).1⟩
theorem wR.said{K:PM}{kf:PH->List Bool}{H0 H:Hp}{d1 d2:PK}{s:aG}{L:List (PK×List V)}(t:wR K H0 H d1 d2 s s L)(G:lL s)(row:PH):∃fp1,cE K H d1 fp1 s/\∀v1 H1 fp1',cE K H1 d1 fp1' (mh s (df s row))->b7 fp1 H H1->ji fp1 fp1' H->gz kf H H1 v1 (jS s (df s row))->(∀l,v1=.ref l->l∉fp1')->
  ∃fp2,cE K H1 d2 fp2 s/\∀v2 H2 fp2',cE K H2 d2 fp2' (mh s (df s row))->b7 fp2 H1 H2->ji fp2 fp2' H1->gz kf H1 H2 v2 (jS s (df s row))->
   wR K H0 H2 d1 d2 (mh s (df s row)) (mh s (df s row)) L/\∃d,eF K H2 v1 d/\eF K H2 v2 d/\Sg d=true:=by
 obtain⟨fp1,a1,_,_,k1⟩:=t.one
 refine⟨fp1,a1,fun v1 H1 fp1' b1 c1 w1 e1 m1=>?_⟩
 obtain⟨X,hX,hv⟩:∃X:List (PK×List V),(∀p∈X,H1 p.1=some (.lst p.2)/\p.1∉fp1'/\H p.1=none)/\∀l,v1=.ref l->∃p∈X,p.1=l:=by
  revert e1
  cases jS s (df s row)with
  |txt t=>exact fun e=>⟨[],(fun _ h=>nomatch h),fun l h=>by rw[e]at h;cases h⟩
  |kin cl=>
   rintro⟨l,rfl,f,e⟩
   exact⟨[(l,_)],(fun p hp=>by rw[QR.mp hp];exact⟨e,m1 l rfl,f⟩),fun l' h=>⟨_,QR.mpr rfl,by cases h;rfl⟩⟩
 obtain⟨fp2,a2,n2,_,k2⟩:=(k1 H1 fp1' _ X b1 c1 w1 hX).flip.one
 refine⟨fp2,a2,fun v2 H2 fp2' b2 c2 w2 e2=>⟨((k2 H2 fp2' _ [] b2 c2 w2 fun _ h=>nomatch h).flip).sub fun p hp=>Rh _ (Rh _ hp),_,gz.dat (e1.but c2 fun l hl=>?_),e2.dat,(BD G).shaped (by decide)⟩⟩
 obtain⟨p,hp,rfl⟩:=hv l hl
 exact n2 p (SW _ hp)
noncomputable def rA:aG->List PH->List L9
 |_,[]=>[]
 |s,r::rs=>jS s (df s r)::rA (mh s (df s r)) rs
noncomputable def gC:aG->List PH->aG
 |s,[]=>s
 |s,r::rs=>gC (mh s (df s r)) rs
theorem zi:∀(s:aG)(rs:List PH)(r:PH),rA s (rs++[r])=rA s rs++[jS (gC s rs) (df (gC s rs) r)]/\gC s (rs++[r])=mh (gC s rs) (df (gC s rs) r)
 |s,[],r=>⟨rfl,rfl⟩
 |s,q::rs,r=>by
  obtain⟨h1,h2⟩:=zi (mh s (df s q)) rs r
  exact⟨by rw[Uo,rA,h1];rfl,by rw[Uo,gC,h2];rfl⟩
theorem cG.look:∀{rs:List PH}{s:aG}{n:Nat},cG n s->n+rs.length<=900->cG (n+rs.length) (gC s rs)
 |[],s,n,g,_=>g
 |r::rs,s,n,g,h=>by
  simp only[QV]at h ⊢
  have:=cG.look (rs:=rs) (g.next (by omega) (df s r)) (by omega)
  rwa [show n+(rs.length+1)=n+1+rs.length by omega]
theorem CK{kf:PH->List Bool}:∀{rs:List PH}{s:aG}{n:Nat},cG n s->n+rs.length<=900->∀a∈rA s rs,Bj 1 (D7 kf a)
 |[],s,n,_,_,a,h=>nomatch h
 |r::rs,s,n,g,hl,a,h=>by
  simp only[QV]at hl
  rw[rA]at h
  rcases Qa.mp h with rfl|h
  ·exact BD g.d
  ·exact CK (g.next (by omega) (df s r)) (by omega) a h
theorem nF{K:PM}{kf:PH->List Bool}{H0 H:Hp}:∀{as:List L9}{vs:List V},Qd (fun a v=>gz kf H0 H v a) as vs->DatAll K H vs (as.map (D7 kf))
 |_,_,.nil=>.nil
 |_,_,.cons h t=>.cons h.dat (nF t)
theorem BC{H:Hp}{l:PK}{o:HO}(h:H l=some o):upd H l o=H:=funext fun a=>by
 by_cases e:a=l
 ·rw[e,ax,h]
 ·rw[ak e]
theorem El{H1 H2:Hp}{l:PK}{o:HO}(s:ef l H1 H2):av (upd H1 l o) (upd H2 l o):=fun a u h=>by
 by_cases e:a=l
 ·subst e;rw[ax]at h ⊢;exact h
 ·rw[ak e]at h ⊢;exact s a u e h
theorem yY{R:List PH}{i:Nat}(h:i<R.length):R.take (i+1)=R.take i++[R.getD i ""]:=by
 rw[List.take_succ,Qj h,QD,Qj h]
 rfl
theorem LU{C:PK}{H H2:Hp}{c dx:PK}{fp:List PK}(f0:H c=none)(g0:H dx=none)(b:b7 [c] (upd (upd H dx (.own c)) c (.ins C dx [])) H2)(w:ji [c] fp (upd (upd H dx (.own c)) c (.ins C dx []))):
  av H H2/\∀a∈fp,H a=none:=by
 refine⟨fun a o h=>?_,fun a ha=>?_⟩
 ·have n1:a≠c:=fun e=>by rw[e,f0]at h;cases h
  have n2:a≠dx:=fun e=>by rw[e,g0]at h;cases h
  exact b.1 a o (by simpa using n1) (by rw[ak n1,ak n2];exact h)
 ·rcases w a ha with e|e
  ·rw[QR.mp e];exact f0
  ·by_cases n1:a=c
   ·rw[n1];exact f0
   ·rw[ak n1]at e
    by_cases n2:a=dx
    ·rw[n2];exact g0
    ·rw[ak n2]at e;exact e
theorem Ca{α:Type}(x:α):∀k:Nat,(QS k [x]).flatten=QS k x
 |0=>rfl
 |k+1=>by rw[S3,Tw,S3,Ca x k];rfl
theorem EK{l:PK}{x:V}{k:Nat}{H:Hp}{Q:VK}(h1:H l=some (.lst [x]))(hk:k<=1000)(h:∀p H2,H p=none->av H H2->H2 p=some (.lst (QS k x))->Q (.ref p) H2):Ia (.ref l) (.int k) H Q:=by
 refine⟨l,k,[x],rfl,rfl,h1,by omega,by omega,?_,fun p hp=>?_⟩
 ·have:((k:Int)).toNat=k:=by omega
  rw[this]
  refine P6 ?_ bo
  simp only[QV,VI]
  omega
 ·have:(QS ((k:Int)).toNat [x]).flatten=QS k x:=by
   rw[show((k:Int)).toNat=k by omega]
   exact Ca x k
  rw[this]
  exact h p _ hp (av.updN hp) ax
noncomputable def Hy(c:Int):List PH:=(P4 8).map (aQ c)++(P4 8).map (aQ (c/3))
noncomputable def LG(c:Int):List PH:=[aQ c 0++"aaaaaaaa",Ff (aQ c 1),aQ c 2++"\n"]
theorem qC{z:PH}(h:dw z=true):∀c∈z.cps.toList,isLet c=true:=fun c hc=>by
 unfold dw at h
 simp only[QX]at h
 exact Ru.mp h.2 c hc
theorem MA(c:Int):∀z∈Hy c,dw z=true:=fun z hz=>by
 rcases QC.mp hz with hz|hz<;>(obtain⟨j,_,rfl⟩:=P9.mp hz;exact da _ _)
theorem a8:Wd "aaaaaaaa"/\("aaaaaaaa":PH).length=8/\("\n":PH).length=1/\("\n":PH).cps.toList=[10]:=by
 unfold Wd
 decide +kernel
theorem Jt(c:Int):∀z∈LG c,Wd z/\dw z=false:=fun z hz=>by
 have n0:=da c 0
 have n1:=da c 1
 have n2:=da c 2
 have l0:=fI n0
 have l1:=fI n1
 have l2:=fI n2
 obtain⟨a1,a2,a3,a4⟩:=a8
 have hz:z=aQ c 0++"aaaaaaaa"\/z=Ff (aQ c 1)\/z=aQ c 2++"\n":=by simpa[LG]using hz
 rcases hz with rfl|rfl|rfl
 ·exists iJ (tZ n0) a1 (by omega)
  cases e:dw (aQ c 0++"aaaaaaaa")with
  |false=>rfl
  |true=>
   have:=(fI e).2
   rw[Qv]at this
   omega
 ·have hl:=AO (qC n1)
  have hu:=LO (qC n1)
  exists ⟨by omega,fun d hd=>by have:=hu d hd;omega⟩
  cases e:dw (Ff (aQ c 1))with
  |false=>rfl
  |true=>
   have h1:0<(Ff (aQ c 1)).cps.toList.length:=by rw[aP];omega
   have h2:=hu _ (RC h1)
   have h3:=qC e _ (RC h1)
   unfold isLet at h3
   simp only[QX,decide_eq_true_eq]at h3
   omega
 ·exists iJ (tZ n2) hW.2.2.2.2.2.2 (by omega)
  cases e:dw (aQ c 2++"\n")with
  |false=>rfl
  |true=>
   have:=qC e 10 (by rw[cV,a4];simp)
   cases this
noncomputable def yK(c:Int):List PH:=Hy c++LG c
theorem Ln(c:Int):∀z∈yK c,Wd z:=fun z hz=>by
 rcases QC.mp hz with hz|hz
 ·exact tZ (MA c z hz)
 ·exact(Jt c z hz).1
theorem Jq(c:Int):(yK c).length=19:=by simp[yK,Hy,LG]
theorem Jm(c:Int):0<(((P4 18).map fun j=>aQ c (8+j)).filter fun z=>!decide (z∈yK c)).length:=by
 have h:=Ga c (Hy c) (by simp[Hy])
 obtain⟨z,hz⟩:=List.exists_mem_of_length_pos h
 obtain⟨m,n⟩:=QL.mp hz
 obtain⟨k,hk,rfl⟩:=P9.mp m
 have hk:=Q6.mp hk
 have n:aQ c k∉Hy c:=by simpa using n
 have k8:8<=k:=VV fun q=>n (SW _ (P9.mpr ⟨k,Q6.mpr q,rfl⟩))
 refine Xn (a:=aQ c k) (QL.mpr ⟨P9.mpr ⟨k-8,Q6.mpr (by omega),by rw[show 8+(k-8)=k by omega]⟩,?_⟩)
 have:aQ c k∉yK c:=fun q=>by
  rcases QC.mp q with q|q
  ·exact n q
  ·have:=(Jt c _ q).2
   rw[da]at this
   cases this
 simpa using this
theorem iF.mono{ns ms:List PH}{r:PH}(h:iF ns r)(m:∀z∈ns,z∈ms):iF ms r:=⟨h.1,fun s z e=>m z (h.2 s z e)⟩
theorem MZ{ns:List PH}{n o:PH}(hn:Wd n)(ho:Wd o)(mn:n∈ns){g:List PH}(h:g∈CQ n o):iF ns (QO " " g):=by
 obtain⟨w,r,e,_,_,hr⟩:=nW h
 refine BE (by rw[e];simp) (C3 hn ho h) (by rw[e];simp;omega) fun z hz=>?_
 have:z=n:=by
  rcases mJ h with q|q|q|q|q|q|q|q|q|q|q|q|q<;>rw[q]at hz<;>simp at hz
  ·exact hz.symm
  all_goals exact absurd hz.1 (by decide +kernel)
 rw[this];exact mn
theorem JQ{s:aG}{cl:PH}{a:Act}(h:a=.no cl):mh s a=s/\jS s a=.kin cl:=by rw[h];exact⟨rfl,rfl⟩
theorem Iz{s:aG}{z:PH}(hz:Wd z)(h0:z≠"")(h:∀p∈s.ps,p.1≠z):df s (("purse ":PH)++z)=.no "NoVoter"/\Tx (("purse ":PH)++z):=by
 rw[Lf (w:="purse") (by decide +kernel)]
 have f:∀x∈(["purse",z]:List PH),Wd x:=by simp[kb,hz]
 refine⟨?_,qz (by simp) f⟩
 rw[kG (by simp) f,if_neg]
 ·show act2 s "purse" z=_
  rw[act2,if_pos rfl,if_neg]
  intro m
  obtain⟨p,hp,e⟩:=P9.mp m
  exact h p hp e
 ·intro m
  rcases Qa.mp m with m|m
  ·exact absurd m (by decide +kernel)
  ·exact h0 (QR.mp m).symm
theorem Dj{kf:PH->List Bool}{H H':Hp}{fp':List PK}:∀{as:List L9}{ys:List V},Qd (fun a v=>gz kf H H' v a/\∀l',v=.ref l'->l'∉fp') as ys->∃X:List (PK×List V),(∀p∈X,H' p.1=some (.lst p.2)/\p.1∉fp'/\H p.1=none)/\∀fp2 H'',(∀p∈X,p.1∉fp2)->b7 fp2 H' H''->Qd (fun a v=>gz kf H H'' v a) as ys
 |_,_,.nil=>⟨[],(fun _ h=>nomatch h),fun _ _ _ _=>.nil⟩
 |a::as,v::ys,.cons h t=>by
  obtain⟨X,h1,h2⟩:=Dj t
  cases a with
  |txt t=>exact⟨X,h1,fun fp2 H'' n b=>.cons h.1 (h2 fp2 H'' n b)⟩
  |kin cl=>
   obtain⟨⟨l,e,f,e'⟩,nl⟩:=h
   refine⟨(l,(kf cl).map V.bl)::X,fun p hp=>?_,fun fp2 H'' n b=>.cons ⟨l,e,f,b.1 _ _ (n _ (QI ..)) e'⟩ (h2 fp2 H'' (fun p hp=>n p (Qs _ hp)) b)⟩
   rcases Qa.mp hp with rfl|hp
   ·exact⟨e',nl l e,f⟩
   ·exact h1 p hp
noncomputable def PG(H0 H:Hp)(gs:List (List PH))(as:List PK):Prop:=av H0 H/\Qd (fun g a=>H0 a=none/\H a=some (.lst (g.map V.str))) gs as
theorem PG.snoc{H0 H H':Hp}{gs:List (List PH)}{as:List PK}{a:PK}{g:List PH}(h:PG H0 H gs as)(f:H a=none)(s:av H H')(e:H' a=some (.lst (g.map V.str))):PG H0 H' (gs++[g]) (as++[a]):=
 ⟨h.1.trans s,jl (Paired.mapP h.2 fun _ _ z=>⟨z.1,s _ _ z.2⟩) ⟨h.1.free f,e⟩⟩
theorem PG.same{H0 H H':Hp}{gs:List (List PH)}{as:List PK}(h:PG H0 H gs as)(s:av H H'):PG H0 H' gs as:=⟨h.1.trans s,Paired.mapP h.2 fun _ _ z=>⟨z.1,s _ _ z.2⟩⟩
theorem xD{K:PM}{ns:List PH}(hn:ns.length=19)(x:Int):∃z∈ns,xU (ns.map V.str) (x%((ns.map V.str).length:Int))=some (.str z):=by
 rw[P7,hn]
 exact mX hn (by decide)
theorem nO{xs:List Int}{k:Nat}(h:k<xs.length):∃x,xU (xs.map V.int) ((k:Nat):Int)=some (.int x):=⟨xs[k],bM (by simp[h])⟩
noncomputable def jo(K:PM):Sp:=cL 2 fun vs H Q=>∃(a:PK)(ns:List Int)(k:Nat),vs=[.ref a,.int k]/\aY K H a (ns.map V.int)/\∀(v:Int) H',av H H'->Q (.int v) H'
noncomputable def eE(_:PM):Sp:=cL 2 fun vs H Q=>∃(c:Int)(m:Nat),vs=[.int c,.int m]/\m<=1000/\∀(l:PK) H',H l=none->av H H'->H' l=some (.lst ((dX c m).map V.int))->Q (.ref l) H'
noncomputable def fG(K:PM):Sp:=cL 1 fun vs H Q=>∃(c dx:PK),vs=[.ref c]/\H c=some (.ins (ao K "Chest") dx [])/\∀H' fp,aO K H' c fp ⟨[],[],[],0,0,0⟩->b7 [c] H H'->ji [c] fp H->Q .non H'
noncomputable def d8(K:PM):Sp:=cL 1 fun vs H Q=>∃(d dx:PK),vs=[.ref d]/\H d=some (.ins (ao K "Desk") dx [])/\∀H' fp,cE K H' d fp ⟨[],[],[],0,0,0⟩->b7 [d] H H'->ji [d] fp H->Q .non H'
noncomputable def dF(_:PM):Sp:=cL 2 fun vs H Q=>∃(c:Int)(k:Nat),vs=[.int c,.int k]/\k<=1000/\∀H',av H H'->Q (.str (aQ c k)) H'
noncomputable def fA(K:PM):Sp:=cL 2 fun vs H Q=>∃(a:PK)(c:Int)(xs:List Int),vs=[.ref a,.int c]/\aY K H a (xs.map V.int)/\xs.length=15/\∀l (rows:List PH) H',rows.length<=60->(∀r∈rows,iF ((P4 6).map (aQ c)) r)->H l=none->av H H'->H' l=some (.lst (rows.map V.str))->Q (.ref l) H'
noncomputable def jT(K:PM):Sp:=fun vs H Q E=>vs.length=1/\∃z:PH,vs=[.str z]/\aV z/\z.length<=100000/\
 (("":PH)∉QK z " "->∀l,H l=none->Q (.ref l) (upd H l (.lst ((QK z " ").map V.str))))/\(("":PH)∈QK z " "->∀H',av H H'->E (.ref (ao K "NoRow")) none H')
noncomputable def ff(_:PM):Sp:=cL 2 fun vs H Q=>∃s n:Nat,vs=[.int s,.int n]/\0<s/\0<n/\Q (.int (R4 s n:Nat)) H
noncomputable def nL(_:PM):Sp:=cL 1 fun vs H Q=>∃n:Nat,vs=[.int n]/\n<=20/\Q (.int (mT n:Nat)) H
noncomputable def gZ(_:PM):Sp:=cL 2 fun vs H Q=>∃v w:Nat,vs=[.int v,.int w]/\1<=v/\v<=20/\w<=12/\Q (.int (mT v ^ (w+1):Nat)) H
noncomputable def pW(K:PM):Sp:=cL 2 fun vs H Q=>∃(a:PK)(sts:List (Nat×Int×List Int))(i:Nat),vs=[.ref a,.int i]/\gW H a sts/\sts.length<=64/\(∀x∈sts,i<x.2.2.length)/\∀H',av H H'->Q (.int (sts.map fun x=>x.2.2.getD i 0).sum) H'
noncomputable def ly(K:PM):Sp:=cL 2 fun vs H Q=>∃(a b:PK)(ps:List Int)(sts:List (Nat×Int×List Int)),vs=[.ref a,.ref b]/\aY K H a (ps.map V.int)/\gW H b sts/\ps.length<=20/\sts.length<=12/\(∀x∈sts,x.2.2.length=ps.length)/\
 ∀l H',H l=none->av H H'->H' l=some (.lst ((bL ps sts).map V.int))->Q (.ref l) H'
noncomputable def kU(K:PM):Sp:=cL 2 fun vs H Q=>∃(a b:PK)(cs:List Int)(rows:List (List Int)),vs=[.ref a,.ref b]/\aY K H a (cs.map V.int)/\gL K H b rows/\cs.length<=12/\(∀x∈cs,1<=x/\x<=1000000000000)/\1<=rows.length/\rows.length<=20/\
 ∀l H',H l=none->av H H'->H' l=some (.lst ((cs.map (· * ((mT rows.length ^ (cs.length+1):Nat):Int))).map V.int))->Q (.ref l) H'
noncomputable def jI(_:PM):Sp:=cL 2 fun vs H Q=>∃m p:Int,vs=[.int m,.int p]/\1<=p/\p<=1000/\Q (.int ((m+p-1)/p)) H
noncomputable def lH(K:PM):Sp:=cL 2 fun vs H Q=>∃(a:PK)(ps:List Int)(price:Int),vs=[.ref a,.int price]/\aY K H a (ps.map V.int)/\ps.length<=40/\(∀p∈ps,0<=p)/\1<=price/\
 (ps.sum<price->∀H',av H H'->Q .non H')/\(price<=ps.sum->∀L H',J8 ps price L->av H H'->Q (.int L) H')
noncomputable def k9(K:PM):Sp:=cL 2 fun vs H Q=>∃(a b:PK)(ws ks:List Int),vs=[.ref a,.ref b]/\aY K H a (ws.map V.int)/\aY K H b (ks.map V.int)/\ks.length<=64/\∀H',av H H'->Q (.bl (ks.all fun k=>decide (k∈ws))) H'
noncomputable def lG(K:PM):Sp:=cL 2 fun vs H Q=>∃(a b:PK)(rows:List (List Int))(ks:List Int),vs=[.ref a,.ref b]/\gL K H a rows/\aY K H b (ks.map V.int)/\rows.length<=64/\ks.length<=64/\
 ∀l H',H l=none->av H H'->H' l=some (.lst ((lJ rows ks).map V.int))->Q (.ref l) H'
noncomputable def gp(K:PM):Sp:=cL 2 fun vs H Q=>∃(a:PK)(rows:List (List Int))(k:Int),vs=[.ref a,.int k]/\gL K H a rows/\rows.length<=64/\
 ∀l H',H l=none->av H H'->H' l=some (.lst ((lJ rows [k]).map V.int))->Q (.ref l) H'
noncomputable def ng(K:PM):Sp:=cL 4 fun vs H Q=>∃(a b:PK)(ps:List Int)(rows:List (List Int))(k:Nat)(price:Int),vs=[.ref a,.ref b,.int k,.int price]/\aY K H a (ps.map V.int)/\gL K H b rows/\rows.length<=20/\ps.length=rows.length/\(∀p∈ps,0<=p)/\1<=price/\
 (Hx rows.length (WR rows) (PF ps) k<price->∀H',av H H'->Q .non H')/\(price<=Hx rows.length (WR rows) (PF ps) k->∀L H',1<=L->price<=uk rows.length (WR rows) (PF ps) k L->uk rows.length (WR rows) (PF ps) k (L-1)<price->av H H'->Q (.int L) H')
noncomputable def kj(K:PM):Sp:=cL 4 fun vs H Q=>∃(a b c d:PK)(ps cs:List Int)(rows:List (List Int))(done:List Nat),vs=[.ref a,.ref b,.ref c,.ref d]/\aY K H a (ps.map V.int)/\aY K H b (cs.map V.int)/\gL K H c rows/\aY K H d ((done.map fun k:Nat=>(k:Int)).map V.int)/\
 cs.length<=12/\(∀x∈cs,1<=x/\x<=1000000000000)/\1<=rows.length/\rows.length<=20/\ps.length=rows.length/\(∀p∈ps,0<=p)/\done.length<=12/\
 ∀l H' (os:List (Option Int)),H l=none->av H H'->H' l=some (.lst (os.map oV))->os.length=cs.length->(∀j o,os[j]?=some o->BI (bP cs rows) (PF ps) done j o)->Q (.ref l) H'
noncomputable def pI(K:PM):Sp:=cL 1 fun vs H Q=>∃(a:PK)(os:List (Option Int)),vs=[.ref a]/\aY K H a (os.map oV)/\os.length<=12/\∀(k:Option Nat) H',gM os k->av H H'->Q (oV (k.map fun j:Nat=>(j:Int))) H'
noncomputable def mi(_:PM):Sp:=cL 1 fun vs H Q=>∃(a:PK)(sts:List (Nat×Int×List Int)),vs=[.ref a]/\gW H a sts/\sts.length<=12/\(∀x∈sts,x.1<12)/\(sts.map (·.1)).Nodup/\
 ∀l H' (ws:List Nat),H l=none->av H H'->H' l=some (.lst ((ws.map fun k:Nat=>(k:Int)).map V.int))->ws.Pairwise (· < ·)->(∀k,k∈ws↔k∈sts.map (·.1))->Q (.ref l) H'
noncomputable def pq(K:PM):Sp:=cL 2 fun vs H Q=>∃(a:PK)(ps:List Int)(lev:Int),vs=[.ref a,.int lev]/\aY K H a (ps.map V.int)/\ps.length<=64/\
 ∀l H',H l=none->av H H'->H' l=some (.lst ((ps.map (min · lev)).map V.int))->Q (.ref l) H'
noncomputable def iV(K:PM):Sp:=cL 4 fun vs H Q=>∃(a b:PK)(ps:List Int)(rows:List (List Int))(k:Nat)(L:Int),vs=[.ref a,.ref b,.int k,.int L]/\aY K H a (ps.map V.int)/\gL K H b rows/\rows.length=ps.length/\ps.length<=64/\∀l H',H l=none->av H H'->H' l=some (.lst ((nE rows ps k L).map V.int))->Q (.ref l) H'
noncomputable def d0(K:PM):Sp:=cL 4 fun vs H Q=>∃(a b c d:PK)(ps cs:List Int)(rows:List (List Int))(sts:List (Nat×Int×List Int)),vs=[.ref a,.ref b,.ref c,.ref d]/\aY K H a (ps.map V.int)/\aY K H b (cs.map V.int)/\gL K H c rows/\gW H d sts/\
 cs.length<=12/\(∀x∈cs,1<=x/\x<=1000000000000)/\1<=rows.length/\rows.length<=20/\ps.length=rows.length/\sts.length<=12/\(∀x∈sts,x.1<12)/\(sts.map (·.1)).Nodup/\(∀x∈sts,x.2.2.length=ps.length)/\(∀p∈bL ps sts,0<=p)/\
 ((∀k,k<cs.length->k∉sts.map (·.1)->Hx rows.length (WR rows) (PF (bL ps sts)) k<(bP cs rows).c k)->∀H',av H H'->Q .non H')/\
 (∀k L,Nx (bP cs rows) (PF (bL ps sts)) (sts.map (·.1)) k L->∀t b H',H t=none->H b=none->av H H'->H' t=some (.tup [.int k,.int L,.ref b])->H' b=some (.lst ((nE rows (bL ps sts) k L).map V.int))->Q (.ref t) H')
noncomputable def sj(K:PM):Sp:=cL 3 fun vs H Q=>∃(a b c:PK)(ps cs:List Int)(rows:List (List Int)),vs=[.ref a,.ref b,.ref c]/\aY K H a (ps.map V.int)/\aY K H b (cs.map V.int)/\gL K H c rows/\IS cs rows ps/\
 ∀l H' run,H l=none->av H H'->iD H H' l (aT rows ps run)->gU (bP cs rows) (PF ps) [] run->Q (.ref l) H'
noncomputable def eB(K:PM):Sp:=cL 3 fun vs H Q=>∃(c b:PK)(g:Int)(left:List Int)(fp:List PK)(s:aG),vs=[.ref c,.ref b,.int g]/\aO K H c fp s/\H b=some (.lst (left.map V.int))/\0<g/\g<nt/\left.length=s.ps.length/\s.ps.length<=20/\
 ∀H' fp',aO K H' c fp' (JU s left g)->b7 fp H H'->ji fp fp' H->Q .non H'
noncomputable def dD(K:PM):Sp:=cL 2 fun vs H Q=>∃(c dx d1 d2 w:PK)(n:PH)(wt:List PK)(s:aG),vs=[.ref c,.str n]/\H c=some (.ins (ao K "Chest") dx (gN d1 d2 w s.pot s.giv s.spt))/\H d2=some (.dK (eD s.cs))/\H w=some (.lst (wt.map V.ref))/\Qd (Br H) s.ws wt/\
 aV n/\(∀p∈s.cs,aV p.1)/\(∀p∈s.ws,aV p.1/\aV p.2)/\s.cs.length<=1000/\
 ∀l H',H l=none->av H H'->H' l=some (.lst ((intsOf (BY s n)).map V.int))->Q (.ref l) H'
noncomputable def eU(K:PM):Sp:=cL 3 fun vs H Q=>∃(c b:PK)(k:Nat)(L:Int)(paid:List Int)(fp:List PK)(s:aG),vs=[.ref c,.int k,.ref b]/\aO K H c fp s/\k<s.cs.length/\H b=some (.lst (paid.map V.int))/\paid.length=s.ps.length/\s.ps.length<=20/\s.cs.length<=12/\
 ∀t r H',H t=none->H r=none->t≠r->av H H'->H' t=some (.tup [.str (bK s (k,L,paid)).1,.int (bK s (k,L,paid)).2.1,.ref r])->N5 H H' r (bK s (k,L,paid)).2.2->Q (.ref t) H'
noncomputable def cM(K:PM):Sp:=fun vs H Q E=>vs.length=2/\∃(c:PK)(n:PH)(fp:List PK)(s:aG),vs=[.ref c,.str n]/\aO K H c fp s/\((n∈s.cs.map (·.1)/\Q .non H)\/(n∉s.cs.map (·.1)/\Tx n/\cA K H E "NoWork"))
noncomputable def N2(s:aG)(n:PH):aG:={s with cs:=s.cs.filter fun p=>decide (p.1≠n),ws:=s.ws.filter fun p=>!decide (p.2=n)}
noncomputable def dW(K:PM):Sp:=fun vs H Q E=>vs.length=2/\∃(c:PK)(n:PH)(fp:List PK)(s:aG),vs=[.ref c,.str n]/\aO K H c fp s/\s.ws.length<=1000/\
 ((cq.withdraw n).due s=none->∀H' fp',aO K H' c fp' (N2 s n)->b7 fp H H'->ji fp fp' H->Q .non H')/\∀cl,(cq.withdraw n).due s=some cl->Tx n/\cA K H E cl
noncomputable def iU(K:PM):Sp:=cL 1 fun vs H Q=>∃(c:PK)(fp:List PK)(s:aG),vs=[.ref c]/\aO K H c fp s/\oX s/\
 ((s.ps=[]\/s.cs=[])->∀t l H',H t=none->H l=none->t≠l->av H H'->H' t=some (.tup [.ref l,.int 1])->H' l=some (.lst [])->Q (.ref t) H')/\
 (s.ps≠[]->s.cs≠[]->∀run t l ts H' fp',gU (bP (cc s) (a9 s)) (PF (aH s)) [] run->b7 fp H H'->ji fp fp' H->aO K H' c fp' (cQ s (bL (aH s) (aT (a9 s) (aH s) run)) (fc s) ((aT (a9 s) (aH s) run).map (bK s)))->
  H t=none->H l=none->l∉fp'->H' t=some (.tup [.ref l,.int (fc s)])->oQ H' l ts ((aT (a9 s) (aH s) run).map (bK s))->(∀t'∈ts,∀y z r,H' t'=some (.tup [y,z,.ref r])->r≠l/\H r=none/\r∉fp')->Q (.ref t) H')
noncomputable def kY(_:PM):Sp:=cL 1 fun vs H Q=>∃(l:PK)(rs:List (PH×Int)),vs=[.ref l]/\mD H l rs/\rs.length<=20/\(∀p∈rs,Sm p.1/\Nb p.2)/\∀H',av H H'->Q (.str (E1 rs)) H'
noncomputable def kr(_:PM):Sp:=cL 3 fun vs H Q=>∃(l:PK)(r:jj),vs=[.str r.1,.int r.2.1,.ref l]/\mD H l r.2.2/\Sm r.1/\Nb r.2.1/\r.2.2.length<=20/\(∀p∈r.2.2,Sm p.1/\Nb p.2)/\∀H',av H H'->Q (.str (jW r)) H'
noncomputable def gI(_:PM):Sp:=cL 2 fun vs H Q=>∃(l:PK)(ts:List PK)(rs:List jj)(g:Int),vs=[.ref l,.int g]/\oQ H l ts rs/\rs.length<=12/\Nb g/\(∀r∈rs,Sm r.1/\Nb r.2.1/\r.2.2.length<=20/\∀p∈r.2.2,Sm p.1/\Nb p.2)/\∀H',av H H'->Q (.str (rH rs g)) H'
noncomputable def jd(K:PM):Sp:=cL 1 fun vs H Q=>∃(c:PK)(fp:List PK)(s:aG),vs=[.ref c]/\aO K H c fp s/\lL s/\∀H' fp',aO K H' c fp' (lj s)->b7 fp H H'->ji fp fp' H->Q (.str (sR s)) H'
noncomputable def kx(K:PM):Sp:=cL 3 fun vs H Q=>∃(l:PK)(r:PH×Int×List PH),vs=[.str r.1,.int r.2.1,.ref l]/\aY K H l (r.2.2.map V.str)/\Sm r.1/\Nb r.2.1/\r.2.2.length<=20/\(∀x∈r.2.2,Sm x)/\∀H',av H H'->Q (.str (nC r)) H'
noncomputable def jD(_:PM):Sp:=cL 1 fun vs H Q=>∃(l:PK)(ts:List PK)(rs:List (PH×Int×List PH)),vs=[.ref l]/\IX H l ts rs/\rs.length<=12/\(∀r∈rs,Sm r.1/\Nb r.2.1/\r.2.2.length<=20/\∀x∈r.2.2,Sm x)/\∀H',av H H'->Q (.str (rT rs)) H'
noncomputable def gd(K:PM):Sp:=cL 2 fun vs H Q=>∃(c dx d1 d2 w:PK)(n:PH)(wt:List PK)(s:aG),vs=[.ref c,.str n]/\H c=some (.ins (ao K "Chest") dx (gN d1 d2 w s.pot s.giv s.spt))/\H d1=some (.dK (eD s.ps))/\H w=some (.lst (wt.map V.ref))/\Qd (Br H) s.ws wt/\
 aV n/\(∀p∈s.ps,aV p.1)/\(∀p∈s.ws,aV p.1/\aV p.2)/\s.ps.length<=1000/\
 ∀l H',H l=none->av H H'->H' l=some (.lst (((s.ps.map (·.1)).filter fun v=>decide ((v,n)∈s.ws)).map V.str))->Q (.ref l) H'
noncomputable def iy(K:PM):Sp:=cL 1 fun vs H Q=>∃(c:PK)(fp:List PK)(s:aG),vs=[.ref c]/\aO K H c fp s/\(∀p∈s.ps,aV p.1)/\(∀p∈s.cs,aV p.1)/\(∀p∈s.ws,aV p.1/\aV p.2)/\s.ps.length<=1000/\s.cs.length<=1000/\
 ∀l ts H',H l=none->av H H'->IX H' l ts (s.cs.map (wX s))->(∀t∈ts,∀x y w,H' t=some (.tup [x,y,.ref w])->w≠l/\H w=none)->Q (.ref l) H'
noncomputable def kl(K:PM):Sp:=cL 1 fun vs H Q=>∃(c:PK)(fp:List PK)(s:aG),vs=[.ref c]/\aO K H c fp s/\Q (.int s.pot) H
noncomputable def iY(K:PM):Sp:=cL 1 fun vs H Q=>∃(c:PK)(fp:List PK)(s:aG),vs=[.ref c]/\aO K H c fp s/\Q (.int s.giv) H
noncomputable def iu(K:PM):Sp:=cL 1 fun vs H Q=>∃(c:PK)(fp:List PK)(s:aG),vs=[.ref c]/\aO K H c fp s/\Q (.int s.spt) H
noncomputable def pQ(K:PM):Sp:=fun vs H Q E=>vs.length=2/\∃(c:PK)(w:PH)(fp:List PK)(s:aG),vs=[.ref c,.str w]/\aO K H c fp s/\lL s/\Tx w/\xr K (fun H' fp' s'=>aO K H' c fp' s') H fp s Q E (Cn s w)
noncomputable def pM(_:PM):Sp:=cL 1 fun vs H Q=>∃z:PH,vs=[.str z]/\aV z/\z.length<=100000/\∀H',av H H'->Q (.bl (dw z)) H'
noncomputable def dQ(K:PM):Sp:=fun vs H Q E=>vs.length=2/\∃(z:PH)(d:PK)(kvs:List (Key×V)),vs=[.str z,.ref d]/\H d=some (.dK kvs)/\Tx z/\
 ((dw z=true/\gK kvs (.inr z)=none/\∀H',av H H'->Q .non H')\/(dw z=false/\cA K H E "NoName")\/(dw z=true/\(gK kvs (.inr z)).isSome=true/\cA K H E "Twice"))
noncomputable def fq(K:PM):Sp:=fun vs H Q E=>vs.length=2/\∃(d:PK)(kvs:List (Key×V))(n:Int),vs=[.ref d,.int n]/\H d=some (.dK kvs)/\(n=12\/n=20)/\(((kvs.length:Int)<n/\Q .non H)\/(n<=(kvs.length:Int)/\cA K H E "Full"))
noncomputable def iS(K:PM):Sp:=fun vs H Q E=>vs.length=2/\∃(c:PK)(n:PH)(fp:List PK)(s:aG),vs=[.ref c,.str n]/\aO K H c fp s/\Tx n/\
 ((cq.enrol n).due s=none->∀H' fp',aO K H' c fp' ({s with ps:=s.ps++[(n,0)]})->b7 fp H H'->ji fp fp' H->Q .non H')/\∀cl,(cq.enrol n).due s=some cl->cA K H E cl
noncomputable def cg(K:PM):Sp:=fun vs H Q E=>vs.length=2/\∃(c:PK)(n:PH)(fp:List PK)(s:aG),vs=[.ref c,.str n]/\aO K H c fp s/\((n∈s.ps.map (·.1)/\Q .non H)\/(n∉s.ps.map (·.1)/\Tx n/\cA K H E "NoVoter"))
noncomputable def fv(K:PM):Sp:=fun vs H Q E=>vs.length=2/\∃(c:PK)(n:PH)(fp:List PK)(s:aG),vs=[.ref c,.str n]/\aO K H c fp s/\Tx n/\(n∈s.ps.map (·.1)->Q (.int (vP s.ps n)) H)/\(n∉s.ps.map (·.1)->cA K H E "NoVoter")
noncomputable def iq(K:PM):Sp:=fun vs H Q E=>vs.length=2/\∃(c:PK)(n:PH)(fp:List PK)(s:aG),vs=[.ref c,.str n]/\aO K H c fp s/\Tx n/\s.ws.length<=1000/\
 ((cq.leave n).due s=none->∀H' fp',aO K H' c fp' (Jl s n (vP s.ps n))->b7 fp H H'->ji fp fp' H->Q .non H')/\∀cl,(cq.leave n).due s=some cl->cA K H E cl
noncomputable def fw(K:PM):Sp:=fun vs H Q E=>vs.length=2/\∃(x y:Int),vs=[.int x,.int y]/\(y=0\/y=1)/\((y<=x/\x<=1000000000/\Q .non H)\/((x<y\/1000000000<x)/\cA K H E "TooMuch"))
noncomputable def iZ(K:PM):Sp:=cL 2 fun vs H Q=>∃(c:PK)(x:Int)(fp:List PK)(s:aG),vs=[.ref c,.int x]/\aO K H c fp s/\s.ps.length<=20/\
 ∀H' fp',aO K H' c fp' (vj s x)->b7 fp H H'->ji fp fp' H->Q .non H'
noncomputable def jF(K:PM):Sp:=fun vs H Q E=>vs.length=2/\∃(c:PK)(x:Int)(fp:List PK)(s:aG),vs=[.ref c,.int x]/\aO K H c fp s/\s.ps.length<=20/\
 ((cq.give x).due s=none->∀H' fp',aO K H' c fp' (qI s x)->b7 fp H H'->ji fp fp' H->Q .non H')/\∀cl,(cq.give x).due s=some cl->cA K H E cl
noncomputable def kW(_:PM):Sp:=cL 1 fun vs H Q=>∃z:PH,vs=[.str z]/\aV z/\z.length<=100000/\∀H',av H H'->Q (.bl (i8 z)) H'
noncomputable def fe(K:PM):Sp:=fun vs H Q E=>vs.length=1/\∃z:PH,vs=[.str z]/\aV z/\z.length<=100000/\
 (i8 z=true->∀(n:Int) H',0<=n->n.natAbs.log2<1920->((toString n:String):PH)=z->av H H'->Q (.int n) H')/\(i8 z=false->∀H',av H H'->E (.ref (ao K "NoRow")) none H')
noncomputable def pR(K:PM):Sp:=fun vs H Q E=>vs.length=3/\∃(c:PK)(w a:PH)(fp:List PK)(s:aG),vs=[.ref c,.str w,.str a]/\aO K H c fp s/\lL s/\Tx w/\Tx a/\xr K (fun H' fp' s'=>aO K H' c fp' s') H fp s Q E (act2 s w a)
noncomputable def gj(K:PM):Sp:=fun vs H Q E=>vs.length=3/\∃(c:PK)(n:PH)(x:Int)(fp:List PK)(s:aG),vs=[.ref c,.str n,.int x]/\aO K H c fp s/\Tx n/\
 ((cq.propose n x).due s=none->∀H' fp',aO K H' c fp' ({s with cs:=s.cs++[(n,x)]})->b7 fp H H'->ji fp fp' H->Q .non H')/\∀cl,(cq.propose n x).due s=some cl->cA K H E cl
noncomputable def HD(s:aG)(v n:PH):aG:=if(v,n)∈s.ws then s else{s with ws:=s.ws++[(v,n)]}
noncomputable def jM(K:PM):Sp:=fun vs H Q E=>vs.length=3/\∃(c:PK)(v n:PH)(fp:List PK)(s:aG),vs=[.ref c,.str v,.str n]/\aO K H c fp s/\Tx v/\Tx n/\(∀p∈s.ws,aV p.1/\aV p.2)/\s.ws.length<=900/\
 ((cq.want v n).due s=none->∀H' fp',aO K H' c fp' (HD s v n)->b7 fp H H'->ji fp fp' H->Q .non H')/\∀cl,(cq.want v n).due s=some cl->cA K H E cl
noncomputable def Pd(s:aG)(v n:PH):aG:={s with ws:=s.ws.filter fun p=>!decide (p=(v,n))}
noncomputable def gE(K:PM):Sp:=fun vs H Q E=>vs.length=3/\∃(c:PK)(v n:PH)(fp:List PK)(s:aG),vs=[.ref c,.str v,.str n]/\aO K H c fp s/\Tx v/\Tx n/\(∀p∈s.ws,aV p.1/\aV p.2)/\s.ws.length<=900/\
 ((cq.unwant v n).due s=none->∀H' fp',aO K H' c fp' (Pd s v n)->b7 fp H H'->ji fp fp' H->Q .non H')/\∀cl,(cq.unwant v n).due s=some cl->cA K H E cl
noncomputable def kd(K:PM):Sp:=fun vs H Q E=>vs.length=4/\∃(c:PK)(w a b:PH)(fp:List PK)(s:aG),vs=[.ref c,.str w,.str a,.str b]/\aO K H c fp s/\lL s/\Tx w/\Tx a/\Tx b/\xr K (fun H' fp' s'=>aO K H' c fp' s') H fp s Q E (yc s w a b)
noncomputable def jn(K:PM):Sp:=fun vs H Q E=>vs.length=2/\∃(d:PK)(row:PH)(fp:List PK)(s:aG),vs=[.ref d,.str row]/\cE K H d fp s/\lL s/\Tx row/\xr K (fun H' fp' s'=>cE K H' d fp' s') H fp s Q E (df s row)
noncomputable def qQ(cl:PH):List Bool:=[decide (cl="NoRow"),decide (cl="NoVoter"),true,decide (cl="NoName"),decide (cl="Twice"),decide (cl="NoWork"),decide (cl="TooMuch"),decide (cl="Full"),false]
noncomputable def cP(K:PM):Sp:=cL 2 fun vs H Q=>∃(d:PK)(row:PH)(fp:List PK)(s:aG),vs=[.ref d,.str row]/\cE K H d fp s/\lL s/\Tx row/\∀v H' fp',cE K H' d fp' (mh s (df s row))->b7 fp H H'->ji fp fp' H->gz qQ H H' v (jS s (df s row))->(∀l,v=.ref l->l∉fp')->Q v H'
noncomputable def HY:List PH:=["works","pot","given","spent","close","works","pot","spent"]
noncomputable def oR(ns:List PH):List PH:=(ns.map fun z=>("purse ":PH)++z)++HY
noncomputable def hJ(K:PM):Sp:=cL 2 fun vs H Q=>∃(d b:PK)(fp:List PK)(s:aG)(n:Nat)(ns:List PH),vs=[.ref d,.ref b]/\cE K H d fp s/\cG n s/\n+27<=900/\H b=some (.lst (ns.map V.str))/\b∉fp/\ns.length=19/\(∀z∈ns,Wd z)/\
 ∀l H' fp' ys,b7 fp H H'->ji fp fp' H->cE K H' d fp' (gC s (oR ns))->H l=none->l∉fp'->H' l=some (.lst ys)->Qd (fun a v=>gz qQ H H' v a/\∀l',v=.ref l'->l'∉fp') (rA s (oR ns)) ys->Q (.ref l) H'
noncomputable def dC(K:PM):Sp:=cL 2 fun vs H Q=>∃(a b:PK)(xs:List Int)(ns:List PH),vs=[.ref a,.ref b]/\aY K H a (xs.map V.int)/\aY K H b (ns.map V.str)/\6<=xs.length/\ns.length=19/\∀l g n o H',n∈ns->o∈ns->g∈CQ n o->H l=none->av H H'->H' l=some (.lst (g.map V.str))->Q (.ref l) H'
noncomputable def eN(_:PM):Sp:=cL 2 fun vs H Q=>∃(w:PH)(x:Int),vs=[.str w,.int x]/\w∈WA/\∀z H',z∉WA->Wd z->av H H'->Q (.str z) H'
noncomputable def fz(_:PM):Sp:=cL 1 fun vs H Q=>∃x:Int,vs=[.int x]/\∀z H',i8 z=false->Wd z->av H H'->Q (.str z) H'
noncomputable def mq(K:PM):Sp:=cL 2 fun vs H Q=>∃(a b:PK)(xs:List Int)(ns:List PH),vs=[.ref a,.ref b]/\aY K H a (xs.map V.int)/\aY K H b (ns.map V.str)/\6<=xs.length/\ns.length=19/\(∀z∈ns,Wd z)/\∀l ws H',gb ws->ws.length<=5->(∀w∈ws,Wd w)->H l=none->av H H'->H' l=some (.lst (ws.map V.str))->Q (.ref l) H'
noncomputable def top(i:Nat):P5:=PySem.Challenge.pw_purse_k53_refused_rows.main.body.getD i (.Pass ⟨0,0,0,0⟩)
noncomputable abbrev vt:P5:=top 63
theorem tH:aB ["script","k","cell"] ["script","k"] (aq vt):=⟨rfl,rfl,rfl,by decide +kernel,rfl,by decide +kernel,by decide +kernel⟩
noncomputable abbrev qw:P5:=top 64
theorem gv:aB ["cell","many","spins","k","turn"] ["cell","many"] (aq qw):=⟨rfl,rfl,rfl,by decide +kernel,rfl,by decide +kernel,by decide +kernel⟩
noncomputable abbrev ka:P5:=inClass (top 44) 0
theorem rL:aB ["self"] ["self"] (aq ka):=⟨rfl,rfl,rfl,by decide +kernel,rfl,by decide +kernel,by decide +kernel⟩
noncomputable abbrev lS:P5:=inClass (top 61) 0
theorem sT:aB ["self"] ["self"] (aq lS):=⟨rfl,rfl,rfl,by decide +kernel,rfl,by decide +kernel,by decide +kernel⟩
noncomputable abbrev tT:P5:=top 65
theorem d6:aB ["cell","k","letters","xs","word","at"] ["cell","k"] (aq tT):=⟨rfl,rfl,rfl,by decide +kernel,rfl,by decide +kernel,by decide +kernel⟩
noncomputable abbrev j4:P5:=top 67
theorem cp:aB ["xs","cell","people","plans","rows","k","j"] ["xs","cell"] (aq j4):=⟨rfl,rfl,rfl,by decide +kernel,rfl,by decide +kernel,by decide +kernel⟩
noncomputable abbrev qq:P5:=top 48
theorem o4:aB ["row","words"] ["row"] (aq qq):=⟨rfl,rfl,rfl,by decide +kernel,rfl,by decide +kernel,by decide +kernel⟩
noncomputable abbrev j7:P5:=top 5
theorem fN:aB ["step","number","multiple"] ["step","number"] (aq j7):=⟨rfl,rfl,rfl,by decide +kernel,rfl,by decide +kernel,by decide +kernel⟩
noncomputable abbrev vM:P5:=top 6
theorem jv:aB ["n","least","number"] ["n"] (aq vM):=⟨rfl,rfl,rfl,by decide +kernel,rfl,by decide +kernel,by decide +kernel⟩
noncomputable abbrev tW:P5:=top 7
theorem fm:aB ["voters","works","factor","grains","work"] ["voters","works"] (aq tW):=⟨rfl,rfl,rfl,by decide +kernel,rfl,by decide +kernel,by decide +kernel⟩
noncomputable abbrev zJ:P5:=top 22
theorem Eu:aB ["steps","voter"] ["steps","voter"] (aq zJ):=⟨rfl,rfl,rfl,by decide +kernel,rfl,by decide +kernel,by decide +kernel⟩
noncomputable abbrev yX:P5:=top 23
theorem EJ:aB ["purses","steps"] ["purses","steps"] (aq yX):=⟨rfl,rfl,rfl,by decide +kernel,rfl,by decide +kernel,by decide +kernel⟩
noncomputable abbrev tP:P5:=top 15
theorem rf:aB ["costs","wishes","grains"] ["costs","wishes"] (aq tP):=⟨rfl,rfl,rfl,by decide +kernel,rfl,by decide +kernel,by decide +kernel⟩
noncomputable abbrev rC:P5:=top 2
theorem yo:aB ["amount","shares"] ["amount","shares"] (aq rC):=⟨rfl,rfl,rfl,by decide +kernel,rfl,by decide +kernel,by decide +kernel⟩
noncomputable abbrev tY:P5:=top 3
theorem d7:aB ["purses","price","missing","payers","purse"] ["purses","price"] (aq tY):=⟨rfl,rfl,rfl,by decide +kernel,rfl,by decide +kernel,by decide +kernel⟩
noncomputable abbrev sZ:P5:=top 11
theorem AQ:aB ["wanted","works"] ["wanted","works"] (aq sZ):=⟨rfl,rfl,rfl,by decide +kernel,rfl,by decide +kernel,by decide +kernel⟩
noncomputable abbrev tE:P5:=top 13
theorem Ak:aB ["wishes","works"] ["wishes","works"] (aq tE):=⟨rfl,rfl,rfl,by decide +kernel,rfl,by decide +kernel,by decide +kernel⟩
noncomputable abbrev rD:P5:=top 12
theorem yy:aB ["wishes","work"] ["wishes","work"] (aq rD):=⟨rfl,rfl,rfl,by decide +kernel,rfl,by decide +kernel,by decide +kernel⟩
noncomputable abbrev wq:P5:=top 16
theorem Cf:aB ["purses","wishes","work","price"] ["purses","wishes","work","price"] (aq wq):=⟨rfl,rfl,rfl,by decide +kernel,rfl,by decide +kernel,by decide +kernel⟩
noncomputable abbrev tf:P5:=top 17
theorem g9:aB ["purses","costs","wishes","done","offers","work","price"] ["purses","costs","wishes","done"] (aq tf):=⟨rfl,rfl,rfl,by decide +kernel,rfl,by decide +kernel,by decide +kernel⟩
noncomputable abbrev zw:P5:=top 18
theorem i7:aB ["offers","best","work","offer"] ["offers"] (aq zw):=⟨rfl,rfl,rfl,by decide +kernel,rfl,by decide +kernel,by decide +kernel⟩
noncomputable abbrev xf:P5:=top 21
theorem By:aB ["steps"] ["steps"] (aq xf):=⟨rfl,rfl,rfl,by decide +kernel,rfl,by decide +kernel,by decide +kernel⟩
noncomputable abbrev zH:P5:=top 1
theorem Ec:aB ["purses","level"] ["purses","level"] (aq zH):=⟨rfl,rfl,rfl,by decide +kernel,rfl,by decide +kernel,by decide +kernel⟩
noncomputable abbrev o8:P5:=top 20
theorem mI:aB ["purses","wishes","work","level","wanters"] ["purses","wishes","work","level"] (aq o8):=⟨rfl,rfl,rfl,by decide +kernel,rfl,by decide +kernel,by decide +kernel⟩
noncomputable abbrev oJ:P5:=top 24
theorem dY:aB ["purses","costs","wishes","steps","left","offers","work","level"] ["purses","costs","wishes","steps"] (aq oJ):=⟨rfl,rfl,rfl,by decide +kernel,rfl,by decide +kernel,by decide +kernel⟩
noncomputable abbrev C5:P5:=top 25
theorem n9:aB ["purses","costs","wishes","steps","step"] ["purses","costs","wishes"] (aq C5):=⟨rfl,rfl,rfl,by decide +kernel,rfl,by decide +kernel,by decide +kernel⟩
noncomputable abbrev i0:P5:=inClass (top 44) 21
theorem om:aB ["self","left","grains"] ["self","left","grains"] (aq i0):=⟨rfl,rfl,rfl,by decide +kernel,rfl,by decide +kernel,by decide +kernel⟩
noncomputable abbrev fR:P5:=inClass (top 44) 8
theorem kT:aB ["self","voter"] ["self","voter"] (aq fR):=⟨rfl,rfl,rfl,by decide +kernel,rfl,by decide +kernel,by decide +kernel⟩
noncomputable abbrev jx:P5:=inClass (top 44) 20
theorem eT:aB ["self","place","paid","name","rows"] ["self","place","paid"] (aq jx):=⟨rfl,rfl,rfl,by decide +kernel,rfl,by decide +kernel,by decide +kernel⟩
noncomputable abbrev ix:P5:=inClass (top 44) 10
theorem oq:aB ["self","work"] ["self","work"] (aq ix):=⟨rfl,rfl,rfl,by decide +kernel,rfl,by decide +kernel,by decide +kernel⟩
noncomputable abbrev j8:P5:=inClass (top 44) 16
theorem rN:aB ["self","work"] ["self","work"] (aq j8):=⟨rfl,rfl,rfl,by decide +kernel,rfl,by decide +kernel,by decide +kernel⟩
noncomputable abbrev oZ:P5:=inClass (top 44) 19
theorem cn:aB ["self","grains","purses","wishes","steps","told","name","cost","rows"] ["self"] (aq oZ):=⟨rfl,rfl,rfl,by decide +kernel,rfl,by decide +kernel,by decide +kernel⟩
noncomputable abbrev tm:P5:=top 52
theorem zQ:aB ["rows"] ["rows"] (aq tm):=⟨rfl,rfl,rfl,by decide +kernel,rfl,by decide +kernel,by decide +kernel⟩
noncomputable abbrev tu:P5:=top 53
theorem rB:aB ["work","cost","rows","payers"] ["work","cost","rows"] (aq tu):=⟨rfl,rfl,rfl,by decide +kernel,rfl,by decide +kernel,by decide +kernel⟩
noncomputable abbrev nD:P5:=top 54
theorem ma:aB ["done","grains","told"] ["done","grains"] (aq nD):=⟨rfl,rfl,rfl,by decide +kernel,rfl,by decide +kernel,by decide +kernel⟩
noncomputable abbrev oF:P5:=top 57
theorem nh:aB ["chest","closing"] ["chest"] (aq oF):=⟨rfl,rfl,rfl,by decide +kernel,rfl,by decide +kernel,by decide +kernel⟩
noncomputable abbrev tJ:P5:=top 55
theorem rK:aB ["work","cost","wanters","names"] ["work","cost","wanters"] (aq tJ):=⟨rfl,rfl,rfl,by decide +kernel,rfl,by decide +kernel,by decide +kernel⟩
noncomputable abbrev rp:P5:=top 56
theorem yp:aB ["works"] ["works"] (aq rp):=⟨rfl,rfl,rfl,by decide +kernel,rfl,by decide +kernel,by decide +kernel⟩
noncomputable abbrev lM:P5:=inClass (top 44) 7
theorem r8:aB ["self","work"] ["self","work"] (aq lM):=⟨rfl,rfl,rfl,by decide +kernel,rfl,by decide +kernel,by decide +kernel⟩
noncomputable abbrev o9:P5:=inClass (top 44) 2
theorem xi:aB ["self"] ["self"] (aq o9):=⟨rfl,rfl,rfl,by decide +kernel,rfl,by decide +kernel,by decide +kernel⟩
noncomputable abbrev tQ:P5:=inClass (top 44) 3
theorem Az:aB ["self"] ["self"] (aq tQ):=⟨rfl,rfl,rfl,by decide +kernel,rfl,by decide +kernel,by decide +kernel⟩
noncomputable abbrev o3:P5:=inClass (top 44) 4
theorem wx:aB ["self"] ["self"] (aq o3):=⟨rfl,rfl,rfl,by decide +kernel,rfl,by decide +kernel,by decide +kernel⟩
noncomputable abbrev oO:P5:=inClass (top 44) 5
theorem xg:aB ["self"] ["self"] (aq oO):=⟨rfl,rfl,rfl,by decide +kernel,rfl,by decide +kernel,by decide +kernel⟩
noncomputable abbrev zo:P5:=top 58
theorem Dy:aB ["chest","deed"] ["chest","deed"] (aq zo):=⟨rfl,rfl,rfl,by decide +kernel,rfl,by decide +kernel,by decide +kernel⟩
noncomputable abbrev y4:P5:=top 40
theorem EM:aB ["name"] ["name"] (aq y4):=⟨rfl,rfl,rfl,by decide +kernel,rfl,by decide +kernel,by decide +kernel⟩
noncomputable abbrev jZ:P5:=top 41
theorem q0:aB ["name","names"] ["name","names"] (aq jZ):=⟨rfl,rfl,rfl,by decide +kernel,rfl,by decide +kernel,by decide +kernel⟩
noncomputable abbrev oY:P5:=top 43
theorem vw:aB ["names","most"] ["names","most"] (aq oY):=⟨rfl,rfl,rfl,by decide +kernel,rfl,by decide +kernel,by decide +kernel⟩
noncomputable abbrev oP:P5:=inClass (top 44) 11
theorem vn:aB ["self","name"] ["self","name"] (aq oP):=⟨rfl,rfl,rfl,by decide +kernel,rfl,by decide +kernel,by decide +kernel⟩
noncomputable abbrev gR:P5:=inClass (top 44) 9
theorem nN:aB ["self","voter"] ["self","voter"] (aq gR):=⟨rfl,rfl,rfl,by decide +kernel,rfl,by decide +kernel,by decide +kernel⟩
noncomputable abbrev jV:P5:=inClass (top 44) 6
theorem qZ:aB ["self","voter"] ["self","voter"] (aq jV):=⟨rfl,rfl,rfl,by decide +kernel,rfl,by decide +kernel,by decide +kernel⟩
noncomputable abbrev o7:P5:=inClass (top 44) 12
theorem wJ:aB ["self","name"] ["self","name"] (aq o7):=⟨rfl,rfl,rfl,by decide +kernel,rfl,by decide +kernel,by decide +kernel⟩
noncomputable abbrev o5:P5:=top 42
theorem vW:aB ["coins","least"] ["coins","least"] (aq o5):=⟨rfl,rfl,rfl,by decide +kernel,rfl,by decide +kernel,by decide +kernel⟩
noncomputable abbrev oW:P5:=inClass (top 44) 14
theorem xk:aB ["self","part"] ["self","part"] (aq oW):=⟨rfl,rfl,rfl,by decide +kernel,rfl,by decide +kernel,by decide +kernel⟩
noncomputable abbrev qB:P5:=inClass (top 44) 13
theorem ye:aB ["self","coins"] ["self","coins"] (aq qB):=⟨rfl,rfl,rfl,by decide +kernel,rfl,by decide +kernel,by decide +kernel⟩
noncomputable abbrev tX:P5:=top 49
theorem A4:aB ["word"] ["word"] (aq tX):=⟨rfl,rfl,rfl,by decide +kernel,rfl,by decide +kernel,by decide +kernel⟩
noncomputable abbrev oH:P5:=top 50
theorem vg:aB ["word"] ["word"] (aq oH):=⟨rfl,rfl,rfl,by decide +kernel,rfl,by decide +kernel,by decide +kernel⟩
noncomputable abbrev zE:P5:=top 59
theorem Dt:aB ["chest","deed","word"] ["chest","deed","word"] (aq zE):=⟨rfl,rfl,rfl,by decide +kernel,rfl,by decide +kernel,by decide +kernel⟩
noncomputable abbrev lY:P5:=inClass (top 44) 15
theorem so:aB ["self","work","cost"] ["self","work","cost"] (aq lY):=⟨rfl,rfl,rfl,by decide +kernel,rfl,by decide +kernel,by decide +kernel⟩
noncomputable abbrev qo:P5:=inClass (top 44) 17
theorem yB:aB ["self","voter","work"] ["self","voter","work"] (aq qo):=⟨rfl,rfl,rfl,by decide +kernel,rfl,by decide +kernel,by decide +kernel⟩
noncomputable abbrev mr:P5:=inClass (top 44) 18
theorem uS:aB ["self","voter","work"] ["self","voter","work"] (aq mr):=⟨rfl,rfl,rfl,by decide +kernel,rfl,by decide +kernel,by decide +kernel⟩
noncomputable abbrev tz:P5:=top 60
theorem A0:aB ["chest","deed","word","last"] ["chest","deed","word","last"] (aq tz):=⟨rfl,rfl,rfl,by decide +kernel,rfl,by decide +kernel,by decide +kernel⟩
noncomputable abbrev u3:P5:=inClass (top 61) 1
theorem tO:aB ["self","row","words"] ["self","row"] (aq u3):=⟨rfl,rfl,rfl,by decide +kernel,rfl,by decide +kernel,by decide +kernel⟩
noncomputable abbrev tD:P5:=top 66
theorem dB:aB ["desk","row","caught","answer","e","kinds"] ["desk","row"] (aq tD):=⟨rfl,rfl,rfl,by decide +kernel,rfl,by decide +kernel,by decide +kernel⟩
noncomputable abbrev tU:P5:=top 72
theorem qN:aB ["desk","names","rows"] ["desk","names"] (aq tU):=⟨rfl,rfl,rfl,by decide +kernel,rfl,by decide +kernel,by decide +kernel⟩
noncomputable abbrev jw:P5:=top 70
theorem cT:aB ["xs","names","name","other","good"] ["xs","names"] (aq jw):=⟨rfl,rfl,rfl,by decide +kernel,rfl,by decide +kernel,by decide +kernel⟩
noncomputable abbrev js:P5:=top 69
theorem bZ:aB ["word","x","words","at","some","found"] ["word","x"] (aq js):=⟨rfl,rfl,rfl,by decide +kernel,rfl,by decide +kernel,by decide +kernel⟩
noncomputable abbrev o6:P5:=top 68
theorem mS:aB ["x","some"] ["x"] (aq o6):=⟨rfl,rfl,rfl,by decide +kernel,rfl,by decide +kernel,by decide +kernel⟩
noncomputable abbrev wj:P5:=top 71
theorem jt:aB ["xs","names","name","words","way"] ["xs","names"] (aq wj):=⟨rfl,rfl,rfl,by decide +kernel,rfl,by decide +kernel,by decide +kernel⟩
noncomputable abbrev BS:P5:=top 73
theorem eQ:aB ["script","first","cell","xs","one","other","rows","row","names","number","spins","good","strangers","stranger"] ["script"] (aq BS):=⟨rfl,rfl,rfl,by decide +kernel,rfl,by decide +kernel,by decide +kernel⟩
structure gY(K:PM):Prop where
 Iy:(Rp K (ao K "NoName")).isSome=true
 Hl:my K (ao K "NoName")
 Le:(Rp K (ao K "Twice")).isSome=true
 Jp:my K (ao K "Twice")
 GX:(Rp K (ao K "NoVoter")).isSome=true
 Dv:my K (ao K "NoVoter")
 Il:(Rp K (ao K "NoWork")).isSome=true
 Hi:my K (ao K "NoWork")
 GD:(Rp K (ao K "TooMuch")).isSome=true
 EF:my K (ao K "TooMuch")
 M0:(Rp K (ao K "Full")).isSome=true
 Lp:my K (ao K "Full")
 LF:(Rp K (ao K "NoRow")).isSome=true
 JM:my K (ao K "NoRow")
 oB:RY K (.ref (ao K "NoName")) (.ref (ao K "PurseError"))=some true
 oy:Qb K (.ref (ao K "NoName")) (.type "ValueError")=some true
 uf:Qb K (.ref (ao K "NoName")) (.ref (ao K "NoName"))=some true
 xE:Qb K (.ref (ao K "NoName")) (.ref (ao K "Twice"))=some false
 rS:Qb K (.ref (ao K "NoName")) (.ref (ao K "NoVoter"))=some false
 uO:Qb K (.ref (ao K "NoName")) (.ref (ao K "NoWork"))=some false
 sr:Qb K (.ref (ao K "NoName")) (.ref (ao K "TooMuch"))=some false
 yx:Qb K (.ref (ao K "NoName")) (.ref (ao K "Full"))=some false
 vc:Qb K (.ref (ao K "NoName")) (.ref (ao K "NoRow"))=some false
 se:Qb K (.ref (ao K "NoName")) (.ref (ao K "NoPaper"))=some false
 pG:RY K (.ref (ao K "Twice")) (.ref (ao K "PurseError"))=some true
 pO:Qb K (.ref (ao K "Twice")) (.type "ValueError")=some true
 vv:Qb K (.ref (ao K "Twice")) (.ref (ao K "NoName"))=some false
 yA:Qb K (.ref (ao K "Twice")) (.ref (ao K "Twice"))=some true
 uG:Qb K (.ref (ao K "Twice")) (.ref (ao K "NoVoter"))=some false
 u7:Qb K (.ref (ao K "Twice")) (.ref (ao K "NoWork"))=some false
 uM:Qb K (.ref (ao K "Twice")) (.ref (ao K "TooMuch"))=some false
 Bq:Qb K (.ref (ao K "Twice")) (.ref (ao K "Full"))=some false
 xN:Qb K (.ref (ao K "Twice")) (.ref (ao K "NoRow"))=some false
 ug:Qb K (.ref (ao K "Twice")) (.ref (ao K "NoPaper"))=some false
 mj:RY K (.ref (ao K "NoVoter")) (.ref (ao K "PurseError"))=some true
 mY:Qb K (.ref (ao K "NoVoter")) (.type "ValueError")=some true
 sN:Qb K (.ref (ao K "NoVoter")) (.ref (ao K "NoName"))=some false
 ud:Qb K (.ref (ao K "NoVoter")) (.ref (ao K "Twice"))=some false
 rF:Qb K (.ref (ao K "NoVoter")) (.ref (ao K "NoVoter"))=some true
 sO:Qb K (.ref (ao K "NoVoter")) (.ref (ao K "NoWork"))=some false
 ql:Qb K (.ref (ao K "NoVoter")) (.ref (ao K "TooMuch"))=some false
 xp:Qb K (.ref (ao K "NoVoter")) (.ref (ao K "Full"))=some false
 uK:Qb K (.ref (ao K "NoVoter")) (.ref (ao K "NoRow"))=some false
 qL:Qb K (.ref (ao K "NoVoter")) (.ref (ao K "NoPaper"))=some false
 ou:RY K (.ref (ao K "NoWork")) (.ref (ao K "PurseError"))=some true
 ox:Qb K (.ref (ao K "NoWork")) (.type "ValueError")=some true
 uI:Qb K (.ref (ao K "NoWork")) (.ref (ao K "NoName"))=some false
 xx:Qb K (.ref (ao K "NoWork")) (.ref (ao K "Twice"))=some false
 sq:Qb K (.ref (ao K "NoWork")) (.ref (ao K "NoVoter"))=some false
 ux:Qb K (.ref (ao K "NoWork")) (.ref (ao K "NoWork"))=some true
 sC:Qb K (.ref (ao K "NoWork")) (.ref (ao K "TooMuch"))=some false
 yh:Qb K (.ref (ao K "NoWork")) (.ref (ao K "Full"))=some false
 vY:Qb K (.ref (ao K "NoWork")) (.ref (ao K "NoRow"))=some false
 rU:Qb K (.ref (ao K "NoWork")) (.ref (ao K "NoPaper"))=some false
 ny:RY K (.ref (ao K "TooMuch")) (.ref (ao K "PurseError"))=some true
 mH:Qb K (.ref (ao K "TooMuch")) (.type "ValueError")=some true
 sM:Qb K (.ref (ao K "TooMuch")) (.ref (ao K "NoName"))=some false
 uo:Qb K (.ref (ao K "TooMuch")) (.ref (ao K "Twice"))=some false
 rE:Qb K (.ref (ao K "TooMuch")) (.ref (ao K "NoVoter"))=some false
 rV:Qb K (.ref (ao K "TooMuch")) (.ref (ao K "NoWork"))=some false
 ra:Qb K (.ref (ao K "TooMuch")) (.ref (ao K "TooMuch"))=some true
 vJ:Qb K (.ref (ao K "TooMuch")) (.ref (ao K "Full"))=some false
 uJ:Qb K (.ref (ao K "TooMuch")) (.ref (ao K "NoRow"))=some false
 qk:Qb K (.ref (ao K "TooMuch")) (.ref (ao K "NoPaper"))=some false
 qX:RY K (.ref (ao K "Full")) (.ref (ao K "PurseError"))=some true
 ri:Qb K (.ref (ao K "Full")) (.type "ValueError")=some true
 yE:Qb K (.ref (ao K "Full")) (.ref (ao K "NoName"))=some false
 Bi:Qb K (.ref (ao K "Full")) (.ref (ao K "Twice"))=some false
 wb:Qb K (.ref (ao K "Full")) (.ref (ao K "NoVoter"))=some false
 xT:Qb K (.ref (ao K "Full")) (.ref (ao K "NoWork"))=some false
 vi:Qb K (.ref (ao K "Full")) (.ref (ao K "TooMuch"))=some false
 C6:Qb K (.ref (ao K "Full")) (.ref (ao K "Full"))=some true
 Ae:Qb K (.ref (ao K "Full")) (.ref (ao K "NoRow"))=some false
 wN:Qb K (.ref (ao K "Full")) (.ref (ao K "NoPaper"))=some false
 pz:RY K (.ref (ao K "NoRow")) (.ref (ao K "PurseError"))=some true
 pY:Qb K (.ref (ao K "NoRow")) (.type "ValueError")=some true
 xj:Qb K (.ref (ao K "NoRow")) (.ref (ao K "NoName"))=some false
 xM:Qb K (.ref (ao K "NoRow")) (.ref (ao K "Twice"))=some false
 uN:Qb K (.ref (ao K "NoRow")) (.ref (ao K "NoVoter"))=some false
 wO:Qb K (.ref (ao K "NoRow")) (.ref (ao K "NoWork"))=some false
 uz:Qb K (.ref (ao K "NoRow")) (.ref (ao K "TooMuch"))=some false
 A7:Qb K (.ref (ao K "NoRow")) (.ref (ao K "Full"))=some false
 ym:Qb K (.ref (ao K "NoRow")) (.ref (ao K "NoRow"))=some true
 uA:Qb K (.ref (ao K "NoRow")) (.ref (ao K "NoPaper"))=some false
 aJ:L2.gY K (ao K "Chest")
 aS:dg K (ao K "Chest") "purses"
 bJ:dg K (ao K "Chest") "costs"
 bQ:dg K (ao K "Chest") "wishes"
 cB:dg K (ao K "Chest") "unshared"
 jJ:dg K (ao K "Chest") "gifts"
 jb:dg K (ao K "Chest") "outlay"
 Ab:L2.gY K (ao K "Desk")
 hG:dg K (ao K "Desk") "chest"
noncomputable def mx(K:PM):TS:=
 (aE (pK (dm K (u1 (qM K) (af 0) (dA (af 1)) (dA (aN gT (af 1) (tC (.int 1)))))) (au 2) (bB (af 2)))
  (bB (tC (.int 0))))
noncomputable def jG(K:PM):TS:=
 (aE (bG (cH az) (au 2))
  (aE (pK (nG (ae (af 1) az)) (au 3) (aE (bG (aN gT (aN gT (aN oMod (af 0) (tC (.int 900900929))) (aN qO (tC (.int 2503)) (af 3))) (tC (.int 77))) (au 4))
  (cR (Dl K "list" ke (af 2) (ae (aN oMod (aN oDiv (aN qO (aN qO (af 4) (af 4)) (aN gT (af 4) (aN qO (tC (.int 31)) (af 3)))) (tC (.int 13))) (tC (.int 700700003))) az)))))
  (bB (af 2))))
noncomputable def fh(K:PM):TS:=
 (aE (qT K (af 0) Au "purses")
  (aE (qT K (af 0) Au "costs")
  (aE (qT K (af 0) (cH az) "wishes")
  (aE (qT K (af 0) (tC (.int 0)) "unshared")
  (aE (qT K (af 0) (tC (.int 0)) "gifts")
  (qT K (af 0) (tC (.int 0)) "outlay"))))))
noncomputable def gm(K:PM):TS:=
 (qT K (af 0) (yP (ao K "Chest") (fG K) [] E0 az) "chest")
noncomputable def kn(K:PM):TS:=
 (aE (bG (tC (.str "abcdefghijklmnopqrstuvwxyz")) (au 2))
  (aE (bG (bf (eE K) [] E0 (ae (af 0) (ae (tC (.int 9)) az))) (au 3))
  (aE (bG (Dl K "str" (rJoin K) (tC (.str "")) (ae (bO [none,some 2] (dm K (u1 (qM K) (af 3) cy (dA (tC (.int 7))))) (au 0) dv (aN uQ (af 1) (aN oMod (af 0) (tC (.int 26))))) az)) (au 4))
  (aE (cm (bA (aN oA (aN oMod (aN (cu K) (af 3) (tC (.int 8))) (tC (.int 4))) (tC (.int 0)))) (bB (aN dh (aN uQ (af 2) (aN oMod (aN gT (aN (cu K) (af 3) (tC (.int 7))) (aN oDiv (af 1) (tC (.int 8)))) (tC (.int 26)))) (u1 qx (af 4) cy (dA (aN oMod (af 1) (tC (.int 8))))))) bS)
  (aE (cm (bA (aN oA (aN oMod (aN (cu K) (af 3) (tC (.int 8))) (tC (.int 4))) (tC (.int 1)))) (bB (aN dh (u1 qx (af 4) (dA (aN BZ (tC (.int 7)) (aN oMod (af 1) (tC (.int 8))))) cy) (aN uQ (af 2) (aN oMod (aN gT (aN (cu K) (af 3) (tC (.int 7))) (aN oDiv (af 1) (tC (.int 8)))) (tC (.int 26)))))) bS)
  (aE (bG (u1 qx (af 4) cy (dA (aN oMod (aN oDiv (aN (cu K) (af 3) (tC (.int 8))) (tC (.int 4))) (tC (.int 8))))) (au 4))
  (aE (bG (aN oMod (aN oDiv (aN (cu K) (af 3) (tC (.int 8))) (tC (.int 32))) (aN gT (gr vq (ae (af 4) az)) (tC (.int 1)))) (au 5))
  (bB (aN dh (aN dh (u1 qx (af 4) cy (dA (af 5))) (aN uQ (af 2) (aN oMod (aN gT (aN (cu K) (af 3) (tC (.int 7))) (af 1)) (tC (.int 26))))) (u1 qx (af 4) (dA (af 5)) cy))))))))))
noncomputable def fE(K:PM):TS:=
 (aE (bG (bO [none,some 1] (nG (ae (aN gT (tC (.int 1)) (aN oMod (aN (cu K) (af 0) (tC (.int 0))) (tC (.int 6)))) az)) (au 0) dv (bf (dF K) [] E0 (ae (af 1) (ae (af 0) az)))) (au 2))
  (aE (bG (bO [none,some 1] (nG (ae (aN gT (tC (.int 1)) (aN oMod (aN (cu K) (af 0) (tC (.int 1))) (tC (.int 6)))) az)) (au 0) dv (bf (dF K) [] E0 (ae (aN oDiv (af 1) (tC (.int 3))) (ae (af 0) az)))) (au 3))
  (aE (bG (aN hV (bO [none] (dm K (af 2)) (au 0) dv (aN dh (tC (.str "enrol ")) (af 0))) (cH (ae (aN dh (tC (.str "give ")) (gr qm (ae (aN oMod (aN (cu K) (af 0) (tC (.int 2))) (tC (.int 500))) az))) az))) (au 4))
  (aE (bG (aN hV (af 4) (bO [none,some 3,some 0] (nG (ae (gr (gQ K) (ae (af 3) az)) az)) (au 0) dv (aN dh (aN dh (aN dh (tC (.str "propose ")) (aN (cu K) (af 1) (af 0))) (tC (.str " "))) (gr qm (ae (aN gT (tC (.int 1)) (aN oMod (aN (cu K) (af 2) (aN gT (tC (.int 3)) (af 0))) (tC (.int 90)))) az))))) (au 4))
  (aE (pK (nG (ae (gr (gQ K) (ae (af 2) az)) az)) (au 5) (pK (nG (ae (gr (gQ K) (ae (af 3) az)) az)) (au 6) (cm (bA (aN oA (aN oMod (aN oDiv (aN (cu K) (af 0) (aN gT (tC (.int 9)) (aN oMod (aN gT (af 5) (af 6)) (tC (.int 6))))) (aN gT (af 5) (tC (.int 1)))) (tC (.int 2))) (tC (.int 0)))) (cR (Dl K "list" ke (af 4) (ae (aN dh (aN dh (aN dh (tC (.str "want ")) (aN (cu K) (af 2) (af 5))) (tC (.str " "))) (aN (cu K) (af 3) (af 6))) az))) bS)))
  (bB (af 4)))))))
noncomputable def jK(K:PM)(E:XK):TS:=
 (aE (bG (Dl K "str" IJ (af 0) (ae (tC (.str " ")) az)) (au 1))
  (aE (cm (bA (aN (Hz K false) (tC (.str "")) (af 1))) (eJ (ao K "NoRow") E (ae (zj [(tC (.str "no row: ")),(oN (af 0))] Qp) az)) bS)
  (bB (af 1))))
noncomputable def fB(K:PM):TS:=
 (aE (bG (af 0) (au 2))
  (aE (D4 (bA (aN LL (aN oMod (af 2) (af 1)) (tC (.int 0)))) (DJ 2 (af 0) gT))
  (bB (af 2))))
noncomputable def nJ(K:PM):TS:=
 (aE (bG (tC (.int 1)) (au 1))
  (aE (pK (Fl (ae (tC (.int 1)) (ae (aN gT (af 0) (tC (.int 1))) az))) (au 2) (bG (bf (ff K) [] E0 (ae (af 1) (ae (af 2) az))) (au 1)))
  (bB (af 1))))
noncomputable def lz(K:PM):TS:=
 (aE (bG (bf (nL K) [] E0 (ae (af 0) az)) (au 2))
  (aE (bG (af 2) (au 3))
  (aE (pK (nG (ae (af 1) az)) (au 4) (DJ 3 (af 2) qO))
  (bB (af 3)))))
noncomputable def pF(K:PM):TS:=
 (bB (gr (Gz K) (ae (bO [none,none,none,some 1] (dm K (af 0)) (gf K 3 (bz (au 0) (bz (au 1) (bz (au 2) fW)))) dv (aN (cu K) (af 2) (af 3))) az)))
noncomputable def px(K:PM):TS:=
 (bB (bO [none,none,some 1] (vG K (af 0)) (gf K 2 (bz (au 0) (bz (au 1) fW))) dv (aN BZ (af 1) (bf (pW K) [] E0 (ae (af 2) (ae (af 0) az))))))
noncomputable def kF(K:PM):TS:=
 (aE (bG (bf (gZ K) [] E0 (ae (gr (gQ K) (ae (af 1) az)) (ae (gr (gQ K) (ae (af 0) az)) az))) (au 2))
  (bB (bO [none,some 2] (dm K (af 0)) (au 0) dv (aN qO (af 0) (af 1)))))
noncomputable def jC(K:PM):TS:=
 (bB (aN oDiv (aN BZ (aN gT (af 0) (af 1)) (tC (.int 1))) (af 1)))
noncomputable def lu(K:PM):TS:=
 (aE (cm (bA (aN oLt (gr (Gz K) (ae (af 0) az)) (af 1))) (bB (tC .non)) bS)
  (aE (bG (af 1) (au 2))
  (aE (bG (gr (gQ K) (ae (af 0) az)) (au 3))
  (aE (pK (dm K (gr (Fx K) (ae (af 0) az))) (au 4) (aE (cm (bA (aN OQ (aN qO (af 4) (af 3)) (af 2))) (bB (bf (jI K) [] E0 (ae (af 2) (ae (af 3) az)))) bS)
  (aE (DJ 2 (af 4) BZ)
  (DJ 3 (tC (.int 1)) BZ))))
  (bB (tC (.int 0)))))))
noncomputable def kA(K:PM):TS:=
 (bB (gr (HC K) (ae (bO [none,some 0] (dm K (af 1)) (au 0) dv (aN (Hz K false) (af 0) (af 1))) az)))
noncomputable def kO(K:PM):TS:=
 (bB (bO [none,none,some 1] (vG K (af 0)) (gf K 2 (bz (au 0) (bz (au 1) fW))) (tB (bf (k9 K) [] E0 (ae (af 1) (ae (af 2) az)))) (af 0)))
noncomputable def jN(K:PM):TS:=
 (bB (bf (lG K) [] E0 (ae (af 0) (ae (cH (ae (af 1) az)) az))))
noncomputable def nk(K:PM):TS:=
 (bB (bf (lH K) [] E0 (ae (bO [none,some 0] (dm K (bf (gp K) [] E0 (ae (af 1) (ae (af 2) az)))) (au 0) dv (aN (cu K) (af 1) (af 0))) (ae (af 3) az))))
noncomputable def km(K:PM):TS:=
 (aE (bG (cH az) (au 4))
  (aE (pK (vG K (bf (kU K) [] E0 (ae (af 1) (ae (af 2) az)))) (gf K 2 (bz (au 5) (bz (au 6) fW))) (cR (Dl K "list" ke (af 4) (ae (N4 (bA (aN (Hz K false) (af 5) (af 3))) (tC .non) (bf (ng K) [] E0 (ae (af 0) (ae (af 2) (ae (af 5) (ae (af 6) az)))))) az))))
  (bB (af 4))))
noncomputable def pP(K:PM):TS:=
 (aE (bG (tC .non) (au 1))
  (aE (pK (vG K (af 0)) (gf K 2 (bz (au 2) (bz (au 3) fW))) (cm (HH (bA (aN IQ (af 3) (tC .non))) (N3 (bA (aN KL (af 1) (tC .non))) (bA (aN oLt (af 3) (aN (cu K) (af 0) (af 1)))))) (bG (af 2) (au 1)) bS))
  (bB (af 1))))
noncomputable def mW(K:PM):TS:=
 (bB (gr (Fx K) (ae (bO [none,none,none] (dm K (af 0)) (gf K 3 (bz (au 0) (bz (au 1) (bz (au 2) fW)))) dv (af 0)) az)))
noncomputable def pZ(K:PM):TS:=
 (bB (bO [none,some 1] (dm K (af 0)) (au 0) dv (gr Ow (ae (af 0) (ae (af 1) az)))))
noncomputable def iR(K:PM):TS:=
 (aE (bG (bf (gp K) [] E0 (ae (af 1) (ae (af 2) az))) (au 4))
  (bB (bO [none,none,some 4] (vG K (bf (pq K) [] E0 (ae (af 0) (ae (af 3) az)))) (gf K 2 (bz (au 0) (bz (au 1) fW))) dv (N4 (bA (aN (Hz K false) (af 0) (af 2))) (af 1) (tC (.int 0))))))
noncomputable def i6(K:PM):TS:=
 (aE (bG (bf (ly K) [] E0 (ae (af 0) (ae (af 3) az))) (au 4))
  (aE (bG (bf (kj K) [] E0 (ae (af 4) (ae (af 1) (ae (af 2) (ae (bf (mi K) [] E0 (ae (af 3) az)) az))))) (au 5))
  (aE (bG (bf (pI K) [] E0 (ae (af 5) az)) (au 6))
  (aE (cm (bA (aN KL (af 6) (tC .non))) (bB (tC .non)) bS)
  (aE (bG (aN (cu K) (af 5) (af 6)) (au 7))
  (bB (oz (ae (af 6) (ae (af 7) (ae (bf (iV K) [] E0 (ae (af 4) (ae (af 2) (ae (af 6) (ae (af 7) az))))) az))))))))))
noncomputable def sh(K:PM):TS:=
 (aE (bG (cH az) (au 3))
  (aE (bG (bf (d0 K) [] E0 (ae (af 0) (ae (af 1) (ae (af 2) (ae (af 3) az))))) (au 4))
  (aE (D4 (bA (aN IQ (af 4) (tC .non))) (aE (cR (Dl K "list" ke (af 3) (ae (af 4) az)))
  (bG (bf (d0 K) [] E0 (ae (af 0) (ae (af 1) (ae (af 2) (ae (af 3) az))))) (au 4))))
  (bB (af 3)))))
noncomputable def eu(K:PM):TS:=
 (aE (jr K (af 0) (aN oDiv (gr (Gz K) (ae (bO [none,some 2] (dm K (af 1)) (au 0) dv (aN oMod (af 0) (af 1))) az)) (af 2)) Gb "unshared")
  (qT K (af 0) (En K (ae (c7 K (af 0) "purses") (ae (bO [none,some 2] (dm K (af 1)) (au 0) dv (aN oDiv (af 0) (af 1))) az))) "purses"))
noncomputable def dH(K:PM):TS:=
 (bB (gP (bO [none,none,some 1,some 0] (D5 (c7 K (af 0) "costs")) (gf K 2 (bz (au 0) (bz (au 1) fW))) (bA (aN (Gg K false) (oz (ae (af 2) (ae (af 1) az))) (c7 K (af 3) "wishes"))) (af 0))))
noncomputable def eS(K:PM):TS:=
 (aE (bG (aN (cu K) (gr Jd (ae (c7 K (af 0) "costs") az)) (af 1)) (au 3))
  (aE (bG (gP (bO [none,none] (Ju K (ae (c7 K (af 0) "purses") (ae (af 2) az))) (gf K 2 (bz (au 0) (bz (au 1) fW))) (bA (aN OV (af 1) (tC (.int 0)))) (oz (ae (af 0) (ae (af 1) az))))) (au 4))
  (bB (oz (ae (af 3) (ae (Fb (c7 K (af 0) "costs") (af 3)) (ae (af 4) az)))))))
noncomputable def eA(K:PM)(E:XK):TS:=
 (cm (tB (uY (af 1) (c7 K (af 0) "costs"))) (eJ (ao K "NoWork") E (ae (zj [(tC (.str "no work: ")),(oN (af 1))] Qp) az)) bS)
noncomputable def fD(K:PM)(E:XK):TS:=
 (aE (cR (cD (ao K "Chest") "check_work" (cM K) [] E (af 0) (ae (af 1) az)))
  (aE (cR (AZ (c7 K (af 0) "costs") (af 1)))
  (qT K (af 0) (bO [none,none,some 1] (dm K (c7 K (af 0) "wishes")) (gf K 2 (bz (au 0) (bz (au 1) fW))) (bA (aN LL (af 1) (af 2))) (oz (ae (af 0) (ae (af 1) az)))) "wishes")))
noncomputable def iE(K:PM):TS:=
 (aE (cm (N3 (CY (NQ (c7 K (af 0) "purses"))) (CY (NQ (c7 K (af 0) "costs")))) (bB (oz (ae (cH az) (ae (tC (.int 1)) az)))) bS)
  (aE (bG (bf (gZ K) [] E0 (ae (gr wk (ae (c7 K (af 0) "purses") az)) (ae (gr wk (ae (c7 K (af 0) "costs") az)) az))) (au 1))
  (aE (bG (gP (bO [none,some 1] (Jo (c7 K (af 0) "purses")) (au 0) dv (aN qO (af 0) (af 1)))) (au 2))
  (aE (bG (gP (bO [none,some 0] (B3 (c7 K (af 0) "purses")) (au 0) dv (cD (ao K "Chest") "wanted_places" (dD K) [] E0 (af 1) (ae (af 0) az)))) (au 3))
  (aE (bG (bf (sj K) [] E0 (ae (af 2) (ae (gr Co (ae (Ik K "dict" Ji (c7 K (af 0) "costs")) az)) (ae (af 3) az)))) (au 4))
  (aE (bG (bO [none,none,none,some 0] (dm K (af 4)) (gf K 3 (bz (au 0) (bz (au 1) (bz (au 2) fW)))) dv (cD (ao K "Chest") "told_step" (eU K) [] E0 (af 3) (ae (af 0) (ae (af 2) az)))) (au 5))
  (aE (cR (cD (ao K "Chest") "keep_coins" (eB K) [] E0 (af 0) (ae (bf (ly K) [] E0 (ae (af 2) (ae (af 4) az))) (ae (af 1) az))))
  (aE (pK (dm K (af 5)) (gf K 3 (bz (au 6) (bz (au 7) (bz (au 8) fW)))) (aE (jr K (af 0) (af 7) Gb "outlay")
  (cR (cD (ao K "Chest") "withdraw" (dW K) [] E0 (af 0) (ae (af 6) az)))))
  (bB (oz (ae (af 5) (ae (af 1) az))))))))))))
noncomputable def kJ(K:PM):TS:=
 (bB (Dl K "str" (rJoin K) (tC (.str ", ")) (ae (bO [none,none] (dm K (af 0)) (gf K 2 (bz (au 0) (bz (au 1) fW))) dv (zj [(tI (af 0)),(tC (.str " ")),(xZ (af 1))] Qp)) az)))
noncomputable def k7(K:PM):TS:=
 (aE (bG (bf (kY K) [] E0 (ae (af 2) az)) (au 3))
  (bB (zj [(tI (af 0)),(tC (.str " ")),(xZ (af 1)),(tC (.str ": ")),(tI (af 3))] Qp)))
noncomputable def gO(K:PM):TS:=
 (aE (cm (CY (OS K (af 0))) (bB (tC (.str "none"))) bS)
  (aE (bG (Dl K "str" (rJoin K) (tC (.str "; ")) (ae (bO [none,none,none] (dm K (af 0)) (gf K 3 (bz (au 0) (bz (au 1) (bz (au 2) fW)))) dv (bf (kr K) [] E0 (ae (af 0) (ae (af 1) (ae (af 2) az))))) az)) (au 2))
  (bB (zj [(tI (af 2)),(tC (.str " of ")),(xZ (af 1))] Qp))))
noncomputable def iL(K:PM):TS:=
 (aE (bG (cD (ao K "Chest") "close" (iU K) [] E0 (af 0) az) (au 1))
  (bB (bf (gI K) [] E0 (ae (aN (Lc K) (af 1) (tC (.int 0))) (ae (aN (Lc K) (af 1) (tC (.int 1))) az)))))
noncomputable def ky(K:PM):TS:=
 (aE (bG (N4 (OS K (af 2)) (Dl K "str" (rJoin K) (tC (.str "+")) (ae (af 2) az)) (tC (.str "-"))) (au 3))
  (bB (zj [(tI (af 0)),(tC (.str " ")),(xZ (af 1)),(tC (.str " ")),(tI (af 3))] Qp)))
noncomputable def jO(K:PM):TS:=
 (aE (cm (CY (OS K (af 0))) (bB (tC (.str "none"))) bS)
  (bB (Dl K "str" (rJoin K) (tC (.str ", ")) (ae (bO [none,none,none] (dm K (af 0)) (gf K 3 (bz (au 0) (bz (au 1) (bz (au 2) fW)))) dv (bf (kx K) [] E0 (ae (af 0) (ae (af 1) (ae (af 2) az))))) az))))
noncomputable def fY(K:PM):TS:=
 (bB (gP (bO [none,some 1,some 0] (B3 (c7 K (af 0) "purses")) (au 0) (bA (aN (Gg K false) (oz (ae (af 0) (ae (af 1) az))) (c7 K (af 2) "wishes"))) (af 0))))
noncomputable def ja(K:PM):TS:=
 (bB (gP (bO [none,none,some 0] (wH (c7 K (af 0) "costs")) (gf K 2 (bz (au 0) (bz (au 1) fW))) dv (oz (ae (af 0) (ae (af 1) (ae (cD (ao K "Chest") "wanters" (gd K) [] E0 (af 2) (ae (af 0) az)) az)))))))
noncomputable def kQ(K:PM):TS:=
 (bB (c7 K (af 0) "unshared"))
noncomputable def i5(K:PM):TS:=
 (bB (c7 K (af 0) "gifts"))
noncomputable def iO(K:PM):TS:=
 (bB (c7 K (af 0) "outlay"))
noncomputable def pV(K:PM)(E:XK):TS:=
 (aE (cm (bA (aN oA (af 1) (tC (.str "close")))) (bB (bf (jd K) [] E0 (ae (af 0) az))) bS)
  (aE (cm (bA (aN oA (af 1) (tC (.str "works")))) (bB (bf (jD K) [] E0 (ae (cD (ao K "Chest") "works" (iy K) [] E0 (af 0) az) az))) bS)
  (aE (cm (bA (aN oA (af 1) (tC (.str "pot")))) (bB (gr qm (ae (cD (ao K "Chest") "pot" (kl K) [] E0 (af 0) az) az))) bS)
  (aE (cm (bA (aN oA (af 1) (tC (.str "given")))) (bB (gr qm (ae (cD (ao K "Chest") "given" (iY K) [] E0 (af 0) az) az))) bS)
  (aE (cm (bA (aN oA (af 1) (tC (.str "spent")))) (bB (gr qm (ae (cD (ao K "Chest") "spent" (iu K) [] E0 (af 0) az) az))) bS)
  (eJ (ao K "NoRow") E (ae (zj [(tC (.str "no row of one word: ")),(oN (af 1))] Qp) az)))))))
noncomputable def pU(K:PM):TS:=
 (bB (E8 (AB oLe oLe (tC (.int 1)) (gr vq (ae (af 0) az)) (tC (.int 8))) (gr (HC K) (ae (bO [none] (Fv (af 0)) (au 0) dv (aN HN (af 0) (tC (.str "abcdefghijklmnopqrstuvwxyz")))) az))))
noncomputable def fO(K:PM)(E:XK):TS:=
 (aE (cm (CY (tB (bf (pM K) [] E0 (ae (af 0) az)))) (eJ (ao K "NoName") E (ae (zj [(tC (.str "no name: ")),(oN (af 0))] Qp) az)) bS)
  (cm (tB (Nu (af 0) (af 1))) (eJ (ao K "Twice") E (ae (zj [(tC (.str "there already: ")),(tI (af 0))] Qp) az)) bS))
noncomputable def iP(K:PM)(E:XK):TS:=
 (cm (bA (aN OQ (gr wk (ae (af 0) az)) (af 1))) (eJ (ao K "Full") E (ae (zj [(tC (.str "there are ")),(xZ (af 1)),(tC (.str " already"))] Qp) az)) bS)
noncomputable def ip(K:PM)(E:XK):TS:=
 (aE (cR (bf (dQ K) [] E (ae (af 1) (ae (c7 K (af 0) "purses") az))))
  (aE (cR (bf (fq K) [] E (ae (c7 K (af 0) "purses") (ae (tC (.int 20)) az))))
  (Ft (c7 K (af 0) "purses") (af 1) (tC (.int 0)))))
noncomputable def d4(K:PM)(E:XK):TS:=
 (cm (tB (uY (af 1) (c7 K (af 0) "purses"))) (eJ (ao K "NoVoter") E (ae (zj [(tC (.str "no voter: ")),(oN (af 1))] Qp) az)) bS)
noncomputable def fL(K:PM)(E:XK):TS:=
 (aE (cR (cD (ao K "Chest") "check_voter" (cg K) [] E (af 0) (ae (af 1) az)))
  (bB (Fb (c7 K (af 0) "purses") (af 1))))
noncomputable def iB(K:PM)(E:XK):TS:=
 (aE (cR (cD (ao K "Chest") "check_voter" (cg K) [] E (af 0) (ae (af 1) az)))
  (aE (jr K (af 0) (AZ (c7 K (af 0) "purses") (af 1)) Gb "unshared")
  (qT K (af 0) (bO [none,none,some 1] (dm K (c7 K (af 0) "wishes")) (gf K 2 (bz (au 0) (bz (au 1) fW))) (bA (aN LL (af 0) (af 2))) (oz (ae (af 0) (ae (af 1) az)))) "wishes")))
noncomputable def iG(K:PM)(E:XK):TS:=
 (cm (N3 (bA (aN oLt (af 0) (af 1))) (bA (aN OV (af 0) (tC (.int 1000000000))))) (eJ (ao K "TooMuch") E (ae (zj [(tC (.str "not from ")),(xZ (af 1)),(tC (.str " to ")),(xZ (tC (.int 1000000000))),(tC (.str " coins"))] Qp) az)) bS)
noncomputable def i4(K:PM):TS:=
 (aE (jr K (af 0) (aN qO (af 1) (gr wk (ae (c7 K (af 0) "purses") az))) Oa "unshared")
  (qT K (af 0) (gr (JJ K) (ae (gP (bO [none,none,some 1] (wH (c7 K (af 0) "purses")) (gf K 2 (bz (au 0) (bz (au 1) fW))) dv (oz (ae (af 0) (ae (aN gT (af 1) (af 2)) az))))) az)) "purses"))
noncomputable def jP(K:PM)(E:XK):TS:=
 (aE (cR (bf (fw K) [] E (ae (af 1) (ae (tC (.int 0)) az))))
  (aE (jr K (af 0) (af 1) Gb "gifts")
  (aE (jr K (af 0) (af 1) Gb "unshared")
  (cm (NQ (c7 K (af 0) "purses")) (cR (cD (ao K "Chest") "share" (iZ K) [] E0 (af 0) (ae (aN oDiv (c7 K (af 0) "unshared") (gr wk (ae (c7 K (af 0) "purses") az))) az))) bS))))
noncomputable def kC(K:PM):TS:=
 (aE (cm (tB (Dl K "str" uX (af 0) (ae (tC (.str "0")) az))) (bB (aN oA (af 0) (tC (.str "0")))) bS)
  (bB (E8 (AB oLe oLe (tC (.int 1)) (gr vq (ae (af 0) az)) (tC (.int 13))) (gr (HC K) (ae (bO [none] (Fv (af 0)) (au 0) dv (aN HN (af 0) (tC (.str "0123456789")))) az)))))
noncomputable def iz(K:PM)(E:XK):TS:=
 (aE (cm (CY (tB (bf (kW K) [] E0 (ae (af 0) az)))) (eJ (ao K "NoRow") E (ae (zj [(tC (.str "no number: ")),(oN (af 0))] Qp) az)) bS)
  (bB (gr CT (ae (af 0) az))))
noncomputable def pH(K:PM)(E:XK):TS:=
 (aE (cm (bA (aN oA (af 1) (tC (.str "purse")))) (bB (gr qm (ae (cD (ao K "Chest") "purse_of" (fv K) [] E (af 0) (ae (af 2) az)) az))) bS)
  (aE (cm (bA (aN oA (af 1) (tC (.str "enrol")))) (cR (cD (ao K "Chest") "enrol" (iS K) [] E (af 0) (ae (af 2) az))) (cm (bA (aN oA (af 1) (tC (.str "leave")))) (cR (cD (ao K "Chest") "leave" (iq K) [] E (af 0) (ae (af 2) az))) (cm (bA (aN oA (af 1) (tC (.str "give")))) (cR (cD (ao K "Chest") "give" (jF K) [] E (af 0) (ae (bf (fe K) [] E (ae (af 2) az)) az))) (cm (bA (aN oA (af 1) (tC (.str "withdraw")))) (cR (cD (ao K "Chest") "withdraw" (dW K) [] E (af 0) (ae (af 2) az))) (eJ (ao K "NoRow") E (ae (zj [(tC (.str "no row of two words: ")),(oN (af 1))] Qp) az))))))
  (bB (tC (.str "ok")))))
noncomputable def gg(K:PM)(E:XK):TS:=
 (aE (cR (bf (dQ K) [] E (ae (af 1) (ae (c7 K (af 0) "costs") az))))
  (aE (cR (bf (fw K) [] E (ae (af 2) (ae (tC (.int 1)) az))))
  (aE (cR (bf (fq K) [] E (ae (c7 K (af 0) "costs") (ae (tC (.int 12)) az))))
  (Ft (c7 K (af 0) "costs") (af 1) (af 2)))))
noncomputable def jR(K:PM)(E:XK):TS:=
 (aE (cR (cD (ao K "Chest") "check_voter" (cg K) [] E (af 0) (ae (af 1) az)))
  (aE (cR (cD (ao K "Chest") "check_work" (cM K) [] E (af 0) (ae (af 2) az)))
  (cm (bA (aN (Gg K true) (oz (ae (af 1) (ae (af 2) az))) (c7 K (af 0) "wishes"))) (cR (Dl K "list" ke (c7 K (af 0) "wishes") (ae (oz (ae (af 1) (ae (af 2) az))) az))) bS)))
noncomputable def gJ(K:PM)(E:XK):TS:=
 (aE (cR (cD (ao K "Chest") "check_voter" (cg K) [] E (af 0) (ae (af 1) az)))
  (aE (cR (cD (ao K "Chest") "check_work" (cM K) [] E (af 0) (ae (af 2) az)))
  (qT K (af 0) (bO [none,some 1,some 2] (dm K (c7 K (af 0) "wishes")) (au 0) (bA (aN (vk K true) (af 0) (oz (ae (af 1) (ae (af 2) az))))) (af 0)) "wishes")))
noncomputable def kR(K:PM)(E:XK):TS:=
 (aE (cm (bA (aN oA (af 1) (tC (.str "propose")))) (cR (cD (ao K "Chest") "propose" (gj K) [] E (af 0) (ae (af 2) (ae (bf (fe K) [] E (ae (af 3) az)) az)))) (cm (bA (aN oA (af 1) (tC (.str "want")))) (cR (cD (ao K "Chest") "want" (jM K) [] E (af 0) (ae (af 2) (ae (af 3) az)))) (cm (bA (aN oA (af 1) (tC (.str "unwant")))) (cR (cD (ao K "Chest") "unwant" (gE K) [] E (af 0) (ae (af 2) (ae (af 3) az)))) (eJ (ao K "NoRow") E (ae (zj [(tC (.str "no row of three words: ")),(oN (af 1))] Qp) az)))))
  (bB (tC (.str "ok"))))
noncomputable def ml(K:PM)(E:XK):TS:=
 (aE (bG (bf (jT K) [] E (ae (af 1) az)) (au 2))
  (aE (cm (bA (aN oA (gr (gQ K) (ae (af 2) az)) (tC (.int 1)))) (bB (bf (pQ K) [] E (ae (c7 K (af 0) "chest") (ae (aN (cu K) (af 2) (tC (.int 0))) az)))) bS)
  (aE (cm (bA (aN oA (gr (gQ K) (ae (af 2) az)) (tC (.int 2)))) (bB (bf (pR K) [] E (ae (c7 K (af 0) "chest") (ae (aN (cu K) (af 2) (tC (.int 0))) (ae (aN (cu K) (af 2) (tC (.int 1))) az))))) bS)
  (aE (cm (bA (aN oA (gr (gQ K) (ae (af 2) az)) (tC (.int 3)))) (bB (bf (kd K) [] E (ae (c7 K (af 0) "chest") (ae (aN (cu K) (af 2) (tC (.int 0))) (ae (aN (cu K) (af 2) (tC (.int 1))) (ae (aN (cu K) (af 2) (tC (.int 2))) az)))))) bS)
  (eJ (ao K "NoRow") E (ae (zj [(tC (.str "too many words: ")),(oN (af 1))] Qp) az))))))
noncomputable def kI(K:PM):TS:=
 (aE (bG (tC .non) (au 2))
  (aE (bG (tC .non) (au 3))
  (aE (FK K (.ref (ao K "PurseError")) 4 3 (fun E=>cD (ao K "Desk") "say" (jn K) [] E (af 0) (ae (af 1) az)) (bG (af 4) (au 2)))
  (aE (cm (bA (aN KL (af 2) (tC .non))) (bB (af 3)) bS)
  (aE (bG (cH (ae (gr (yn K) (ae (af 2) (ae (tC (.ref (ao K "NoRow"))) az))) (ae (gr (yn K) (ae (af 2) (ae (tC (.ref (ao K "NoVoter"))) az))) (ae (gr (yn K) (ae (af 2) (ae (tC (.ty "ValueError")) az))) az)))) (au 5))
  (aE (bG (aN hV (af 5) (cH (ae (gr (yn K) (ae (af 2) (ae (tC (.ref (ao K "NoName"))) az))) (ae (gr (yn K) (ae (af 2) (ae (tC (.ref (ao K "Twice"))) az))) (ae (gr (yn K) (ae (af 2) (ae (tC (.ref (ao K "NoWork"))) az))) az))))) (au 5))
  (bB (aN hV (af 5) (cH (ae (gr (yn K) (ae (af 2) (ae (tC (.ref (ao K "TooMuch"))) az))) (ae (gr (yn K) (ae (af 2) (ae (tC (.ref (ao K "Full"))) az))) (ae (gr (yn K) (ae (af 2) (ae (tC (.ref (ao K "NoPaper"))) az))) az))))))))))))
noncomputable def lh(K:PM):TS:=
 (aE (bG (aN hV (bO [none] (dm K (af 1)) (au 0) dv (aN dh (tC (.str "purse ")) (af 0))) (cH (ae (tC (.str "works")) (ae (tC (.str "pot")) (ae (tC (.str "given")) (ae (tC (.str "spent")) (ae (tC (.str "close")) (ae (tC (.str "works")) (ae (tC (.str "pot")) (ae (tC (.str "spent")) az)))))))))) (au 2))
  (bB (bO [none,some 0] (dm K (af 2)) (au 0) dv (bf (cP K) [] E0 (ae (af 1) (ae (af 0) az))))))
noncomputable def eR(K:PM):TS:=
 (aE (bG (aN (cu K) (af 1) (aN oMod (aN (cu K) (af 0) (tC (.int 1))) (gr (gQ K) (ae (af 1) az)))) (au 2))
  (aE (bG (aN (cu K) (af 1) (aN oMod (aN (cu K) (af 0) (tC (.int 2))) (gr (gQ K) (ae (af 1) az)))) (au 3))
  (aE (bG (cH (ae (cH (ae (tC (.str "enrol")) (ae (af 2) az))) (ae (cH (ae (tC (.str "leave")) (ae (af 2) az))) (ae (cH (ae (tC (.str "give")) (ae (tC (.str "5")) az))) (ae (cH (ae (tC (.str "propose")) (ae (af 2) (ae (tC (.str "7")) az)))) (ae (cH (ae (tC (.str "withdraw")) (ae (af 2) az))) (ae (cH (ae (tC (.str "close")) az)) az))))))) (au 4))
  (aE (bG (aN hV (af 4) (cH (ae (cH (ae (tC (.str "want")) (ae (af 2) (ae (af 3) az)))) (ae (cH (ae (tC (.str "unwant")) (ae (af 2) (ae (af 3) az)))) (ae (cH (ae (tC (.str "purse")) (ae (af 2) az))) (ae (cH (ae (tC (.str "pot")) az)) (ae (cH (ae (tC (.str "works")) az)) (ae (cH (ae (tC (.str "spent")) az)) az)))))))) (au 4))
  (bB (aN (cu K) (aN hV (af 4) (cH (ae (cH (ae (tC (.str "given")) az)) az))) (aN oMod (aN (cu K) (af 0) (tC (.int 0))) (tC (.int 13)))))))))
noncomputable def eL(K:PM):TS:=
 (aE (bG (cH (ae (tC (.str "enrol")) (ae (tC (.str "leave")) (ae (tC (.str "give")) (ae (tC (.str "propose")) (ae (tC (.str "withdraw")) (ae (tC (.str "want")) (ae (tC (.str "unwant")) az)))))))) (au 2))
  (aE (bG (aN hV (af 2) (cH (ae (tC (.str "close")) (ae (tC (.str "purse")) (ae (tC (.str "pot")) (ae (tC (.str "given")) (ae (tC (.str "spent")) (ae (tC (.str "works")) az)))))))) (au 2))
  (aE (bG (aN oMod (aN oDiv (af 1) (tC (.int 5))) (gr vq (ae (af 0) az))) (au 3))
  (aE (bG (cH (ae (aN dh (u1 qx (af 0) cy (dA (af 3))) (u1 qx (af 0) (dA (aN gT (af 3) (tC (.int 1)))) cy)) (ae (aN dh (aN dh (u1 qx (af 0) cy (dA (af 3))) (aN uQ (af 0) (af 3))) (u1 qx (af 0) (dA (af 3)) cy)) (ae (aN dh (aN dh (u1 qx (af 0) cy (dA (af 3))) (Ik K "str" Af (aN uQ (af 0) (af 3)))) (u1 qx (af 0) (dA (aN gT (af 3) (tC (.int 1)))) cy)) az)))) (au 4))
  (aE (bG (aN hV (af 4) (cH (ae (aN (cu K) (cH (ae (tC (.str "voters")) (ae (tC (.str "withdrawn")) (ae (tC (.str "help")) (ae (tC (.str "join")) (ae (tC (.str "fund")) (ae (tC (.str "ask")) az))))))) (aN oMod (aN oDiv (af 1) (tC (.int 5))) (tC (.int 6)))) (ae (aN dh (af 0) (aN uQ (tC (.str "\t\n")) (aN oMod (aN oDiv (af 1) (tC (.int 5))) (tC (.int 2))))) az)))) (au 4))
  (aE (bG (aN (cu K) (af 4) (aN oMod (af 1) (tC (.int 5)))) (au 5))
  (aE (cm (bA (aN (Hz K false) (af 5) (af 2))) (bB (tC (.str "rows"))) bS)
  (bB (af 5)))))))))
noncomputable def jf(K:PM):TS:=
 (aE (bG (cH (ae (tC (.str "01")) (ae (tC (.str "00")) (ae (tC (.str "1a")) (ae (tC (.str "-1")) (ae (tC (.str "+1")) (ae (tC (.str "1_0")) (ae (aN dh (tC (.str "1")) (aN L0 (tC (.str "0")) (tC (.int 13)))) (ae (tC (.str "a")) (ae (tC (.str "1.")) (ae (tC (.str "0x1")) (ae (tC (.str "1\t")) (ae (tC (.str "1\n")) (ae (tC (.str "-0")) (ae (tC (.str "O")) (ae (tC (.str "l")) az)))))))))))))))) (au 1))
  (bB (aN (cu K) (af 1) (aN oMod (af 0) (tC (.int 15))))))
noncomputable def mP(K:PM):TS:=
 (aE (bG (aN (cu K) (af 1) (aN oMod (aN (cu K) (af 0) (tC (.int 1))) (gr (gQ K) (ae (af 1) az)))) (au 2))
  (aE (bG (bf (dC K) [] E0 (ae (af 0) (ae (af 1) az))) (au 3))
  (aE (bG (aN oMod (aN (cu K) (af 0) (tC (.int 3))) (tC (.int 9))) (au 4))
  (aE (cm (bA (aN oA (af 4) (tC (.int 0)))) (bB (aN hV (af 3) (cH (ae (aN (cu K) (cH (ae (af 2) (ae (tC (.str "7")) (ae (tC (.str "close")) az)))) (aN oMod (aN (cu K) (af 0) (tC (.int 4))) (tC (.int 3)))) az)))) bS)
  (aE (cm (bA (aN oA (af 4) (tC (.int 1)))) (bB (u1 (qM K) (af 3) cy (dA (aN oMod (aN (cu K) (af 0) (tC (.int 4))) (gr (gQ K) (ae (af 3) az)))))) bS)
  (aE (cm (bA (aN oA (af 4) (tC (.int 2)))) (bB (aN (cu K) (cH (ae (cH (ae (tC (.str "give")) (ae (bf (fz K) [] E0 (ae (aN (cu K) (af 0) (tC (.int 4))) az)) az))) (ae (cH (ae (tC (.str "propose")) (ae (af 2) (ae (bf (fz K) [] E0 (ae (aN (cu K) (af 0) (tC (.int 4))) az)) az)))) az))) (aN oMod (aN (cu K) (af 0) (tC (.int 5))) (tC (.int 2))))) bS)
  (aE (cm (bA (aN oA (af 4) (tC (.int 3)))) (bB (aN hV (cH (ae (bf (eN K) [] E0 (ae (aN (cu K) (af 3) (tC (.int 0))) (ae (aN (cu K) (af 0) (tC (.int 4))) az))) az)) (u1 (qM K) (af 3) (dA (tC (.int 1))) cy))) bS)
  (aE (cm (bA (aN oA (af 4) (tC (.int 4)))) (bB (aN hV (cH (ae (tC (.str "")) az)) (af 3))) bS)
  (aE (cm (bA (aN oA (af 4) (tC (.int 5)))) (bB (aN hV (af 3) (cH (ae (tC (.str "")) az)))) bS)
  (aE (cm (bA (aN oA (af 4) (tC (.int 6)))) (bB (aN hV (cH (ae (aN dh (aN (cu K) (af 3) (tC (.int 0))) (aN uQ (tC (.str "\t\n")) (aN oMod (aN (cu K) (af 0) (tC (.int 4))) (tC (.int 2))))) az)) (u1 (qM K) (af 3) (dA (tC (.int 1))) cy))) bS)
  (aE (cm (bA (aN oA (af 4) (tC (.int 7)))) (bB (aN hV (cH (ae (aN dh (aN uQ (tC (.str "\t\n")) (aN oMod (aN (cu K) (af 0) (tC (.int 4))) (tC (.int 2)))) (aN (cu K) (af 3) (tC (.int 0)))) az)) (u1 (qM K) (af 3) (dA (tC (.int 1))) cy))) bS)
  (bB (aN hV (aN hV (u1 (qM K) (af 3) cy (dA (tC (.int 1)))) (cH (ae (tC (.str "")) az))) (u1 (qM K) (af 3) (dA (tC (.int 1))) cy))))))))))))))
noncomputable def Es(K:PM):TS:=
 (aE (bG (bf (jo K) [] E0 (ae (af 0) (ae (tC (.int 0)) az))) (au 1))
  (aE (bG (bf (jo K) [] E0 (ae (af 0) (ae (tC (.int 1)) az))) (au 2))
  (aE (bG (bf (eE K) [] E0 (ae (af 2) (ae (tC (.int 15)) az))) (au 3))
  (aE (bG (yP (ao K "Desk") (d8 K) [] E0 az) (au 4))
  (aE (bG (yP (ao K "Desk") (d8 K) [] E0 az) (au 5))
  (aE (bG (aN hV (bf (fA K) [] E0 (ae (af 3) (ae (af 2) az))) (aN Ia (cH (ae (tC (.str "close")) az)) (aN oMod (af 1) (tC (.int 2))))) (au 6))
  (aE (pK (dm K (af 6)) (au 7) (cm (bA (aN (vk K true) (bf (cP K) [] E0 (ae (af 4) (ae (af 7) az))) (bf (cP K) [] E0 (ae (af 5) (ae (af 7) az))))) (bB (tC (.bl false))) bS))
  (aE (bG (aN hV (bO [none,some 2] (nG (ae (tC (.int 8)) az)) (au 0) dv (bf (dF K) [] E0 (ae (af 1) (ae (af 0) az)))) (bO [none,some 2] (nG (ae (tC (.int 8)) az)) (au 0) dv (bf (dF K) [] E0 (ae (aN oDiv (af 1) (tC (.int 3))) (ae (af 0) az))))) (au 8))
  (aE (bG (aN hV (af 8) (cH (ae (aN dh (aN (cu K) (af 8) (tC (.int 0))) (tC (.str "aaaaaaaa"))) (ae (Ik K "str" Af (aN (cu K) (af 8) (tC (.int 1)))) (ae (aN dh (aN (cu K) (af 8) (tC (.int 2))) (tC (.str "\n"))) az))))) (au 8))
  (aE (pK (dm K (u1 (qM K) (af 0) (dA (tC (.int 2))) (dA (tC (.int 62))))) (au 9) (aE (bG (bf (eE K) [] E0 (ae (af 9) (ae (tC (.int 12)) az))) (au 10))
  (aE (cm (bA (aN (vk K true) (bf (cP K) [] E0 (ae (af 4) (ae (Dl K "str" (rJoin K) (tC (.str " ")) (ae (bf (mq K) [] E0 (ae (u1 (qM K) (af 10) cy (dA (tC (.int 6)))) (ae (af 8) az))) az)) az))) (aN hV (cH (ae (tC (.bl true)) (ae (tC (.bl false)) (ae (tC (.bl true)) az)))) (aN Ia (cH (ae (tC (.bl false)) az)) (tC (.int 6)))))) (bB (tC (.bl false))) bS)
  (aE (bG (Dl K "str" (rJoin K) (tC (.str " ")) (ae (bf (dC K) [] E0 (ae (u1 (qM K) (af 10) (dA (tC (.int 6))) cy) (ae (af 8) az))) az)) (au 11))
  (cm (HH (bA (aN oA (aN oMod (aN (cu K) (af 10) (tC (.int 11))) (tC (.int 3))) (tC (.int 0)))) (HH (bA (aN LL (af 11) (tC (.str "close")))) (bA (aN (vk K true) (bf (cP K) [] E0 (ae (af 4) (ae (af 11) az))) (bf (cP K) [] E0 (ae (af 5) (ae (af 11) az))))))) (bB (tC (.bl false))) bS)))))
  (aE (bG (bO [none,some 2] (Fl (ae (tC (.int 8)) (ae (tC (.int 26)) az))) (au 0) dv (bf (dF K) [] E0 (ae (af 1) (ae (af 0) az)))) (au 12))
  (aE (bG (aN (cu K) (bO [none,some 8] (dm K (af 12)) (au 0) (bA (aN (Hz K true) (af 0) (af 1))) (af 0)) (tC (.int 0))) (au 13))
  (aE (cm (bA (aN (vk K true) (bf (cP K) [] E0 (ae (af 4) (ae (aN dh (tC (.str "purse ")) (af 13)) az))) (aN hV (cH (ae (tC (.bl false)) (ae (tC (.bl true)) (ae (tC (.bl true)) az)))) (aN Ia (cH (ae (tC (.bl false)) az)) (tC (.int 6)))))) (bB (tC (.bl false))) bS)
  (bB (aN (vk K false) (bf (hJ K) [] E0 (ae (af 4) (ae (af 8) az))) (bf (hJ K) [] E0 (ae (af 5) (ae (af 8) az))))))))))))))))))
section
variable {K:PM}
theorem CM:∀vs H Q E,jo K vs H Q E->mx K {nx:=fun _ H'=>Q .non H',rt:=Q} (start ["script","k","cell"] vs) H:=by
 rintro vs H Q E ⟨_,a,ns,k,rfl,hS,q⟩
 unfold mx
 walk_at "q"
 walk_at "z"
 rename_i p H1 f1 s1 h1
 obtain⟨ms,e,_,_⟩:=Bv ns (some (k:Int)) (some ((k:Int)+1))
 rw[e]at h1
 refine sy (dE (K:=K) (xs:=ms.map V.int) 2) (fun i σ H'=>av H1 H'/\∃v,σ=[some (.ref a),some (.int k),v]) ⟨av.refl _,_,rfl⟩ (fun i σ H' h=>h.1.seq (aY.of h1)) ?_ ?_
 ·rintro i σ Ha Hb hi ⟨sa,v,rfl⟩ sb
  rw[P7]at hi
  have et:(ms.map V.int).getD i .non=.int (ms.getD i 0):=by simp[Qm,hi]
  rw[et]
  show bB _ _ _ _
  walk_at "z"
  exact q _ Hb ((s1.trans sa).trans sb)
 ·rintro σ Ha ⟨sa,v,rfl⟩
  walk_at "z"
  exact q 0 Ha (s1.trans sa)
theorem xJ:∀vs H Q E,eE K vs H Q E->jG K {nx:=fun _ H'=>Q .non H',rt:=Q} (start ["cell","many","spins","k","turn"] vs) H:=by
 rintro vs H Q E ⟨_,c,m,rfl,hm,q⟩
 unfold jG
 walk_at "q"
 walk_at "z"
 rename_i l H1 f1 s1 h1
 walk_at "q"
 walk_at "z"
 have en:((m:Int)).toNat=m:=by omega
 rw[en]
 refine j2 (lo:=0) (n:=m) (fun i σ H'=>av H H'/\∃(v3 v4:Option V),H' l=some (.lst ((dX c i).map V.int))/\σ=[some (.int c),some (.int m),some (.ref l),v3,v4]) ⟨s1,_,_,h1,rfl⟩ ?_ ?_
 ·rintro i σ H2 hi ⟨s2,v3,v4,h2,rfl⟩
  have fit:((dX c i).map V.int).length<PZ:=by rw[P7,oa];exact QE (show i<1000 by omega) bo
  show aE _ _ _ _ _
  walk_at "q"
  walk_at "z"
  have t0:0<=c%900900929+2503*(0+(i:Int))+77:=by omega
  have t1:c%900900929+2503*(0+(i:Int))+77<=1000000000:=by omega
  have et:c%900900929+2503*(0+(i:Int))+77=c%900900929+2503*(i:Int)+77:=by omega
  have e:(c%900900929+2503*(0+(i:Int))+77)*(c%900900929+2503*(0+(i:Int))+77)*(c%900900929+2503*(0+(i:Int))+77+31*(0+(i:Int)))/13%700700003=eP c i:=by
   unfold eP
   rw[et,show(0+(i:Int))=(i:Int) by omega]
  generalize c%900900929+2503*(0+(i:Int))+77=t at *
  walk_at "z"
  exists NY h2
  walk_at "z"
  refine gk h2 fit ?_
  rw[e]
  refine⟨s2.upd f1,_,_,?_,rfl⟩
  rw[ax]
  unfold dX
  rw[S9]
  simp
 ·rintro σ Ha ⟨sa,v3,v4,h2,rfl⟩
  walk_at "z"
  exact q l Ha f1 sa h2
theorem rM(C:gY K):∀vs H Q E,fG K vs H Q E->fh K {nx:=fun _ H'=>Q .non H',rt:=Q} (start ["self"] vs) H:=by
 rintro vs H Q E ⟨_,c,dx,rfl,hc,q⟩
 unfold fh
 walk_at "q"
 walk_at "z"
 refine JW fun d1 H1 f1 s1 h1=>?_
 walk_at "z"
 have l0:([]:List (PH×V)).length<=0:=Qe _
 have l1:(b9 "purses" (.ref d1) []).length<=1:=j9 _ _ _
 refine lP (s1 _ _ hc) C.aJ C.aS (by decide) ?_
 have n1:d1≠c:=(fS hc f1).symm
 have b1:b7 [c] H1 (upd H1 c (.ins (ao K "Chest") dx (b9 "purses" (.ref d1) []))):=b7.upd (s1 _ _ hc) (by intro xs z;cases z) (by simp)
 walk_at "q"
 walk_at "z"
 refine JW fun d2 H2 f2 s2 h2=>?_
 walk_at "z"
 have l2:(b9 "costs" (.ref d2) (b9 "purses" (.ref d1) [])).length<=2:=P6 (j9 _ _ _) (by omega)
 refine lP (s2 _ _ ax) C.aJ C.bJ (by omega) ?_
 have n2:d2≠c:=(fS ax f2).symm
 have n12:d1≠d2:=fS (b1.1 d1 _ (by simpa using n1) h1) f2
 have b2:b7 [c] H2 (upd H2 c (.ins (ao K "Chest") dx (b9 "costs" (.ref d2) (b9 "purses" (.ref d1) [])))):=b7.upd (s2 _ _ ax) (by intro xs z;cases z) (by simp)
 walk_at "q"
 walk_at "z"
 rename_i w H3 f3 s3 h3
 have l3:(b9 "wishes" (.ref w) (b9 "costs" (.ref d2) (b9 "purses" (.ref d1) []))).length<=3:=P6 (j9 _ _ _) (by omega)
 refine lP (s3 _ _ ax) C.aJ C.bQ (by omega) ?_
 have n3:w≠c:=(fS ax f3).symm
 have b3:b7 [c] H3 (upd H3 c (.ins (ao K "Chest") dx (b9 "wishes" (.ref w) (b9 "costs" (.ref d2) (b9 "purses" (.ref d1) []))))):=b7.upd (s3 _ _ ax) (by intro xs z;cases z) (by simp)
 walk_at "q"
 walk_at "z"
 have l4:(b9 "unshared" (.int 0) (b9 "wishes" (.ref w) (b9 "costs" (.ref d2) (b9 "purses" (.ref d1) [])))).length<=4:=P6 (j9 _ _ _) (by omega)
 refine lP ax C.aJ C.cB (by omega) ?_
 walk_at "q"
 walk_at "z"
 have l5:(b9 "gifts" (.int 0) (b9 "unshared" (.int 0) (b9 "wishes" (.ref w) (b9 "costs" (.ref d2) (b9 "purses" (.ref d1) []))))).length<=5:=P6 (j9 _ _ _) (by omega)
 refine lP ax C.aJ C.jJ (by omega) ?_
 walk_at "z"
 refine lP ax C.aJ C.jb (by omega) ?_
 rw[Ky]
 have hI:∀(G:Hp)(o:List (PH×V))(fs:List (PH×V)),G c=some (.ins (ao K "Chest") dx o)->b7 [c] G (upd G c (.ins (ao K "Chest") dx fs)):=fun G o fs h=>b7.upd h (by intro xs z;cases z) (by simp)
 have key:∀Hf:Hp,b7 [c] H3 Hf->Hf c=some (.ins (ao K "Chest") dx (gN d1 d2 w 0 0 0))->Q .non Hf:=fun Hf b4 hf=>by
  have b5:=(b2.trans (b7.of s3)).trans b4
  have b6:=(b1.trans (b7.of s2)).trans b5
  refine q _ [c,d1,d2,w] ⟨dx,d1,d2,w,[],⟨hf,b6.1 d1 _ (by simpa using n1) h1,b5.1 d2 _ (by simpa using n2) h2,b4.1 w _ (by simpa using n3) h3,.nil,n12,Up,Up⟩,rfl⟩ ((b7.of s1).trans b6) ?_
  intro a ha
  have g2:H1 d2=none:=b1.2.2 _ f2
  have g3:H1 w=none:=((b1.trans (b7.of s2)).trans b2).2.2 _ f3
  simp only[Qa,Rf,or_false]at ha
  rcases ha with rfl|rfl|rfl|rfl
  ·exact .inl (by simp)
  ·exact .inr f1
  ·exact .inr (s1.free g2)
  ·exact .inr (s1.free g3)
 refine key _ ?_ ax
 exact((b3.trans (hI _ _ _ ax)).trans (hI _ _ _ ax)).trans (hI _ _ _ ax)
theorem sE(C:gY K):∀vs H Q E,d8 K vs H Q E->gm K {nx:=fun _ H'=>Q .non H',rt:=Q} (start ["self"] vs) H:=by
 rintro vs H Q E ⟨_,d,dx,rfl,hd,q⟩
 unfold gm
 walk_at "z"
 refine EG fun c cx f0 g0 n0=>?_
 refine⟨rfl,c,cx,rfl,ax,fun H1 fp x1 b1 w1=>⟨rfl,?_⟩⟩
 obtain⟨s1,e1⟩:=made f0 g0 b1 w1
 walk_at "z"
 refine lP (s1 _ _ hd) C.Ab C.hG (by decide) ?_
 have b2:b7 [d] H1 (upd H1 d (.ins (ao K "Desk") dx (b9 "chest" (.ref c) []))):=b7.upd (s1 _ _ hd) (by intro xs z;cases z) (by simp)
 have dn:d∉fp:=fun m=>by rw[e1 d m]at hd;cases hd
 refine q _ (d::fp) ⟨dx,c,fp,ax,x1.but b2 (fun y hy m=>dn (by rw[<-QR.mp m];exact hy)),dn,rfl⟩ ((b7.of s1).trans b2) ?_
 intro y hy
 rcases Qa.mp hy with rfl|hy
 ·exact .inl (by simp)
 ·exact .inr (e1 y hy)
theorem join_ones:∀(cs:List Nat),(QO ("":PH) (cs.map fun c=>⟨#[c]⟩)).cps.toList=cs:=by
 rw[zV]
 intro cs
 induction cs with
 |nil=>rfl
 |cons a r ih=>
  cases r with
  |nil=>rfl
  |cons b t=>
   show(((⟨#[a]⟩:PH)++(⟨#[]⟩:PH)++QO ⟨#[]⟩ ((b::t).map fun c=>(⟨#[c]⟩:PH))).cps).toList=_
   rw[Ue,Ue,WY,WY,ih]
   simp
theorem Bp:∀vs H Q E,dF K vs H Q E->kn K {nx:=fun _ H'=>Q .non H',rt:=Q} (start ["cell","k","letters","xs","word","at"] vs) H:=by
 rintro vs H Q E ⟨_,c,k,rfl,hk,q⟩
 have hL:("abcdefghijklmnopqrstuvwxyz":PH).length=26:=by decide +kernel
 have hla:=Nj
 unfold kn
 walk_at "q"
 walk_at "z"
 generalize ("abcdefghijklmnopqrstuvwxyz":PH)=letters at *
 have hix:∀(x:Int)(H':Hp)(Q':VK),Q' (.str ⟨#[md x]⟩) H'->uQ (.str letters) (.int (x%26)) H' Q':=fun x H' Q' z=>⟨letters,_,md x,rfl,rfl,by rw[size_eq];omega,hla x,z⟩
 walk_at "q"
 walk_at "z"
 refine⟨rfl,c,9,rfl,by decide,fun l H1 f1 s1 h1=>?_⟩
 have q1:aY K H1 l ((dX c 9).map V.int):=aY.of h1
 walk_at "z"
 walk_at "q"
 walk_at "z"
 rename_i p2 H2 f2 s2 h2
 have e2:iw ((dX c 9).map V.int) none (some 7)=((P4 7).map (eP c)).map V.int:=by
  have:iw ((dX c 9).map V.int) none (some ((7:Nat):Int))=((dX c 9).take 7).map V.int:=C4 _ _
  refine Uk this ?_
  congr 1
 rw[e2]at h2
 have q2:aY K H2 p2 (((P4 7).map (eP c)).map V.int):=aY.of h2
 refine bD (dE (K:=K) (xs:=((P4 7).map (eP c)).map V.int) 0) (fun j=>[some ((((P4 7).map (eP c)).map V.int).getD j .non),some (.str letters)]) (by rintro j σ' (rfl|⟨k,rfl⟩)<;>rfl) (fun H' s=>s.seq q2) (by exact P6 (show 7<=1000 by decide) bo) (fun j=>.str ⟨#[md (eP c j)]⟩) ?_ ?_
 ·intro j hj H' F s kk
  have hj:j<7:=by simpa using hj
  have et:(((P4 7).map (eP c)).map V.int).getD j .non=.int (eP c j):=by simp[Qm,hj]
  rw[et]
  walk_at "z"
  exact hix _ _ _ (kk H' (av.refl _))
 intro l3 H3 f3 s3 h3
 have e3:(P4 (((P4 7).map (eP c)).map V.int).length).map (fun j=>V.str ⟨#[md (eP c j)]⟩)=((wl c).map fun c=>(⟨#[c]⟩:PH)).map V.str:=by
  rw[P7,P7,SQ]
  unfold wl
  rw[Qn,Qn]
  rfl
 rw[e3]at h3
 have s23:=s2.trans s3
 have q3:aY K H3 l ((dX c 9).map V.int):=s23.seq q1
 walk_at "z"
 have hone:∀x∈(wl c).map fun c=>(⟨#[c]⟩:PH),x.length<=1:=fun x hx=>by
  obtain⟨j,_,rfl⟩:=P9.mp hx
  exact Qe 1
 have hz:("":PH).length=0:=by decide +kernel
 refine pA 1 (aY.of h3) hone (by rw[P7,kP,hz];decide) ?_
 have hw:=join_ones (wl c)
 have hwl:=aP (QO ("":PH) ((wl c).map fun c=>(⟨#[c]⟩:PH)))
 rw[hw,kP]at hwl
 generalize QO ("":PH) ((wl c).map fun c=>(⟨#[c]⟩:PH))=word at *
 have g7:xU ((dX c 9).map V.int) 7=some (.int (eP c 7)):=bM (j:=7) (vo (by decide))
 have g8:xU ((dX c 9).map V.int) 8=some (.int (eP c 8)):=bM (j:=8) (vo (by decide))
 have s03:=s1.trans s23
 have fin:∀z:PH,z.cps.toList=jY c k->Q (.str z) H3:=fun z hz=>by
  have:z=aQ c k:=iM.mpr (by rw[hz,ir])
  rw[this]
  exact q H3 s03
 have hk8:(k:Int)%8=((k%8:Nat):Int):=by omega
 have hd8:(k:Int)/8=((k/8:Nat):Int):=by omega
 walk_at "z"
 walk_at "q"
 walk_at "z"
 refine cz q3 g8 ?_
 walk_at "z"
 refine dJ (fun h0=>?_) (fun h0=>?_)
 ·walk_at "z"
  refine cz q3 g7 ?_
  walk_at "z"
  refine hix _ _ _ ?_
  walk_at "z"
  rw[hk8,hd8]
  have hs:=qy (z:=word) (b:=k%8) (by omega)
  have hsl:=aP (QJ word none (some ((k%8:Nat):Int)))
  rw[hs,QY,hw,kP]at hsl
  refine i9 (by rw[Bk];omega) ?_
  refine fin _ ?_
  rw[cV,hs,hw]
  unfold jY
  rw[if_pos h0]
  rfl
 walk_at "z"
 walk_at "q"
 walk_at "z"
 refine cz q3 g8 ?_
 walk_at "z"
 refine dJ (fun h1'=>?_) (fun h1'=>?_)
 ·walk_at "z"
  refine cz q3 g7 ?_
  walk_at "z"
  refine hix _ _ _ ?_
  have e7:(7:Int)-(k:Int)%8=((7-k%8:Nat):Int):=by omega
  rw[e7,hd8]
  have hs:=ku (z:=word) (a:=7-k%8) (by omega)
  have hsl:=aP (QJ word (some ((7-k%8:Nat):Int)) none)
  rw[hs,Rq,hw,kP]at hsl
  refine i9 (by rw[Bk];omega) ?_
  refine fin _ ?_
  rw[cV,hs,hw]
  unfold jY
  rw[if_neg h0,if_pos h1']
 walk_at "z"
 walk_at "q"
 walk_at "z"
 refine cz q3 g8 ?_
 walk_at "z"
 obtain⟨n,hn,hn8⟩:∃n:Nat,eP c 8/4%8=(n:Int)/\n<8:=⟨(eP c 8/4%8).toNat,by omega,by omega⟩
 have e3:L7 c=(wl c).take n:=by unfold L7;rw[hn];rfl
 rw[hn]
 have hs:=qy (z:=word) (b:=n) (by omega)
 have hsl:=aP (QJ word none (some (n:Int)))
 rw[hs,hw,<-e3]at hsl
 rw[hw,<-e3]at hs
 generalize QJ word none (some (n:Int))=w3 at *
 have h3l:=FF c
 walk_at "q"
 walk_at "z"
 refine cz q3 g8 ?_
 walk_at "z"
 have hat:eP c 8/32%((w3.length:Int)+1)=(Kh c:Int):=by
  unfold Kh
  rw[hsl]
  have:=Su (eP c 8/32) (show((w3.length:Int)+1)≠0 by omega)
  omega
 have hat2:Kh c<=w3.length:=by
  have:=Tf (eP c 8/32) (show 0<(w3.length:Int)+1 by omega)
  omega
 rw[hat]
 walk_at "z"
 refine cz q3 g7 ?_
 walk_at "z"
 refine hix _ _ _ ?_
 have ha:=qy (z:=w3) (b:=Kh c) hat2
 have hb:=ku (z:=w3) (a:=Kh c) hat2
 have hal:=aP (QJ w3 none (some (Kh c:Int)))
 have hbl:=aP (QJ w3 (some (Kh c:Int)) none)
 rw[ha,QY,hs]at hal
 rw[hb,Rq,hs]at hbl
 refine i9 (by rw[Bk];omega) ?_
 have hcl:=aP (QJ w3 none (some (Kh c:Int))++⟨#[md (eP c 7+(k:Int))]⟩)
 rw[cV,QU,ha,hs,QY]at hcl
 have h1l:(⟨#[md (eP c 7+(k:Int))]⟩:PH).cps.toList=[md (eP c 7+(k:Int))]:=rfl
 rw[h1l]at hcl
 simp only[R9]at hcl
 walk_at "z"
 refine fin _ ?_
 rw[cV,cV,ha,hb,hs,h1l]
 unfold jY
 rw[if_neg h0,if_neg h1']
 simp
theorem Jb{c:Int}{n j:Nat}(h:j<n):(((P4 n).map (aQ c)).map V.str)[j]?=some (.str (aQ c j)):=by simp[h]
theorem qP:∀vs H Q E,fA K vs H Q E->fE K {nx:=fun _ H'=>Q .non H',rt:=Q} (start ["xs","cell","people","plans","rows","k","j"] vs) H:=by
 rintro vs H Q E ⟨_,a,c,xs,rfl,qa,hx,q⟩
 unfold fE
 obtain⟨x0,e0⟩:=nO (xs:=xs) (k:=0) (by omega)
 obtain⟨x1,e1⟩:=nO (xs:=xs) (k:=1) (by omega)
 obtain⟨x2,e2⟩:=nO (xs:=xs) (k:=2) (by omega)
 have hsz:=size_eq
 obtain⟨n1,en1,h1n⟩:∃n1:Nat,(1+x0%6).toNat=n1/\n1<=6:=⟨_,rfl,by omega⟩
 obtain⟨n2,en2,h2n⟩:∃n2:Nat,(1+x1%6).toNat=n2/\n2<=6:=⟨_,rfl,by omega⟩
 have nl:∀(c:Int)(k:Nat),(aQ c k).length<=8:=fun c k=>(fI (da c k)).2
 walk_at "q"
 walk_at "z"
 refine cz qa e0 ?_
 walk_at "z"
 rw[en1]
 refine bD (j3 (lo:=0) (n:=n1) 0) (fun j=>[some (.int (0+(j:Int))),some (.int c)]) (by rintro j σ' (rfl|⟨k,rfl⟩)<;>rfl) (fun _ _=>trivial) (P6 (show n1<=1000 by omega) bo) (fun j=>.str (aQ c j)) ?_ ?_
 ·intro j hj H' G s' kk
  walk_at "z"
  refine⟨rfl,c,j,by rw[show(0+(j:Int))=(j:Int) by omega],by omega,fun H'' s''=>kk H'' s''⟩
 intro l1 H1 f1 s1 h1
 rw[show(P4 n1).map (fun j=>V.str (aQ c j))=((P4 n1).map (aQ c)).map V.str by rw[Qn];rfl]at h1
 walk_at "z"
 walk_at "q"
 walk_at "z"
 refine cz (s1.seq qa) e1 ?_
 walk_at "z"
 rw[en2]
 refine bD (j3 (lo:=0) (n:=n2) 0) (fun j=>[some (.int (0+(j:Int))),some (.int c)]) (by rintro j σ' (rfl|⟨k,rfl⟩)<;>rfl) (fun _ _=>trivial) (P6 (show n2<=1000 by omega) bo) (fun j=>.str (aQ (c/3) j)) ?_ ?_
 ·intro j hj H' G s' kk
  walk_at "z"
  refine⟨rfl,c/3,j,by rw[show(0+(j:Int))=(j:Int) by omega],by omega,fun H'' s''=>kk H'' s''⟩
 intro l2 H2 f2 s2 h2
 rw[show(P4 n2).map (fun j=>V.str (aQ (c/3) j))=((P4 n2).map (aQ (c/3))).map V.str by rw[Qn];rfl]at h2
 have q1:aY K H2 l1 (((P4 n1).map (aQ c)).map V.str):=aY.of (s2 _ _ h1)
 have hl1:(((P4 n1).map (aQ c)).map V.str).length=n1:=by simp
 have hl2:(((P4 n2).map (aQ (c/3))).map V.str).length=n2:=by simp
 have L1:("enrol ":PH).length=6/\("give ":PH).length=5/\("propose ":PH).length=8/\("want ":PH).length=5:=by decide +kernel
 have lsp:=dU.2.2.1
 walk_at "z"
 walk_at "q"
 walk_at "z"
 refine bD (dE (K:=K) (xs:=((P4 n1).map (aQ c)).map V.str) 0) (fun j=>[some ((((P4 n1).map (aQ c)).map V.str).getD j .non)]) (by rintro j σ' (rfl|⟨k,rfl⟩)<;>rfl) (fun H' s=>s.seq q1) (by rw[hl1];exact P6 (show n1<=1000 by omega) bo) (fun j=>.str (("enrol ":PH)++aQ c j)) ?_ ?_
 ·intro j hj H' F s kk
  rw[hl1]at hj
  have et:(((P4 n1).map (aQ c)).map V.str).getD j .non=.str (aQ c j):=by simp[Qm,hj]
  have:=nl c j
  rw[et]
  walk_at "z"
  exact kk H' (av.refl _)
 intro l3 H3 f3 s3 h3
 rw[hl1,show(P4 n1).map (fun j=>V.str (("enrol ":PH)++aQ c j))=((P4 n1).map fun j=>("enrol ":PH)++aQ c j).map V.str by rw[Qn];rfl]at h3
 walk_at "z"
 refine cz ((s1.trans (s2.trans s3)).seq qa) e2 ?_
 walk_at "z"
 refine OH (by omega) (by omega) ?_
 have lg:(iT (x2%500)).length<=3:=AF (by omega) (by decide) (by omega)
 walk_at "z"
 rename_i l4 H4 f4 s4 h4
 refine cZ (s4 _ _ h3) h4 (by rw[P7,P7,SQ,size_eq];simp;omega) fun l5 H5 f5 s5 h5=>?_
 have s25:=s3.trans (s4.trans s5)
 have q2:aY K H5 l2 (((P4 n2).map (aQ (c/3))).map V.str):=aY.of (s25 _ _ h2)
 have s05:=s1.trans (s2.trans s25)
 have qa5:=s05.seq qa
 walk_at "z"
 walk_at "q"
 walk_at "z"
 rw[hl2]
 refine bD (j3 (lo:=0) (n:=n2) 0) (fun j=>[some (.int (0+(j:Int))),some (.ref l2),some (.ref a)]) (by rintro j σ' (rfl|⟨k,rfl⟩)<;>rfl) (fun _ _=>trivial) (P6 (show n2<=1000 by omega) bo) (fun j=>.str (("propose ":PH)++aQ (c/3) j++" "++iT (1+xs.getD (3+j) 0%90))) ?_ ?_
 ·intro j hj H' G s' kk
  have ej:(0+(j:Int))=(j:Int):=by omega
  rw[ej]
  walk_at "z"
  refine cz (s'.seq q2) (bM (Jb hj)) ?_
  have:=nl (c/3) j
  walk_at "z"
  refine i9 (by rw[Qv];omega) ?_
  walk_at "z"
  have ex:xU (xs.map V.int) (3+(j:Int))=some (.int (xs.getD (3+j) 0)):=by
   have:=bM (xs:=xs.map V.int) (j:=3+j) (v:=.int (xs.getD (3+j) 0)) (by simp[Qm,show 3+j<xs.length by omega])
   rwa [show((3+j:Nat):Int)=3+(j:Int) by omega]at this
  refine cz (s'.seq qa5) ex ?_
  walk_at "z"
  refine OH (by omega) (by omega) ?_
  have lg:(iT (1+xs.getD (3+j) 0%90)).length<=2:=AF (by omega) (by decide) (by omega)
  refine i9 (by rw[Qv,Qv];omega) ?_
  exact kk H' (av.refl _)
 intro l6 H6 f6 s6 h6
 rw[show(P4 n2).map (fun j=>V.str (("propose ":PH)++aQ (c/3) j++" "++iT (1+xs.getD (3+j) 0%90)))=((P4 n2).map fun j=>("propose ":PH)++aQ (c/3) j++" "++iT (1+xs.getD (3+j) 0%90)).map V.str by rw[Qn];rfl]at h6
 have h5:H5 l5=some (.lst ((((P4 n1).map fun j=>("enrol ":PH)++aQ c j)++[("give ":PH)++iT (x2%500)]).map V.str)):=by rw[h5];simp
 have ok:∀r∈(((P4 n1).map fun j=>("enrol ":PH)++aQ c j)++[("give ":PH)++iT (x2%500)])++((P4 n2).map fun j=>("propose ":PH)++aQ (c/3) j++" "++iT (1+xs.getD (3+j) 0%90)),iF ((P4 6).map (aQ c)) r:=fun r hr=>by
  obtain⟨wE,wG,wP,wW,_⟩:=kb
  rcases QC.mp hr with hr|hr
  ·rcases QC.mp hr with hr|hr
   ·obtain⟨j,hj,rfl⟩:=P9.mp hr
    exact FY (tZ (da c j)) (P9.mpr ⟨j,Q6.mpr (by have:=Q6.mp hj;omega),rfl⟩)
   ·rw[QR.mp hr]
    exact Lx (by decide +kernel) wG (Jz (k:=3) (by omega) (by decide) (by omega) (by decide)) (by decide +kernel)
  ·obtain⟨j,hj,rfl⟩:=P9.mp hr
   exact zI (by decide +kernel) wP (tZ (da _ j)) (Jz (k:=2) (by omega) (by decide) (by omega) (by decide))
 have lr:(((P4 n1).map fun j=>("enrol ":PH)++aQ c j)++[("give ":PH)++iT (x2%500)]).length<=7:=by simp;omega
 have lr2:((P4 n2).map fun j=>("propose ":PH)++aQ (c/3) j++" "++iT (1+xs.getD (3+j) 0%90)).length<=6:=by simp;omega
 generalize (((P4 n1).map fun j=>("enrol ":PH)++aQ c j)++[("give ":PH)++iT (x2%500)])=R1 at *
 generalize ((P4 n2).map fun j=>("propose ":PH)++aQ (c/3) j++" "++iT (1+xs.getD (3+j) 0%90))=R2 at *
 refine cZ (s6 _ _ h5) h6 (by rw[P7,P7,size_eq];omega) fun l7 H7 f7 s7 h7=>?_
 rw[<-Rk]at h7
 have f07:H l7=none:=s05.free (s6.free f7)
 have s07:=s05.trans (s6.trans s7)
 have g1:H7 l1=some (.lst (((P4 n1).map (aQ c)).map V.str)):=(s2.trans (s25.trans (s6.trans s7))) _ _ h1
 have g2:H7 l2=some (.lst (((P4 n2).map (aQ (c/3))).map V.str)):=(s25.trans (s6.trans s7)) _ _ h2
 have n71:l1≠l7:=fun e=>by rw[<-e]at f7;rw[(s2.trans (s25.trans s6)) _ _ h1]at f7;cases f7
 have n72:l2≠l7:=fun e=>by rw[<-e]at f7;rw[(s25.trans s6) _ _ h2]at f7;cases f7
 walk_at "z"
 walk_at "q"
 walk_at "z"
 rw[hl1]
 let I:Nat->Nat->List (Option V)->Hp->Prop:=fun i m σ H'=>av H H'/\H' l1=some (.lst (((P4 n1).map (aQ c)).map V.str))/\H' l2=some (.lst (((P4 n2).map (aQ (c/3))).map V.str))/\∃(rows:List PH)(v6:Option V),H' l7=some (.lst (rows.map V.str))/\rows.length<=13+6*i+m/\(∀r∈rows,iF ((P4 6).map (aQ c)) r)/\∃v5,σ=[some (.ref a),some (.int c),some (.ref l1),some (.ref l2),some (.ref l7),v5,v6]
 refine j2 (lo:=0) (n:=n1) (fun i σ H'=>I i 0 σ H') ⟨s07,g1,g2,R1++R2,_,h7,by rw[QU];omega,ok,_,rfl⟩ ?_ ?_
 ·rintro i σ Ha hi ⟨sa,k1,k2,rows,v6,hr,hrl,hok,v5,rfl⟩
  have ei:(0+(i:Int))=(i:Int):=by omega
  rw[ei]
  have Q2:aY K Ha l2 (((P4 n2).map (aQ (c/3))).map V.str):=aY.of k2
  show pK _ _ _ _ _ _
  walk_at "z"
  rw[hl2]
  refine j2 (lo:=0) (n:=n2) (fun j σ H'=>av H H'/\H' l1=some (.lst (((P4 n1).map (aQ c)).map V.str))/\H' l2=some (.lst (((P4 n2).map (aQ (c/3))).map V.str))/\∃(rows:List PH)(v6:Option V),H' l7=some (.lst (rows.map V.str))/\rows.length<=13+6*i+j/\(∀r∈rows,iF ((P4 6).map (aQ c)) r)/\σ=[some (.ref a),some (.int c),some (.ref l1),some (.ref l2),some (.ref l7),some (.int i),v6]) ⟨sa,k1,k2,rows,_,hr,hrl,hok,rfl⟩ ?_ ?_
  ·rintro j σ Hb hj ⟨sb,k1,k2,rows,v6,hr,hrl,hok,rfl⟩
   have ej:(0+(j:Int))=(j:Int):=by omega
   rw[ej]
   have qab:=sb.seq qa
   obtain⟨y,ey⟩:∃y:Nat,9+((i:Int)+(j:Int))%6=(y:Int)/\y<15:=⟨(9+((i:Int)+(j:Int))%6).toNat,by omega,by omega⟩
   obtain⟨x,hx9⟩:=nO (xs:=xs) (k:=y) (by omega)
   rw[<-ey.1]at hx9
   show cm _ _ _ _ _ _
   walk_at "z"
   refine cz qab hx9 ?_
   walk_at "z"
   refine dJ (fun _=>?_) fun _=>?_
   ·walk_at "z"
    exists NY hr
    walk_at "z"
    have lc:=nl c i
    have lp:=nl (c/3) j
    refine cz (aY.of k1) (bM (Jb hi)) ?_
    walk_at "z"
    refine i9 (by rw[Qv];omega) ?_
    walk_at "z"
    refine cz (aY.of k2) (bM (Jb hj)) ?_
    refine i9 (by rw[Qv,Qv];omega) ?_
    walk_at "z"
    refine gk hr (by rw[P7];exact QE (show rows.length<1000 by omega) bo) ?_
    refine⟨sb.upd f07,by rw[ak n71];exact k1,by rw[ak n72];exact k2,rows++[("want ":PH)++aQ c i++" "++aQ (c/3) j],_,by rw[ax];simp,by rw[QU,R9];omega,fun r hr=>?_,rfl⟩
    rcases QC.mp hr with hr|hr
    ·exact hok r hr
    ·rw[QR.mp hr]
     exact zI (by decide +kernel) kb.2.2.2.1 (tZ (da _ _)) (tZ (da _ _))
   ·walk_at "z"
    exact⟨sb,k1,k2,rows,_,hr,by omega,hok,rfl⟩
  ·rintro σ Hc ⟨sc,k1,k2,rows,v6,hr,hrl,hok,rfl⟩
   exact⟨sc,k1,k2,rows,_,hr,by omega,hok,_,rfl⟩
 ·rintro σ Hd ⟨sd,k1,k2,rows,v6,hr,hrl,hok,v5,rfl⟩
  walk_at "z"
  exact q l7 rows Hd (by omega) hok f07 sd hr
theorem xK:∀vs H Q E,jT K vs H Q E->jK K E {nx:=fun _ H'=>Q .non H',rt:=Q} (start ["row","words"] vs) H:=by
 rintro vs H Q E ⟨_,z,rfl,ha,hz,qn,qe⟩
 have hsz:=size_eq
 have hsl:=split_len z
 have hrp:=repr_fits ha hz
 unfold jK
 walk_at "q"
 walk_at "z"
 refine⟨z," ",rfl,rfl,by decide +kernel,by omega,by omega,fun l hl=>?_⟩
 have s1:av H (upd H l (.lst ((QK z " ").map V.str))):=av.updN hl
 have h1:upd H l (.lst ((QK z " ").map V.str)) l=some (.lst ((QK z " ").map V.str)):=ax
 walk_at "z"
 walk_at "q"
 walk_at "z"
 exists l,_,rfl,.inl (aY.of h1),rfl,sV _
 rw[if_neg (by decide),Be]
 exists _,rfl
 refine dJ (fun hm=>?_) (fun hm=>?_)
 ·have n1:(Qp++("no row: ":PH)).length=8:=by decide +kernel
  have n2:(Qp++("no row: ":PH)++Uw z).length<=PZ:=by
   rw[Qv]
   omega
  exact⟨_,rfl,by omega,_,rfl,z,rfl,by omega,_,rfl,n2,n2,(by decide:1<=PZ),qe hm _ s1⟩
 ·walk_at "z"
  exact qn hm l hl
theorem qV:∀vs H Q E,ff K vs H Q E->fB K {nx:=fun _ H'=>Q .non H',rt:=Q} (start ["step","number","multiple"] vs) H:=by
 rintro vs H Q E ⟨_,s,n,rfl,hs,hn,q⟩
 unfold fB
 walk_at "w"
 exists fun μ σ H'=>∃m:Nat,σ=[some (.int s),some (.int n),some (.int m)]/\H'=H/\0<m/\s∣m/\m<=R4 s n/\μ=R4 s n-m,⟨_,s,rfl,rfl,hs,Ww s,Wy (YJ hs hn) (WU s n),rfl⟩
 rintro μ σ H' ⟨m,rfl,rfl,h1,h2,h3,rfl⟩
 walk_at "w"
 refine KJ (fun h=>?_) (fun h=>?_)
 ·have hne:m%n≠0:=fun e=>by
   have e':((m:Int)%(n:Int))=0:=by exact_mod_cast e
   rw[e']at h
   simp at h
  have hst:=JT hs hn h2 h3 hne
  exists fun σ' H''=>∃m':Nat,σ'=[some (.int s),some (.int n),some (.int m')]/\H''=H'/\m'=m+s,?_
  ·rintro σ' H'' ⟨m',rfl,rfl,rfl⟩
   exact⟨_,(by omega),m+s,rfl,rfl,(by omega),Nat.dvd_add h2 (Ww s),hst,rfl⟩
  ·walk_at "w"
   exact⟨m+s,rfl,rfl,rfl⟩
 ·have h0:m%n=0:=by
   rcases Wr (m%n)with z|z
   ·exact z
   ·exfalso
    apply h
    have:¬((m:Int)%(n:Int))=0:=by
     intro e
     have e':m%n=0:=by exact_mod_cast e
     omega
    simp[this]
  walk_at "w"
  rw[Kk h1 h2 h3 h0]
  exact q
theorem BB:∀vs H Q E,nL K vs H Q E->nJ K {nx:=fun _ H'=>Q .non H',rt:=Q} (start ["n","least","number"] vs) H:=by
 rintro vs H Q E ⟨_,n,rfl,hn,q⟩
 unfold nJ
 walk_at "w"
 refine j2 (lo:=1) (n:=((n:Int)+1-1).toNat) (fun i σ H'=>H'=H/\∃v,σ=[some (.int n),some (.int (mT i:Nat)),v]) ⟨rfl,none,rfl⟩ ?_ ?_
 ·rintro i σ H' hi ⟨rfl,v,rfl⟩
  show bG _ _ _ _ _
  walk_at "w"
  exists rfl,mT i,i+1,?_,AH i,YA i
  ·have e:(1:Int)+(i:Int)=((i+1:Nat):Int):=by omega
   rw[e]
  ·exact⟨rfl,_,rfl⟩
 ·rintro σ H' ⟨rfl,v,rfl⟩
  walk_at "w"
  have e:((n:Int)+1-1).toNat=n:=by omega
  rw[e]
  exact q
theorem zU(a i:Nat):((a ^ (i+1):Nat):Int)*((a:Nat):Int)=((a ^ (i+1+1):Nat):Int):=by
 rw[VL a (i+1)]
 push_cast
 rfl
theorem AE:∀vs H Q E,gZ K vs H Q E->lz K {nx:=fun _ H'=>Q .non H',rt:=Q} (start ["voters","works","factor","grains","work"] vs) H:=by
 rintro vs H Q E ⟨_,v,w,rfl,h1,h2,h3,q⟩
 have ts:=yR v (by omega)
 unfold lz
 walk_at "w"
 exists rfl,v,rfl,h2
 walk_at "w"
 refine j2 (lo:=0) (n:=((w:Int)).toNat) (fun i σ H'=>H=H'/\∃u,σ=[some (.int v),some (.int w),some (.int (mT v:Nat)),some (.int (mT v ^ (i+1):Nat)),u]) ⟨rfl,none,by rw[Nat.pow_one];rfl⟩ ?_ ?_
 ·rintro i σ H' hi ⟨rfl,u,rfl⟩
  show DJ _ _ _ _ _ _
  walk_at "w"
  rw[zU]
  exact⟨rfl,_,rfl⟩
 ·rintro σ H' ⟨rfl,u,rfl⟩
  walk_at "w"
  exact q
theorem Dw:∀vs H Q E,pW K vs H Q E->pF K {nx:=fun _ H'=>Q .non H',rt:=Q} (start ["steps","voter"] vs) H:=by
 rintro vs H Q E ⟨_,a,sts,i,rfl,hA,hl,hi,q⟩
 obtain⟨ts,bs,B⟩:=hA.b
 have qA:aY K H a (ts.map V.ref):=(B.ys (av.refl _)).1
 unfold pF
 walk_at "z"
 refine bD (jU (ts:=ts) (u:=fun i=>.int ((sts.getD i stN).1:Nat)) (v:=fun i=>.int (sts.getD i stN).2.1) (w:=fun i=>.ref (bs.getD i 0)) 0 1 2) (fun j=>[some (.int ((sts.getD j stN).1:Nat)),some (.int (sts.getD j stN).2.1),some (.ref (bs.getD j 0)),some (.int (i:Int))]) (by rintro j σ' (rfl|⟨k,rfl⟩)<;>rfl) (fun H' s=>B.ys s) (by rw[B.tl];exact P6 (show sts.length<=1000 by omega) bo) (fun j=>.int ((sts.getD j stN).2.2.getD i 0)) ?_ ?_
 ·intro j hj H' G s kk
  rw[B.tl]at hj
  have hp:aY K H' (bs.getD j 0) ((sts.getD j stN).2.2.map V.int):=B.paid s hj
  have hil:=hi (sts.getD j stN) (by simp[Qm,hj])
  walk_at "z"
  refine cz hp (bM (v:=.int ((sts.getD j stN).2.2.getD i 0)) (by generalize (sts.getD j stN).2.2=xs at *;simp[Qm,hil])) ?_
  exact kk H' (av.refl _)
 intro l H1 f1 s1 h1
 have e1:(P4 ts.length).map (fun j=>V.int ((sts.getD j stN).2.2.getD i 0))=(sts.map fun x=>x.2.2.getD i 0).map V.int:=by
  rw[B.tl,bw (fun x:Nat×Int×List Int=>V.int (x.2.2.getD i 0)) stN sts,Qn]
  rfl
 rw[e1]at h1
 walk_at "z"
 exact q H1 s1
theorem Eo:∀vs H Q E,ly K vs H Q E->px K {nx:=fun _ H'=>Q .non H',rt:=Q} (start ["purses","steps"] vs) H:=by
 rintro vs H Q E ⟨_,a,b,ps,sts,rfl,hA,hB,hl,hsl,hsp,q⟩
 have hlp:(ps.map V.int).length=ps.length:=P7 _
 unfold px
 walk_at "z"
 try refine⟨a,rfl,⟨_,hA⟩,?_⟩
 refine bD (qE (xs:=ps.map V.int) 0 1) (fun j=>[some (.int j),some ((ps.map V.int).getD j .non),some (.ref b)]) (by rintro j σ' (rfl|⟨k,rfl⟩)<;>rfl) (fun H' s=>s.seq hA) (by rw[hlp];exact P6 (show _<=1000 by omega) bo) (fun j=>.int (ps.getD j 0-(sts.map fun x=>x.2.2.getD j 0).sum)) ?_ ?_
 ·intro j hj H' G s kk
  rw[hlp]at hj
  have e:(ps.map V.int).getD j .non=.int (ps.getD j 0):=by simp[Qm,hj]
  rw[e]
  walk_at "z"
  refine⟨rfl,b,sts,j,rfl,kK s hB,by omega,fun x hx=>by rw[hsp x hx];exact hj,fun H2 s2=>?_⟩
  walk_at "z"
  exact kk H2 s2
 ·intro l H' f s h
  rw[hlp]at h
  refine q l H' f s ?_
  rw[h]
  unfold bL
  rw[Qn]
  rfl
theorem AM:∀vs H Q E,kU K vs H Q E->kF K {nx:=fun _ H'=>Q .non H',rt:=Q} (start ["costs","wishes","grains"] vs) H:=by
 rintro vs H Q E ⟨_,a,b,cs,rows,rfl,hA,⟨bs,hB,hP⟩,hl,hb,hv1,hv,q⟩
 have hlc:(cs.map V.int).length=cs.length:=P7 _
 have hlb:(bs.map V.ref).length=rows.length:=by rw[P7];exact(Qw hP).symm
 have pi:=pT (v:=rows.length) (w:=cs.length+1) hv (by omega)
 unfold kF
 walk_at "v"
 exists rfl,rows.length,cs.length,by rw[hlc,hlb],hv1,hv,hl
 walk_at "v"
 generalize ((mT rows.length ^ (cs.length+1):Nat):Int)=g at *
 refine bD (dE (xs:=cs.map V.int) 0) (fun j=>[some ((cs.map V.int).getD j .non),some (.int g)]) (by rintro j σ' (rfl|⟨k,rfl⟩)<;>rfl) (fun H' s=>s.seq hA) (by rw[hlc];exact P6 (show cs.length<=1000 by omega) bo) (fun j=>.int (cs.getD j 0*g)) ?_ ?_
 ·intro j hj H' G s k
  rw[hlc]at hj
  have e:(cs.map V.int).getD j .non=.int (cs.getD j 0):=by simp[Qm,hj]
  have hbj:=hb (cs.getD j 0) (by simp[Qm,hj])
  rw[e]
  walk_at "v"
  exact k H' (av.refl _)
 ·intro l H' f s h
  refine q l H' f s ?_
  rw[h,hlc,bw (fun x=>V.int (x*g)) 0 cs,Qn]
  rfl
theorem yv:∀vs H Q E,jI K vs H Q E->jC K {nx:=fun _ H'=>Q .non H',rt:=Q} (start ["amount","shares"] vs) H:=by
 rintro vs H Q E ⟨_,m,p,rfl,h0,h1,q⟩
 unfold jC
 walk_at "w"
 exact q
theorem pairwise_split{ms:List Int}(h:ms.Pairwise (·<=·)){i:Nat}(hi:i<ms.length):(∀y∈ms.take i,y<=ms[i])/\(∀y∈ms.drop (i+1),ms[i]<=y):=by
 have e:ms=ms.take i++ms[i]::ms.drop (i+1):=by
  rw[Xw,Wq]
 have h':=h
 rw[e]at h'
 obtain⟨_,h2,h3⟩:=List.pairwise_append.mp h'
 exact⟨fun y hy=>h3 y hy _ QI,fun y hy=>(List.pairwise_cons.mp h2).1 y hy⟩
theorem A6:∀vs H Q E,lH K vs H Q E->lu K {nx:=fun _ H'=>Q .non H',rt:=Q} (start ["purses","price","missing","payers","purse"] vs) H:=by
 rintro vs H Q E ⟨_,a,ps,price,rfl,hS,hl,hp,hpr,qn,qs⟩
 have hL:(ps.map V.int).length=ps.length:=P7 _
 unfold lu
 walk_at "w"
 refine KJ (fun h=>?_) (fun h=>?_)
 ·walk_at "w"
  exact qn (of_decide_eq_true h) H (av.refl _)
 have hsum:price<=ps.sum:=by
  rcases Sb ps.sum price with z|z
  ·exact absurd (decide_eq_true z) h
  ·exact z
 walk_at "w"
 refine⟨a,ps,rfl,hS,by omega,fun l ms h0 perm pw=>?_⟩
 have s1:=av.updN (o:=.lst (ms.map V.int)) h0
 have hq:aY K (upd H l (.lst (ms.map V.int))) l (ms.map V.int):=aY.of ax
 generalize upd H l (.lst (ms.map V.int))=H1 at *
 have hlen:ms.length=ps.length:=perm.length_eq
 have hms:∀y∈ms,0<=y:=fun y hy=>hp y (perm.mem_iff.mp hy)
 have hsm:ms.sum=ps.sum:=B8 perm
 walk_at "w"
 refine HP (K:=K) (a:=l) (xs:=ms.map V.int) (fun i σ H'=>H1=H'/\i<=ms.length/\∃(m:Int)(v:Option V),m=price-(ms.take i).sum/\0<m/\(∀y∈ms.take i,y*((ms.length:Int)-(i:Int))<m)/\
  σ=[some (.ref a),some (.int price),some (.int m),some (.int ((ms.length:Int)-(i:Int))),v]) ⟨rfl,Q3 _,price,none,by simp,by omega,by simp,?_⟩ ?_ ?_ ?_
 ·rw[hL,hlen]
  show _=[_,_,_,some (V.int ((ps.length:Int)-((0:Nat):Int))),_]
  rw[show((ps.length:Int)-((0:Nat):Int))=(ps.length:Int) by omega]
  rfl
 ·rintro i σ H' _ ⟨rfl,_⟩
  exact hq
 ·rintro i x σ H' hx ⟨rfl,hil,m,v,hm,hm0,hA,rfl⟩
  have hi:i<ms.length:=by
   have:=(QN.mp hx).1
   rwa [P7]at this
  have hx':x=V.int ms[i]:=by
   rw[Se,Qj hi]at hx
   exact(QW hx).symm
  subst hx'
  have hmi:0<=ms[i]:=hms _ (RC hi)
  obtain⟨b1,b2⟩:=pairwise_split pw hi
  have htk:ms.take (i+1)=ms.take i++[ms[i]]:=by
   rw[Us,Qj hi]
   rfl
  show aE _ _ _ _ _
  walk_at "w"
  refine KJ (fun h=>?_) (fun h=>?_)
  ·have h:=of_decide_eq_true h
   walk_at "w"
   exists rfl,m,(ms.length:Int)-(i:Int),rfl,by omega,by omega
   have e:ms=ms.take i++ms[i]::ms.drop (i+1):=by
    rw[Xw,Wq]
   have key:=Gd (pre:=ms.take i) (post:=ms.drop (i+1)) (x:=ms[i]) (m:=m) (p:=(ms.length:Int)-(i:Int)) (price:=price)
    (by rw[Rq];omega) hm hm0 hA h b2
   rw[<-e]at key
   refine qs hsum _ _ ?_ s1
   unfold J8 at key ⊢
   rw[B4 perm,B4 perm]at key
   exact key
  ·have h:¬m<=ms[i]*((ms.length:Int)-(i:Int)):=fun z=>h (decide_eq_true z)
   obtain⟨c1,c2⟩:=Jr (p:=(ms.length:Int)-(i:Int)) (by omega) hmi b1 h
   walk_at "w"
   exists rfl,hi,m-ms[i],some (.int ms[i]),?_,c1,?_
   ·rw[htk,IU]
    omega
   ·rw[htk]
    have e:(ms.length:Int)-((i+1:Nat):Int)=(ms.length:Int)-(i:Int)-1:=by omega
    rw[e]
    exact c2
   ·have e:(ms.length:Int)-((i+1:Nat):Int)=(ms.length:Int)-(i:Int)-1:=by omega
    rw[e]
    rfl
 ·rintro σ H' ⟨rfl,_,m,v,hm,hm0,hA,rfl⟩
  exfalso
  rw[P7,U2]at hm
  omega
theorem range_getD{α β:Type}(f:α->β)(d:α)(xs:List α):(P4 xs.length).map (fun i=>f (xs.getD i d))=xs.map f:=by
 apply SI
 ·simp
 ·intro k h1 h2
  have hk:k<xs.length:=by simpa using h1
  simp[Qm,hk]
theorem Bh:∀vs H Q E,k9 K vs H Q E->kA K {nx:=fun _ H'=>Q .non H',rt:=Q} (start ["wanted","works"] vs) H:=by
 rintro vs H Q E ⟨_,a,b,ws,ks,rfl,hA,hB,hl,q⟩
 have hlm:(ks.map V.int).length=ks.length:=P7 _
 unfold kA
 walk_at "v"
 refine bD (dE (xs:=ks.map V.int) 0) (fun j=>[some ((ks.map V.int).getD j .non),some (.ref a)]) (by rintro j σ' (rfl|⟨k,rfl⟩)<;>rfl) (fun H' s=>s.seq hB) (by rw[hlm];exact P6 (show ks.length<=1000 by omega) bo) (fun j=>.bl (decide (ks.getD j 0∈ws))) ?_ ?_
 ·intro j hj H' G s k
  rw[hlm]at hj
  have e:(ks.map V.int).getD j .non=.int (ks.getD j 0):=by simp[Qm,hj]
  rw[e]
  walk_at "v"
  exact k H' (av.refl _)
 ·intro l H' f s h
  have e:(P4 (ks.map V.int).length).map (fun j=>V.bl (decide (ks.getD j 0∈ws)))=(ks.map fun k=>decide (k∈ws)).map V.bl:=by
   rw[hlm,range_getD (fun k=>V.bl (decide (k∈ws))) 0 ks,Qn]
   rfl
  rw[e]at h
  walk_at "v"
  have e2:(ks.map fun k=>decide (k∈ws)).all id=ks.all fun k=>decide (k∈ws):=by
   rw[Uu]
   rfl
  rw[e2]
  exact q H' s
theorem zR:∀vs H Q E,lG K vs H Q E->kO K {nx:=fun _ H'=>Q .non H',rt:=Q} (start ["wishes","works"] vs) H:=by
 rintro vs H Q E ⟨_,a,b,rows,ks,rfl,⟨bs,hA,hP⟩,hB,hl1,hl2,q⟩
 have hbl:bs.length=rows.length:=(Qw hP).symm
 have hlm:(bs.map V.ref).length=bs.length:=P7 _
 unfold kO
 walk_at "v"
 refine kD (qE (xs:=bs.map V.ref) 0 1) (fun i=>[some (.int i),some ((bs.map V.ref).getD i .non),some (.ref b)]) (by rintro i σ' (rfl|⟨k,rfl⟩)<;>rfl) (fun H' s=>s.seq hA) (by rw[hlm];exact P6 (show bs.length<=1000 by omega) bo) (fun i=>ks.all fun k=>decide (k∈rows.getD i [])) (fun i=>.int i) ?_ ?_ ?_
 ·intro i hi H' G s k
  rw[hlm]at hi
  obtain⟨row,hr,hq⟩:=kL hP (show bs[i]?=some bs[i] by simp[hi])
  have e:(bs.map V.ref).getD i .non=.ref bs[i]:=by simp[Qm,hi]
  have e2:rows.getD i []=row:=by simp[Qm,hr]
  rw[e2]at k
  rw[e]
  walk_at "v"
  refine⟨rfl,bs[i],b,row,ks,rfl,s.seq hq,s.seq hB,hl2,fun H'' s'=>?_⟩
  walk_at "v"
  exact k H'' s'
 ·intro i hi _ H' G s k
  walk_at "v"
  exact k H' (av.refl _)
 ·intro l H' f s h
  rw[hlm,hbl]at h
  refine q l H' f s ?_
  rw[h]
  unfold lJ
  rw[Qn]
  rfl
theorem yk:∀vs H Q E,gp K vs H Q E->jN K {nx:=fun _ H'=>Q .non H',rt:=Q} (start ["wishes","work"] vs) H:=by
 rintro vs H Q E ⟨_,a,rows,k,rfl,hR,hl,q⟩
 unfold jN
 walk_at "v"
 rename_i l1 H1 f1 s1 h1
 refine⟨rfl,a,l1,rows,[k],rfl,by walk_at "rows",aY.of h1,hl,Yi rfl,fun l H' f s h=>?_⟩
 exact q l H' (s1.free f) (s1.trans s) h
theorem BJ:∀vs H Q E,ng K vs H Q E->nk K {nx:=fun _ H'=>Q .non H',rt:=Q} (start ["purses","wishes","work","price"] vs) H:=by
 rintro vs H Q E ⟨_,a,b,ps,rows,k,price,rfl,hA,hB,hv,hl,hp,hpr,qn,qs⟩
 unfold nk
 walk_at "v"
 refine⟨rfl,b,rows,(k:Int),rfl,hB,by omega,fun lw H1 f1 s1 h1=>?_⟩
 rw[vQ]at h1
 have hwl:=Hh rows k
 have hA1:=s1.seq hA
 have q1:aY K H1 lw (((dz rows k).map fun i:Nat=>(i:Int)).map V.int):=aY.of h1
 have hlw:(((dz rows k).map fun i:Nat=>(i:Int)).map V.int).length=(dz rows k).length:=by simp
 walk_at "v"
 refine bD (dE (xs:=((dz rows k).map fun i:Nat=>(i:Int)).map V.int) 0) (fun j=>[some ((((dz rows k).map fun i:Nat=>(i:Int)).map V.int).getD j .non),some (.ref a)]) (by rintro j σ' (rfl|⟨k,rfl⟩)<;>rfl) (fun H' s=>s.seq q1) (by rw[hlw];exact P6 (show _<=1000 by omega) bo) (fun j=>.int (PF ps ((dz rows k).getD j 0))) ?_ ?_
 ·intro j hj H' G s kk
  rw[hlw]at hj
  have e:(((dz rows k).map fun i:Nat=>(i:Int)).map V.int).getD j .non=.int (((dz rows k).getD j 0:Nat):Int):=by simp[Qm,hj]
  have hm:(dz rows k).getD j 0∈dz rows k:=by simp[Qm,hj]
  have hi:=Kc hm
  rw[e]
  generalize (dz rows k).getD j 0=i at *
  walk_at "v"
  refine cz (s.seq hA1) (bM (DU (by omega))) ?_
  exact kk H' (av.refl _)
 intro l H2 f2 s2 h2
 have e2:(P4 (((dz rows k).map fun i:Nat=>(i:Int)).map V.int).length).map (fun j=>V.int (PF ps ((dz rows k).getD j 0)))=((dz rows k).map (PF ps)).map V.int:=by
  rw[hlw,bw (fun i=>V.int (PF ps i)) 0 (dz rows k),Qn]
  rfl
 rw[e2]at h2
 walk_at "v"
 refine⟨rfl,l,(dz rows k).map (PF ps),price,rfl,aY.of h2,by rw[P7];omega,fun p h=>?_,hpr,fun h H3 s3=>?_,fun h L H3 hL s3=>?_⟩
 ·obtain⟨i,_,e⟩:=P9.mp h
  rw[<-e]
  exact Ic hp i
 ·rw[BW]at h
  exact qn h H3 (s1.trans (s2.trans s3))
 ·rw[BW]at h
  obtain⟨z1,z2,z3⟩:=hL
  rw[JL]at z2 z3
  exact qs h L H3 z1 z2 z3 (s1.trans (s2.trans s3))
theorem A9:∀vs H Q E,kj K vs H Q E->km K {nx:=fun _ H'=>Q .non H',rt:=Q} (start ["purses","costs","wishes","done","offers","work","price"] vs) H:=by
 rintro vs H Q E ⟨_,a,b,c,d,ps,cs,rows,done,rfl,hA,hB,hC,hD,hl,hb,hv1,hv,hpl,hp,hdl,q⟩
 unfold km
 walk_at "q"
 walk_at "z"
 rename_i lo H1 f1 s1 h1
 walk_at "q"
 walk_at "z"
 refine⟨rfl,b,c,cs,rows,rfl,s1.seq hB,s1.rows hC,hl,hb,hv1,hv,fun lp H2 f2 s2 h2=>?_⟩
 have hpr:∀j,j<cs.length->(((cs.map (· * ((mT rows.length ^ (cs.length+1):Nat):Int))).map V.int)).getD j .non=.int ((bP cs rows).c j):=fun j hj=>by
  simp[Qm,hj,bP]
 have hlx:((cs.map (· * ((mT rows.length ^ (cs.length+1):Nat):Int))).map V.int).length=cs.length:=by simp
 generalize (cs.map (· * ((mT rows.length ^ (cs.length+1):Nat):Int))).map V.int=xs at *
 have q2:aY K H2 lp xs:=aY.of h2
 have hne:lp≠lo:=fun z=>by
  rw[z,h1]at f2
  cases f2
 have h1':=s2 _ _ h1
 have s12:=s1.trans s2
 walk_at "z"
 refine sy (qE (xs:=xs) 5 6) (fun i σ H'=>av H H'/\H' lp=some (.lst xs)/\∃(os:List (Option Int))(v5 v6:Option V),H' lo=some (.lst (os.map oV))/\os.length=i/\i<=cs.length/\(∀j o,os[j]?=some o->BI (bP cs rows) (PF ps) done j o)/\σ=[some (.ref a),some (.ref b),some (.ref c),some (.ref d),some (.ref lo),v5,v6]) ⟨s12,h2,[],_,_,h1',rfl,Q3 _,(fun j o h=>by simp at h),rfl⟩ (fun i σ H' h=>aY.of h.2.1) ?_ ?_
 ·rintro i σ Ha Hb hi ⟨sa,hpa,os,v5,v6,ho,hol,hil,hok,rfl⟩ sb
  rw[hlx]at hi
  rw[hpr i hi]
  have sab:=sa.trans sb
  have fit:(os.map oV).length<PZ:=by rw[P7,hol];exact QE (show i<1000 by omega) bo
  have add:∀(o:Option Int)(Hc:Hp),av Hb Hc->BI (bP cs rows) (PF ps) done i o->av H (upd Hc lo (.lst (os.map oV++[oV o])))/\(upd Hc lo (.lst (os.map oV++[oV o]))) lp=some (.lst xs)/\∃(os':List (Option Int))(v5 v6:Option V),(upd Hc lo (.lst (os.map oV++[oV o]))) lo=some (.lst (os'.map oV))/\os'.length=i+1/\i+1<=cs.length/\(∀j o,os'[j]?=some o->BI (bP cs rows) (PF ps) done j o)/\[some (V.ref a),some (.ref b),some (.ref c),some (.ref d),some (.ref lo),some (.int (i:Int)),some (.int ((bP cs rows).c i))]=[some (.ref a),some (.ref b),some (.ref c),some (.ref d),some (.ref lo),v5,v6]:=by
   intro o Hc sc hoff
   refine⟨(sab.trans sc).upd f1,by rw[ak hne];exact sc _ _ (sb _ _ hpa),os++[o],_,_,by rw[ax];simp,by simp[hol],hi,fun j o' hj=>?_,rfl⟩
   by_cases hjl:j<os.length
   ·rw[Sh hjl]at hj
    exact hok j o' hj
   ·rw[S8 (by omega)]at hj
    cases e:j-os.length with
    |zero=>
     rw[e]at hj
     have e1:o=o':=by simpa using hj
     have e2:j=i:=by omega
     rw[<-e1,e2]
     exact hoff
    |succ n=>rw[e]at hj;simp at hj
  have hD':=sab.seq hD
  have hA':=sab.seq hA
  have hC':=sab.rows hC
  have ho':=sb _ _ ho
  show cR _ _ _ _
  walk_at "z"
  exists NY ho'
  walk_at "z"
  refine dJ (fun h=>?_) (fun h=>?_)
  ·walk_at "z"
   refine gk ho' fit ?_
   exact add none Hb (av.refl _) (.inl (mE.mp h))
  ·have hn:i∉done:=fun z=>h (mE.mpr z)
   walk_at "z"
   refine⟨rfl,a,c,ps,rows,i,_,rfl,hA',hC',hv,hpl,hp,LK hb i hi,fun hlt Hc sc=>?_,fun hle L Hc z1 z2 z3 sc=>?_⟩
   ·walk_at "z"
    refine gk (sc _ _ ho') fit ?_
    exact add none Hc sc (.inr hlt)
   ·walk_at "z"
    refine gk (sc _ _ ho') fit ?_
    exact add (some L) Hc sc ⟨hn,z1,z2,z3⟩
 rintro σ Ha ⟨sa,_,os,v5,v6,ho,hol,_,hok,rfl⟩
 rw[hlx]at hol
 walk_at "z"
 exact q lo Ha os f1 sa ho hol hok
theorem DZ:∀vs H Q E,pI K vs H Q E->pP K {nx:=fun _ H'=>Q .non H',rt:=Q} (start ["offers","best","work","offer"] vs) H:=by
 rintro vs H Q E ⟨_,a,os,rfl,hA,hl,q⟩
 have hlo:(os.map oV).length=os.length:=P7 _
 unfold pP
 walk_at "q"
 walk_at "z"
 walk_at "q"
 walk_at "z"
 try refine⟨a,rfl,⟨_,hA⟩,?_⟩
 refine sy (qE (xs:=os.map oV) 2 3) (fun i σ H'=>av H H'/\∃(k:Option Nat)(v2 v3:Option V),gM (os.take i) k/\σ=[some (.ref a),some (oV (k.map fun j:Nat=>(j:Int))),v2,v3]) ⟨av.refl _,none,_,_,Jn,rfl⟩ (fun i σ H' h=>h.1.seq hA) ?_ ?_
 ·rintro i σ Ha Hb hi ⟨sa,k,v2,v3,hk,rfl⟩ sb
  rw[hlo]at hi
  have hi':os[i]?=some os[i]:=by simp[hi]
  have e:(os.map oV).getD i .non=oV os[i]:=by simp[Qm,hi]
  have htk:=take_snoc hi'
  have htl:(os.take i).length=i:=by rw[QY];omega
  rw[e]
  have sab:=sa.trans sb
  show cm _ _ _ _ _ _
  cases ho:os[i]with
  |none=>
   rw[ho]at htk
   show cm _ _ _ _ [some (V.ref a),some (oV (k.map fun j:Nat=>(j:Int))),some (.int (i:Int)),some .non] _
   walk_at "z"
   refine HB rfl ?_
   walk_at "z"
   exact⟨sab,k,_,_,by rw[htk];exact F3 hk,rfl⟩
  |some M=>
   rw[ho]at htk
   cases k with
   |none=>
    show cm _ _ _ _ [some (V.ref a),some .non,some (.int (i:Int)),some (.int M)] _
    walk_at "z"
    refine FR (by simp) ?_
    walk_at "z"
    refine IW rfl ?_
    walk_at "z"
    refine⟨sab,some i,_,_,?_,rfl⟩
    have:=DK (M:=M) hk
    rw[htl]at this
    rw[htk]
    exact this
   |some j=>
    show cm _ _ _ _ [some (V.ref a),some (.int (j:Int)),some (.int (i:Int)),some (.int M)] _
    have hk':=hk
    obtain⟨L,hL,_⟩:=hk'
    have hLo:os[j]?=some (some L):=by
     have h:=hL
     rw[List.getElem?_take]at h
     split at h
     ·exact h
     ·cases h
    have hix:(os.map oV)[j]?=some (.int L):=by
     rw[Se,hLo]
     rfl
    walk_at "z"
    refine FR (by simp) ?_
    walk_at "z"
    refine GI (by simp) ?_
    walk_at "z"
    refine cz (sab.seq hA) (bM hix) ?_
    walk_at "z"
    refine dJ (fun h=>?_) (fun h=>?_)
    ·walk_at "z"
     refine⟨sab,some i,_,_,?_,rfl⟩
     have:=Hr hk hL h
     rw[htl]at this
     rw[htk]
     exact this
    ·walk_at "z"
     refine⟨sab,some j,_,_,?_,rfl⟩
     rw[htk]
     exact Gy hk hL h
 rintro σ Ha ⟨sa,k,v2,v3,hk,rfl⟩
 rw[hlo,U2]at hk
 walk_at "z"
 exact q k Ha hk sa
theorem Ge{ms:List Int}{ks:List Nat}(h:ms.Perm (ks.map fun k:Nat=>(k:Int))):∃ws:List Nat,ms=ws.map fun k:Nat=>(k:Int):=by
 exists ms.map Int.toNat
 rw[Qn]
 conv=>lhs;rw[<-List.map_id ms]
 refine Sw fun x hx=>?_
 obtain⟨k,_,e⟩:=P9.mp (h.mem_iff.mp hx)
 rw[<-e]
 rfl
theorem Ct:∀vs H Q E,mi K vs H Q E->mW K {nx:=fun _ H'=>Q .non H',rt:=Q} (start ["steps"] vs) H:=by
 rintro vs H Q E ⟨_,a,sts,rfl,hA,hl,hw,hn,q⟩
 obtain⟨ts,bs,B⟩:=hA.b
 have qA:aY K H a (ts.map V.ref):=(B.ys (av.refl _)).1
 unfold mW
 walk_at "z"
 refine bD (jU (ts:=ts) (u:=fun i=>.int ((sts.getD i stN).1:Nat)) (v:=fun i=>.int (sts.getD i stN).2.1) (w:=fun i=>.ref (bs.getD i 0)) 0 1 2) (fun j=>[some (.int ((sts.getD j stN).1:Nat)),some (.int (sts.getD j stN).2.1),some (.ref (bs.getD j 0))]) (by rintro j σ' (rfl|⟨k,rfl⟩)<;>rfl) (fun H' s=>B.ys s) (by rw[B.tl];exact P6 (show sts.length<=1000 by omega) bo) (fun j=>.int ((sts.getD j stN).1:Nat)) ?_ ?_
 ·intro j hj H' G s kk
  walk_at "z"
  exact kk H' (av.refl _)
 intro l H1 f1 s1 h1
 have e1:(P4 ts.length).map (fun j=>V.int ((sts.getD j stN).1:Nat))=((sts.map (·.1)).map fun k:Nat=>(k:Int)).map V.int:=by
  rw[B.tl,bw (fun x:Nat×Int×List Int=>V.int ((x.1:Nat):Int)) stN sts,Qn,Qn]
  rfl
 rw[e1]at h1
 walk_at "z"
 refine⟨l,(sts.map (·.1)).map fun k:Nat=>(k:Int),rfl,aY.of h1,by simp;omega,fun p ms hp perm pw=>?_⟩
 have s2:=av.updN (o:=.lst (ms.map V.int)) hp
 have h2:(upd H1 p (.lst (ms.map V.int))) p=some (.lst (ms.map V.int)):=ax
 generalize upd H1 p (.lst (ms.map V.int))=H2 at *
 obtain⟨ws,rfl⟩:=Ge perm
 have hmem:∀k,k∈ws↔k∈sts.map (·.1):=fun k=>by
  rw[<-mE,perm.mem_iff,mE]
 have hnd:ws.Nodup:=by
  have h3:((sts.map (·.1)).map fun k:Nat=>(k:Int)).Nodup:=VT _ (fun x y hxy z=>hxy (by omega)) hn
  have h4:=(perm.nodup_iff).mpr h3
  exact Xd _ (fun x y hxy z=>hxy (by rw[z])) h4
 have hpw:ws.Pairwise (· < ·):=by
  have h5:ws.Pairwise (·<=·):=Xd _ (fun x y h=>by omega) pw
  exact ZM (fun x y h6 h7=>Nat.lt_of_le_of_ne h6 h7) h5 hnd
 exact q p H2 ws (s1.free hp) (s1.trans s2) h2 hpw hmem
theorem EO:∀vs H Q E,pq K vs H Q E->pZ K {nx:=fun _ H'=>Q .non H',rt:=Q} (start ["purses","level"] vs) H:=by
 rintro vs H Q E ⟨_,a,ps,lev,rfl,hS,hl,q⟩
 unfold pZ
 walk_at "w"
 refine GJ (K:=K) (xs:=ps.map V.int) (fun x v=>∃p,x=.int p/\v=.int (min p lev)) [some (.int lev)] rfl hS (by rw[P7];exact P6 hl (by decide)) ?_ ?_
 ·intro x hx H' G s k
  obtain⟨p,_,rfl⟩:=Im hx
  walk_at "w"
  exact k _ _ ⟨p,rfl,rfl⟩ (av.refl _)
 ·intro l ys H' h0 s h1 pr
  have e:=xq pr Ks
  subst e
  refine q l H' h0 s ?_
  rw[h1,Qn]
  rfl
theorem vH:∀vs H Q E,iV K vs H Q E->iR K {nx:=fun _ H'=>Q .non H',rt:=Q} (start ["purses","wishes","work","level","wanters"] vs) H:=by
 rintro vs H Q E ⟨_,a,b,ps,rows,k,L,rfl,hA,hB,hl,hl64,q⟩
 have hlp:((ps.map (min · L)).map V.int).length=ps.length:=by simp
 unfold iR
 walk_at "q"
 walk_at "z"
 refine⟨rfl,b,rows,(k:Int),rfl,hB,by omega,fun lw H1 f1 s1 h1=>?_⟩
 have hA1:=s1.seq hA
 walk_at "z"
 refine⟨rfl,a,ps,L,rfl,hA1,hl64,fun lq H2 f2 s2 h2=>?_⟩
 have q1:aY K H2 lw ((lJ rows [(k:Int)]).map V.int):=aY.of (s2 _ _ h1)
 have q2:aY K H2 lq ((ps.map (min · L)).map V.int):=aY.of h2
 walk_at "z"
 try refine⟨lq,rfl,⟨_,q2⟩,?_⟩
 refine bD (qE (xs:=(ps.map (min · L)).map V.int) 0 1) (fun j=>[some (.int j),some (((ps.map (min · L)).map V.int).getD j .non),some (.ref lw)]) (by rintro j σ' (rfl|⟨k,rfl⟩)<;>rfl) (fun H' s=>s.seq q2) (by rw[hlp];exact P6 (show _<=1000 by omega) bo) (fun j=>.int (Bs (WR rows) (PF ps) k L j)) ?_ ?_
 ·intro j hj H' G s kk
  rw[hlp]at hj
  have e:((ps.map (min · L)).map V.int).getD j .non=.int (min (PF ps j) L):=by unfold PF;simp[Qm,hj]
  have q1':=s.seq q1
  rw[e]
  walk_at "z"
  unfold Bs at kk
  refine dJ (fun h=>?_) (fun h=>?_)
  ·rw[if_pos (xy.mp h)]at kk
   walk_at "z"
   exact kk H' (av.refl _)
  ·rw[if_neg fun z=>h (xy.mpr z)]at kk
   walk_at "z"
   exact kk H' (av.refl _)
 ·intro l H' f s h
  rw[hlp]at h
  refine q l H' (s1.free (s2.free f)) (s1.trans (s2.trans s)) ?_
  rw[h]
  unfold nE
  rw[Qn]
  rfl
theorem wU:∀vs H Q E,d0 K vs H Q E->i6 K {nx:=fun _ H'=>Q .non H',rt:=Q} (start ["purses","costs","wishes","steps","left","offers","work","level"] vs) H:=by
 rintro vs H Q E ⟨_,a,b,c,d,ps,cs,rows,sts,rfl,hA,hB,hC,hD,hl,hb,hv1,hv,hpl,hsl,hsw,hsn,hsp,hnn,qn,qs⟩
 have hll:(bL ps sts).length=ps.length:=by unfold bL;rw[P7,SQ]
 unfold i6
 walk_at "q"
 walk_at "z"
 refine⟨rfl,a,d,ps,sts,rfl,hA,hD,by omega,hsl,hsp,fun l1 H1 f1 s1 h1=>?_⟩
 walk_at "z"
 walk_at "q"
 walk_at "z"
 refine⟨rfl,d,sts,rfl,kK s1 hD,hsl,hsw,hsn,fun l2 H2 ws f2 s2 h2 hpw hmem=>?_⟩
 walk_at "z"
 have s02:=s1.trans s2
 have hwl:ws.length<=12:=by
  have:=ze (l:=ws) (m:=sts.map (·.1)) (Yf (fun h=>Qt h) hpw) fun x hx=>(hmem x).mp hx
  rw[P7]at this
  omega
 refine⟨rfl,l1,b,c,l2,bL ps sts,cs,rows,ws,rfl,aY.of (s2 _ _ h1),s02.seq hB,s02.rows hC,aY.of h2,hl,hb,hv1,hv,by rw[hll];exact hpl,hnn,hwl,fun l3 H3 os f3 s3 h3 hol hok=>?_⟩
 have s03:=s02.trans s3
 have h13:H3 l1=some (.lst ((bL ps sts).map V.int)):=s3 _ _ (s2 _ _ h1)
 walk_at "z"
 walk_at "q"
 walk_at "z"
 refine⟨rfl,l3,os,rfl,aY.of h3,by omega,fun k H4 hnx s4=>?_⟩
 have s04:=s03.trans s4
 walk_at "z"
 walk_at "q"
 cases k with
 |none=>
  show cm _ _ _ _ [some (V.ref a),some (.ref b),some (.ref c),some (.ref d),some (.ref l1),some (.ref l3),some .non,none] _
  walk_at "z"
  refine IW rfl ?_
  walk_at "z"
  refine qn (fun k hk hkn=>?_) H4 s04
  have hko:os[k]?=some os[k]:=by simp[hol,hk]
  have h5:=hok k os[k] hko
  rw[hnx os[k] (Tv hko)]at h5
  rcases h5 with z|z
  ·exact absurd ((hmem k).mp z) hkn
  ·exact z
 |some k=>
  have hnx':=hnx
  obtain⟨L,hkL,_⟩:=hnx'
  show cm _ _ _ _ [some (V.ref a),some (.ref b),some (.ref c),some (.ref d),some (.ref l1),some (.ref l3),some (.int (k:Int)),none] _
  walk_at "z"
  refine GI (by simp) ?_
  walk_at "z"
  walk_at "q"
  walk_at "z"
  have hix:(os.map oV)[k]?=some (.int L):=by
   rw[Se,hkL]
   rfl
  refine cz (aY.of (s4 _ _ h3)) (bM hix) ?_
  walk_at "z"
  refine⟨rfl,l1,c,bL ps sts,rows,k,L,rfl,aY.of (s4 _ _ h13),s04.rows hC,by omega,by omega,fun lp H5 f5 s5 h5=>?_⟩
  walk_at "z"
  rename_i t H6 f6 s6 h6
  have N:=AU (T:=bP cs rows) hol hok (fun i _=>Ic hnn i) (LK hb) hkL hnx
  exact qs k L (BG (fun j=>(hmem j).symm) N) t lp H6 (s04.free (s5.free f6)) (s04.free f5) (s04.trans (s5.trans s6)) h6 (s6 _ _ h5)
theorem Gc:∀vs H Q E,sj K vs H Q E->sh K {nx:=fun _ H'=>Q .non H',rt:=Q} (start ["purses","costs","wishes","steps","step"] vs) H:=by
 rintro vs H Q E ⟨_,a,b,c,ps,cs,rows,rfl,hA,hB,hC,G,q⟩
 have h12:=G.c12
 unfold sh
 walk_at "q"
 walk_at "z"
 rename_i ls H1 f1 s1 h1
 have ask:∀(r:List (Nat×Int))(Ha:Hp)(R:VK),Pre cs rows ps r->av H Ha->iD H Ha ls (aT rows ps r)->
   (∀(Hb:Hp)(v:V),av Ha Hb->((v=.non/\∀k,k<cs.length->k∉r.map (·.1)->Hx rows.length (WR rows) (PF (cF rows ps r)) k<(bP cs rows).c k)\/∃(k:Nat)(L:Int)(t:PK),v=.ref t/\Nx (bP cs rows) (PF (cF rows ps r)) (r.map (·.1)) k L/\t≠ls/\qF H Hb ls (k,L,nE rows (cF rows ps r) k L) t)->R v Hb)->
   d0 K [.ref a,.ref b,.ref c,.ref ls] Ha R E0:=by
  intro r Ha R hr sa hst hR
  have hrl:=hr.len
  have hls:∃o,Ha ls=some o:=by
   obtain⟨ts,z,_⟩:=hst
   exact⟨_,z⟩
  obtain⟨o,ho⟩:=hls
  have e1:=hZ rows ps r
  have e2:=vR rows ps r
  refine⟨rfl,a,b,c,ls,ps,cs,rows,aT rows ps r,rfl,sa.seq hA,sa.seq hB,sa.rows hC,hst.at,h12,G.cb,G.v1,G.v20,G.pl,by rw[iK];omega,fun x hx=>?_,by rw[e2];exact hr.nd,jy rows ps r,by rw[e1];exact B0 G.p0,fun h H' s'=>?_,fun k L n t b' H' ft fb s' ht hb'=>?_⟩
  ·have:x.1∈r.map (·.1):=by rw[<-e2];exact P9.mpr ⟨x,hx,rfl⟩
   obtain⟨y,hy,e⟩:=P9.mp this
   have:=hr.lt y hy
   omega
  ·rw[e1,e2]at h
   exact hR H' .non s' (.inl ⟨rfl,h⟩)
  ·rw[e1,e2]at n
   rw[e1]at hb'
   refine hR H' (.ref t) s' (.inr ⟨k,L,t,rfl,n,fun z=>?_,b',sa.free ft,sa.free fb,fun z=>?_,ht,hb'⟩)
   ·rw[z,ho]at ft
    cases ft
   ·rw[z,ho]at fb
    cases fb
 let St:List (Nat×Int)->V->Hp->Prop:=fun r v Hb=>(v=.non/\∀k,k<cs.length->k∉r.map (·.1)->Hx rows.length (WR rows) (PF (cF rows ps r)) k<(bP cs rows).c k)\/∃(k:Nat)(L:Int)(t:PK),v=.ref t/\Nx (bP cs rows) (PF (cF rows ps r)) (r.map (·.1)) k L/\t≠ls/\qF H Hb ls (k,L,nE rows (cF rows ps r) k L) t
 walk_at "q"
 walk_at "z"
 refine ask [] H1 _ (FC cs rows ps) s1 ⟨[],h1,.nil⟩ fun H2 v s2 hv=>?_
 walk_at "z"
 walk_at "q"
 exists fun μ σ H'=>∃(r:List (Nat×Int))(v:V),σ=[some (.ref a),some (.ref b),some (.ref c),some (.ref ls),some v]/\Pre cs rows ps r/\av H H'/\iD H H' ls (aT rows ps r)/\St r v H'/\μ=cs.length-r.length,⟨_,[],v,rfl,FC cs rows ps,s1.trans s2,⟨[],s2 _ _ h1,.nil⟩,hv,rfl⟩
 rintro μ σ Ha ⟨r,v,rfl,hr,sa,hst,hv,rfl⟩
 rcases hv with⟨rfl,hstop⟩|⟨k,L,t,rfl,n,htl,b',z1,z2,z3,z4,z5⟩
 ·walk_at "z"
  refine HB rfl ?_
  walk_at "z"
  exact q ls Ha r f1 sa hst (G2 G (hr.stop hstop))
 ·walk_at "z"
  refine FR (by simp) ?_
  have hr':=hr.snoc G.pl n
  have hlen:=hr'.len
  rw[QU]at hlen
  have hlen:r.length+1<=cs.length:=hlen
  exists fun σ' H'=>∃(v:V),σ'=[some (.ref a),some (.ref b),some (.ref c),some (.ref ls),some v]/\av H H'/\iD H H' ls (aT rows ps (r++[(k,L)]))/\St (r++[(k,L)]) v H',?_
  ·rintro σ' H' ⟨v,rfl,s',hst',hv'⟩
   exact⟨_,(by rw[QU];show cs.length-(r.length+1)<cs.length-r.length;omega),r++[(k,L)],v,rfl,hr',s',hst',hv',rfl⟩
  obtain⟨ts,ht,hpt⟩:=hst
  have hpl:=Qw hpt
  rw[iK]at hpl
  walk_at "q"
  walk_at "z"
  exists NY ht
  walk_at "z"
  refine gk ht (by rw[P7];exact QE (show ts.length<1000 by omega) bo) ?_
  have sb:av H (upd Ha ls (.lst (ts.map V.ref++[.ref t]))):=sa.upd f1
  have hst2:iD H (upd Ha ls (.lst (ts.map V.ref++[.ref t]))) ls (aT rows ps (r++[(k,L)])):=by
   exists ts++[t],by rw[ax,Rk];rfl
   rw[xw]
   refine xG (AR hpt ht) (.cons ⟨b',z1,z2,z3,by rw[ak htl];exact z4,by rw[ak z3];exact z5⟩ .nil)
  generalize upd Ha ls (.lst (ts.map V.ref++[.ref t]))=Hb at *
  walk_at "z"
  refine ask (r++[(k,L)]) Hb _ hr' sb hst2 fun H3 v s3 hv3=>?_
  walk_at "z"
  obtain⟨ts3,y1,y2⟩:=hst2
  exact⟨v,rfl,sb.trans s3,⟨ts3,s3 _ _ y1,Paired.mapP y2 fun _ _ ⟨b3,w1,w2,w3,w4,w5⟩=>⟨b3,w1,w2,w3,s3 _ _ w4,s3 _ _ w5⟩⟩,hv3⟩
theorem ow(C:gY K):∀vs H Q E,eB K vs H Q E->eu K {nx:=fun _ H'=>Q .non H',rt:=Q} (start ["self","left","grains"] vs) H:=by
 rintro vs H Q E ⟨_,c,b,g,left,fp,s,rfl,⟨dx,d1,d2,w,wt,X,rfl⟩,hb,hg,hH,hll,hv,q⟩
 have hlm:(left.map V.int).length=left.length:=P7 _
 unfold eu
 walk_at "q"
 walk_at "z"
 refine yU X.at_ C.aJ C.cB eY ?_
 walk_at "z"
 try refine fj (aY.of hb) ?_
 refine bD (dE (K:=K) (xs:=left.map V.int) 0) (fun j=>[some ((left.map V.int).getD j .non),some (.int g)]) (by rintro j σ' (rfl|⟨k,rfl⟩)<;>rfl) (fun H' s=>s.seq (aY.of hb)) (by rw[hlm];exact P6 (show _<=1000 by omega) bo) (fun j=>.int (left.getD j 0%g)) ?_ ?_
 ·intro j hj H' G s' kk
  rw[hlm]at hj
  have e:(left.map V.int).getD j .non=.int (left.getD j 0):=by simp[Qm,hj]
  rw[e]
  walk_at "z"
  exact kk H' (av.refl _)
 intro l1 H1 f1 s1 h1
 rw[hlm]at h1
 have e1:(P4 left.length).map (fun j=>V.int (left.getD j 0%g))=(left.map (· % g)).map V.int:=by
  rw[Qn];exact bw (fun x:Int=>V.int (x%g)) 0 left
 rw[e1]at h1
 have X1:=X.same s1
 have q1:aY K H1 l1 ((left.map (· % g)).map V.int):=aY.of h1
 walk_at "z"
 refine Jw hg hH ?_
 exists _,_,rfl,rfl,dx,_,X1.at_,(show 6<1000 by decide)
 rw[ju]
 have X2:=X1.setF (a:=s.pot+(left.map (· % g)).sum/g) (b:=s.giv) (e:=s.spt)
 have b2:b7 [c,d1,d2,w] H1 (upd H1 c (.ins (ao K "Chest") dx (gN d1 d2 w (s.pot+(left.map (· % g)).sum/g) s.giv s.spt))):=b7.upd X1.at_ (by intro xs z;cases z) (by simp)
 have hb1:=s1 _ _ hb
 have hb2:upd H1 c (.ins (ao K "Chest") dx (gN d1 d2 w (s.pot+(left.map (· % g)).sum/g) s.giv s.spt)) b=some (.lst (left.map V.int)):=by rw[ak (aK hb1 X1.at_ (by simp))];exact hb1
 generalize upd H1 c (.ins (ao K "Chest") dx (gN d1 d2 w (s.pot+(left.map (· % g)).sum/g) s.giv s.spt))=H2 at *
 walk_at "z"
 unfold En
 walk_at "z"
 refine bW X2.at_ C.aJ C.aS cj ?_
 walk_at "z"
 try refine fj (aY.of hb2) ?_
 refine bD (dE (K:=K) (xs:=left.map V.int) 0) (fun j=>[some ((left.map V.int).getD j .non),some (.int g)]) (by rintro j σ' (rfl|⟨k,rfl⟩)<;>rfl) (fun H' s=>s.seq (aY.of hb2)) (by rw[hlm];exact P6 (show _<=1000 by omega) bo) (fun j=>.int (left.getD j 0/g)) ?_ ?_
 ·intro j hj H' G s' kk
  rw[hlm]at hj
  have e:(left.map V.int).getD j .non=.int (left.getD j 0):=by simp[Qm,hj]
  rw[e]
  walk_at "z"
  refine Jw hg hH ?_
  exact kk H' (av.refl _)
 intro l3 H3 f3 s3 h3
 rw[hlm]at h3
 have e3:(P4 left.length).map (fun j=>V.int (left.getD j 0/g))=(left.map (· / g)).map V.int:=by
  rw[Qn];exact bw (fun x:Int=>V.int (x/g)) 0 left
 rw[e3]at h3
 have X3:=X2.same s3
 walk_at "z"
 have eK:(eD s.ps).map (·.1)=(s.ps.map (·.1)).map RK:=by unfold eD;rw[Qn,Qn];rfl
 refine⟨d1,l3,_,_,rfl,X3.p1,aY.of h3,by rw[cW];simp;exact Ts hll.symm,by rw[cW];show s.ps.length<=1000;omega,?_,fun e f4=>?_⟩
 ·show((eD s.ps).map (·.1)).Nodup
  rw[eK]
  exact List.pairwise_map.mpr (Yf (fun h e=>h (by injection e)) X.nd)
 have eZ:Dg (eD s.ps) ((left.map (· / g)).map V.int)=eD ((s.ps.map (·.1)).zip (left.map (· / g))):=by
  unfold Dg eD
  apply SI (by simp)
  intro i g1 g2
  simp
 rw[show Dg (eD (aG.mk s.ps s.cs s.ws (s.pot+(left.map (· % g)).sum/g) s.giv s.spt).ps) ((left.map (· / g)).map V.int)=_ from eZ]
 have s4:av H3 (upd H3 e (.dK (eD ((s.ps.map (·.1)).zip (left.map (· / g)))))):=av.updN f4
 have h4:upd H3 e (.dK (eD ((s.ps.map (·.1)).zip (left.map (· / g))))) e=some (.dK (eD ((s.ps.map (·.1)).zip (left.map (· / g))))):=ax
 generalize upd H3 e (.dK (eD ((s.ps.map (·.1)).zip (left.map (· / g)))))=H4 at *
 have X4:=X3.same s4
 walk_at "z"
 refine lP X4.at_ C.aJ C.aS (show 6<1000 by decide) ?_
 rw[y9]
 have nd:(((s.ps.map (·.1)).zip (left.map (· / g))).map (·.1)).Nodup:=by
  rw[Yr (by simp[hll])]
  exact X.nd
 have X5:=X4.setD h4 (fS X3.p2 f4).symm nd
 refine q _ [c,e,d2,w] ⟨dx,e,d2,w,wt,X5,rfl⟩ (((((b7.of s1).trans b2).trans (b7.of s3)).trans (b7.of s4)).trans (b7.upd X4.at_ (by intro xs z;cases z) (by simp))) ?_
 intro a ha
 simp only[Qa,Rf,or_false]at ha
 rcases ha with rfl|rfl|rfl|rfl
 ·exact .inl (by simp)
 ·exact .inr (s1.free (b2.2.2 _ (s3.free f4)))
 ·exact .inl (by simp)
 ·exact .inl (by simp)
theorem lI(C:gY K):∀vs H Q E,dD K vs H Q E->dH K {nx:=fun _ H'=>Q .non H',rt:=Q} (start ["self","voter"] vs) H:=by
 rintro vs H Q E ⟨_,c,dx,d1,d2,w,n,wt,s,rfl,hc,hd,hw,hp,an,ac,aw,hl,q⟩
 have n1:c≠d2:=aK hc hd (by simp)
 have n2:w≠d2:=aK hw hd (by simp)
 have hk:=cW s.cs
 unfold dH
 with_reducible refine Fm ?_
 refine DI (d:=d2) (kvs:=eD s.cs) (fun k hk=>⟨_,rfl,bW hc C.aJ C.bJ dM hk⟩) hd fun o Hf F=>?_
 refine y3 F hd (Ka 0 1 (fun i=>.str (s.cs.getD i ("",0)).1) ?_) (fun i=>[some (.int i),some (.str (s.cs.getD i ("",0)).1),some (.str n),some (.ref c)]) (by rintro j σ' (rfl|⟨k,rfl⟩)<;>rfl) (fun H' h _=>h) (by rw[hk];exact P6 (show _<=1000 by omega) bo)
  (fun i=>decide ((n,(s.cs.getD i ("",0)).1)∈s.ws)) (fun i=>.int i) ?_ ?_ ?_
 ·intro i p hp'
  have hi:i<s.cs.length:=by rw[<-hk];exact(QN.mp hp').1
  rw[jk (Qj hi)]at hp'
  cases hp'
  rw[QD,Qj hi]
  rfl
 ·intro i hi H' G sx kk
  rw[hk]at hi
  have ai:aV (s.cs.getD i ("",0)).1:=ac _ (getD_mem _ hi)
  walk_at "z"
  rename_i t H2 f2 s2 h2
  refine bW (s2 _ _ (sx c _ n1 hc)) C.aJ C.bQ fZ ?_
  refine Ej (p:=(n,(s.cs.getD i ("",0)).1)) h2 (s2 _ _ (sx w _ n2 hw)) (Paired.mapP hp fun _ a z=>s2 _ _ (sx a _ (aK z hd (by simp)) z)) an ai aw ?_
  rw[TF]
  walk_at "z"
  exact kk H2 s2
 ·intro i hi hb H' G sx kk
  walk_at "z"
  exact kk H' (av.refl _)
 intro l H2 f2 s2 h2
 rw[hk]at h2
 refine q l H2 f2 s2 ?_
 rw[h2]
 unfold intsOf BY
 rw[Qn]
 rfl
theorem pE(C:gY K):∀vs H Q E,eU K vs H Q E->eS K {nx:=fun _ H'=>Q .non H',rt:=Q} (start ["self","place","paid","name","rows"] vs) H:=by
 rintro vs H Q E ⟨_,c,b,k,L,paid,fp,s,rfl,⟨dx,d1,d2,w,wt,X,rfl⟩,hk,hb,hpl,hv,hn,q⟩
 have hkp:=cW s.ps
 have hgd:s.cs.getD k ("",0)=s.cs[k]:=by rw[QD,Qj hk];rfl
 unfold eS
 walk_at "q"
 walk_at "z"
 refine bW X.at_ C.aJ C.bJ dM ?_
 walk_at "z"
 refine⟨d2,_,rfl,X.p2,fun l0 f0=>?_⟩
 have s1:av H (upd H l0 (.lst ((eD s.cs).map fun p=>kV p.1))):=av.updN f0
 have h1:upd H l0 (.lst ((eD s.cs).map fun p=>kV p.1)) l0=some (.lst ((eD s.cs).map fun p=>kV p.1)):=ax
 generalize upd H l0 (.lst ((eD s.cs).map fun p=>kV p.1))=H1 at *
 walk_at "z"
 refine cz (aY.of h1) (v:=.str (s.cs.getD k ("",0)).1) (bM (by rw[Se,jk (Qj hk),hgd];rfl)) ?_
 walk_at "z"
 have X1:=X.same s1
 have hb1:=s1 _ _ hb
 walk_at "q"
 with_reducible refine Fk ?_
 refine FX (K:=K) (d:=d1) (l:=b) (kvs:=eD s.ps) (ys:=paid.map V.int) ?_ X1.p1 (aY.of hb1) (aK X1.p1 hb1 (by simp)) fun o Hf F=>?_
 ·intro kk hkk
  walk_at "z"
  refine bW X1.at_ C.aJ C.aS cj ?_
  walk_at "z"
  exact hkk
 refine zM F X1.p1 (KY (K:=K) (ys:=paid.map V.int) 0 1 (fun i=>.str (s.ps.getD i ("",0)).1) ?_ (by rw[hkp,P7,hpl];exact Qe _)) (fun i=>[some (.str (s.ps.getD i ("",0)).1),some ((paid.map V.int).getD i .non)]) (by rintro j σ' (rfl|⟨k,rfl⟩)<;>rfl)
  (fun H' h sx=>⟨h,aY.of (sx b _ (aK X1.p1 hb1 (by simp)).symm hb1)⟩) (by rw[hkp];exact P6 (show _<=1000 by omega) bo) (fun i=>decide (0<paid.getD i 0)) (fun i=>.tup [.str (s.ps.getD i ("",0)).1,.int (paid.getD i 0)]) ?_ ?_ ?_
 ·intro i p hp'
  have hi:i<s.ps.length:=by rw[<-hkp];exact(QN.mp hp').1
  rw[jk (Qj hi)]at hp'
  cases hp'
  rw[QD,Qj hi]
  rfl
 ·intro i hi H' G sx kk
  rw[hkp]at hi
  have e:(paid.map V.int).getD i .non=.int (paid.getD i 0):=by simp[Qm,show i<paid.length by omega]
  rw[e]
  walk_at "z"
  exact kk H' (av.refl _)
 ·intro i hi hb' H' G sx kk
  rw[hkp]at hi
  have e:(paid.map V.int).getD i .non=.int (paid.getD i 0):=by simp[Qm,show i<paid.length by omega]
  rw[e]
  walk_at "z"
  rename_i a H'' f s'' h
  exact kk a H'' f s'' h
 intro r bs H2 f2 s2 h2 pr
 rw[hkp]at pr
 have X2:=X1.same s2
 walk_at "z"
 refine bW X2.at_ C.aJ C.bJ dM ?_
 walk_at "z"
 refine IG X2.p2 (v:=.int (s.cs.getD k ("",0)).2) (nR X.nd2 (getD_mem _ hk)) ?_
 walk_at "z"
 rename_i t H3 f3 s3 h3
 refine q t r H3 (s1.free (s2.free f3)) (s1.free f2) (fun e=>by rw[e,h2]at f3;cases f3) ((s1.trans s2).trans s3) h3 ⟨bs,s3 _ _ h2,?_⟩
 have e:(bK s (k,L,paid)).2.2=((P4 s.ps.length).filter fun i=>decide (0<paid.getD i 0)).map fun i=>((s.ps.getD i ("",0)).1,paid.getD i 0):=by
  show((s.ps.map (·.1)).zip paid).filter (fun p=>decide (0<p.2))=_
  have hz:((s.ps.map (·.1)).zip paid)=(P4 s.ps.length).map fun i=>((s.ps.getD i ("",0)).1,paid.getD i 0):=by
   apply SI (by simp;omega)
   intro i g1 g2
   have gi:i<s.ps.length:=by simpa using g2
   simp[QD,gi,show i<paid.length by omega]
  rw[hz,U0]
  rfl
 rw[e]
 exact eX (Paired.mapP pr fun i a z=>⟨s1.free z.1,s3 _ _ z.2.2⟩)
theorem oE(C:gY K):∀vs H Q E,cM K vs H Q E->eA K E {nx:=fun _ H'=>Q .non H',rt:=Q} (start ["self","work"] vs) H:=by
 rintro vs H Q E ⟨_,c,n,fp,s,rfl,⟨dx,d1,d2,w,wt,x,rfl⟩,h⟩
 unfold eA
 walk_at "z"
 refine bW x.at_ C.aJ C.bJ dM ?_
 refine FO x.p2 ?_
 rcases h with⟨hn,q⟩|⟨hn,hz,q⟩
 ·obtain⟨p,hp,rfl⟩:=P9.mp hn
  rw[nR x.nd2 (show(p.1,p.2)∈s.cs from hp)]
  walk_at "z"
  exact q
 ·rw[nV hn]
  walk_at "z"
  obtain⟨n1,n2,n3⟩:=wu hz (show(Qp++("no work: ":PH)).length=9 by decide +kernel) (by decide)
  exact⟨_,rfl,n1,_,rfl,n,rfl,n2,_,rfl,n3,n3,(by decide:1<=PZ),q _ (av.refl _)⟩
theorem rq(C:gY K):∀vs H Q E,dW K vs H Q E->fD K E {nx:=fun _ H'=>Q .non H',rt:=Q} (start ["self","work"] vs) H:=by
 rintro vs H Q E ⟨_,c,n,fp,s,rfl,⟨dx,d1,d2,w,wt,X,rfl⟩,hw,qn,qe⟩
 unfold fD
 walk_at "q"
 walk_at "z"
 refine cC X.at_ (dy (by decide +kernel)) ?_
 walk_at "z"
 by_cases hin:n∈s.cs.map (·.1)
 rotate_left
 ·exact⟨rfl,c,n,_,s,rfl,⟨dx,d1,d2,w,wt,X,rfl⟩,.inr ⟨hin,qe _ (by rw[cq.due,if_neg hin])⟩⟩
 have q:=qn (by rw[cq.due,if_pos hin])
 have hm:=qf hin
 generalize vP s.cs n=x at *
 refine⟨rfl,c,n,_,s,rfl,⟨dx,d1,d2,w,wt,X,rfl⟩,.inl ⟨hin,?_⟩⟩
 walk_at "z"
 walk_at "q"
 walk_at "z"
 refine bW X.at_ C.aJ C.bJ dM ?_
 exists d2,rfl,.inl ⟨_,.inl X.p2⟩
 walk_at "z"
 exists _,.inr n,.int x,X.p2,rfl,nR X.nd2 hm
 rw[C8]
 have X2:=X.setC (cs:=s.cs.filter fun p=>decide (p.1≠n)) (rJ X.nd2)
 have b1:b7 [c,d1,d2,w] H (upd H d2 (.dK (eD (s.cs.filter fun p=>decide (p.1≠n))))):=b7.upd X.p2 (by intro xs z;cases z) (by simp)
 generalize upd H d2 (.dK (eD (s.cs.filter fun p=>decide (p.1≠n))))=H2 at *
 walk_at "z"
 refine bW X2.at_ C.aJ C.bQ fZ ?_
 exists w,rfl,⟨_,aY.of X2.w_⟩
 have hwl:s.ws.length=wt.length:=Qw X.wt
 refine nP (vS (K:=K) (a:=w) (ts:=wt) (u:=fun i=>.str (s.ws.getD i ("","")).1) (v:=fun i=>.str (s.ws.getD i ("","")).2) 0 1) (fun i=>[some (.str (s.ws.getD i ("","")).1),some (.str (s.ws.getD i ("","")).2),some (.str n)]) (by rintro j σ' (rfl|⟨k,rfl⟩)<;>rfl) ?_ (P6 (show _<=1000 by omega) bo)
  (fun i=>!decide ((s.ws.getD i ("","")).2=n)) (fun i=>[.str (s.ws.getD i ("","")).1,.str (s.ws.getD i ("","")).2]) ?_ ?_ ?_
 ·intro H' s'
  refine⟨s'.seq (aY.of X2.w_),fun i b hb=>?_⟩
  have hi:i<s.ws.length:=by rw[hwl];exact(QN.mp hb).1
  obtain⟨b',z1,z2⟩:=gx X2.wt (Qj hi)
  rw[hb]at z1
  cases z1
  rw[QD,Qj hi]
  exact s'.seqT (kN.of z2)
 ·intro i hi H' G s' kk
  walk_at "z"
  exact kk H' (av.refl _)
 ·intro i hi hb H' G s' kk
  walk_at "z"
  rename_i a H'' f s'' h
  exact kk a H'' f s'' h
 intro l bs H3 f3 s3 h3 pr
 have X3:=X2.same s3
 rw[<-hwl]at pr
 have hp:Qd (Br H3) (s.ws.filter fun p=>!decide (p.2=n)) bs:=by
  rw[<-iN (fun p:PH×PH=>!decide (p.2=n)) ("","") s.ws]
  exact eX pr
 walk_at "z"
 refine lP X3.at_ C.aJ C.bQ (show 6<1000 by decide) ?_
 rw[sL]
 have X4:=X3.setW h3 hp
 refine q _ [c,d1,d2,l] ⟨dx,d1,d2,l,bs,X4,rfl⟩ ((b1.trans (b7.of s3)).trans (b7.upd X3.at_ (by intro xs z;cases z) (by simp))) ?_
 intro a ha
 simp only[Qa,Rf,or_false]at ha
 rcases ha with rfl|rfl|rfl|rfl
 ·exact .inl (by simp)
 ·exact .inl (by simp)
 ·exact .inl (by simp)
 ·exact .inr (b1.2.2 _ f3)
theorem u9(C:gY K):∀vs H Q E,iU K vs H Q E->iE K {nx:=fun _ H'=>Q .non H',rt:=Q} (start ["self","grains","purses","wishes","steps","told","name","cost","rows"] vs) H:=by
 rintro vs H Q E ⟨_,c,fp,s,rfl,CH,G,qa,qb⟩
 obtain⟨dx,d1,d2,w,wt,X,rfl⟩:=id CH
 have hkp:=cW s.ps
 have hkc:=cW s.cs
 have hv:=G.v20
 have hn:=G.n12
 obtain⟨g0,gH⟩:=Ll ⟨hv,hn⟩
 unfold iE
 walk_at "q"
 walk_at "z"
 refine bW X.at_ C.aJ C.aS cj ?_
 exists d1,_,rfl,X.p1
 by_cases hp:s.ps=[]
 ·rw[show(!(eD s.ps).isEmpty)=false by rw[hp];rfl]
  walk_at "z"
  rename_i l H1 f1 s1 h1 t H2 f2 s2 h2
  exact qa (.inl hp) t l H2 (s1.free f2) f1 (fun e=>by rw[e,h1]at f2;cases f2) (s1.trans s2) h2 (s2 _ _ h1)
 have hpos:0<s.ps.length:=TM.mpr hp
 have e:(!(eD s.ps).isEmpty)=true:=by
  cases hh:s.ps with
  |nil=>exact absurd hh hp
  |cons=>rfl
 rw[e]
 walk_at "z"
 refine bW X.at_ C.aJ C.bJ dM ?_
 exists d2,_,rfl,X.p2
 by_cases hc:s.cs=[]
 ·rw[show(!(eD s.cs).isEmpty)=false by rw[hc];rfl]
  walk_at "z"
  rename_i l H1 f1 s1 h1 t H2 f2 s2 h2
  exact qa (.inr hc) t l H2 (s1.free f2) f1 (fun e=>by rw[e,h1]at f2;cases f2) (s1.trans s2) h2 (s2 _ _ h1)
 have e:(!(eD s.cs).isEmpty)=true:=by
  cases hh:s.cs with
  |nil=>exact absurd hh hc
  |cons=>rfl
 rw[e]
 have qb:=qb hp hc
 have GT:=G.town hp
 walk_at "z"
 walk_at "q"
 walk_at "z"
 refine bW X.at_ C.aJ C.aS cj ?_
 walk_at "z"
 refine xl X.p1 ?_
 rw[hkp]
 walk_at "z"
 refine bW X.at_ C.aJ C.bJ dM ?_
 walk_at "z"
 refine xl X.p2 ?_
 rw[hkc]
 walk_at "z"
 exists rfl,s.ps.length,s.cs.length,rfl,hpos,hv,hn
 rw[show((mT s.ps.length ^ (s.cs.length+1):Nat):Int)=(fc s:Int)from rfl]
 walk_at "z"
 walk_at "q"
 with_reducible refine Fk ?_
 refine Hn (d:=d1) (kvs:=eD s.ps) (fun k hk=>⟨_,rfl,bW X.at_ C.aJ C.aS cj hk⟩) X.p1 fun o Hf F=>?_
 refine y3 F X.p1 (Lu 0 (fun i=>.int (s.ps.getD i ("",0)).2) ?_) (fun i=>[some (.int (s.ps.getD i ("",0)).2),some (.int (fc s:Int))]) (by rintro j σ' (rfl|⟨k,rfl⟩)<;>rfl) (fun H' h _=>h) (by rw[hkp];exact P6 (show _<=1000 by omega) bo)
  (fun _=>true) (fun i=>.int ((s.ps.getD i ("",0)).2*(fc s:Int))) (fun i hi H' G s k=>k H' (av.refl _)) ?_ ?_
 ·intro i p hp'
  have hi:i<s.ps.length:=by rw[<-hkp];exact(QN.mp hp').1
  rw[jk (Qj hi)]at hp'
  cases hp'
  rw[QD,Qj hi]
  rfl
 ·intro i hi hb H' F' sx kk
  rw[hkp]at hi
  have hpi:=G.p0 _ (getD_mem (xs:=s.ps) ("",0) hi)
  walk_at "z"
  try refine JD (by omega) (by omega) ?_
  exact kk H' (av.refl _)
 intro la H1 f1 s1 h1
 rw[Sd.mpr (fun _ _=>rfl),hkp]at h1
 have e1:(P4 s.ps.length).map (fun i=>V.int ((s.ps.getD i ("",0)).2*(fc s:Int)))=(aH s).map V.int:=by
  unfold aH
  rw[Qn]
  exact bw (fun p:PH×Int=>V.int (p.2*(fc s:Int))) ("",0) s.ps
 rw[e1]at h1
 have X1:=X.same s1
 walk_at "q"
 with_reducible refine Fk ?_
 refine G9 (d:=d1) (kvs:=eD s.ps) (fun k hk=>⟨_,rfl,bW X1.at_ C.aJ C.aS cj hk⟩) X1.p1 fun o Hf F=>?_
 refine zM F X1.p1 (Fw 0 (fun i=>.str (s.ps.getD i ("",0)).1) ?_) (fun i=>[some (.str (s.ps.getD i ("",0)).1),some (.ref c)]) (by rintro j σ' (rfl|⟨k,rfl⟩)<;>rfl) (fun H' h _=>h) (by rw[hkp];exact P6 (show _<=1000 by omega) bo)
  (fun _=>true) (fun i=>.lst ((intsOf (BY s (s.ps.getD i ("",0)).1)).map V.int)) (fun i hi H' G s k=>k H' (av.refl _)) ?_ ?_
 ·intro i p hp'
  have hi:i<s.ps.length:=by rw[<-hkp];exact(QN.mp hp').1
  rw[jk (Qj hi)]at hp'
  cases hp'
  rw[QD,Qj hi]
  rfl
 ·intro i hi hb H' F' sx kk
  rw[hkp]at hi
  have hpi:=G.ap _ (getD_mem (xs:=s.ps) ("",0) hi)
  have n1:c≠d1:=aK X1.at_ X1.p1 (by simp)
  have n2:w≠d1:=aK X1.w_ X1.p1 (by simp)
  walk_at "z"
  refine cC (sx c _ n1 X1.at_) (dy (by decide +kernel)) ?_
  walk_at "z"
  refine⟨rfl,c,dx,d1,d2,w,_,wt,s,rfl,sx c _ n1 X1.at_,sx d2 _ (Qy X.ne) X1.p2,sx w _ n2 X1.w_,Paired.mapP X1.wt fun _ a z=>sx a _ (aK z X1.p1 (by simp)) z,hpi,G.ac,G.aw,by omega,fun l' H2 f2 s2 h2=>?_⟩
  exact kk l' H2 f2 s2 h2
 intro lb bs H2 f2 s2 h2 pr
 rw[Sd.mpr (fun _ _=>rfl),hkp]at pr
 have X2:=X1.same s2
 have hR:gL K H2 lb (a9 s):=by
  exists bs,aY.of h2
  unfold a9
  rw[<-bw (fun p:PH×Int=>intsOf (BY s p.1)) ("",0) s.ps]
  exact eX (Paired.mapP pr fun i a z=>aY.of z.2.2)
 walk_at "q"
 walk_at "z"
 refine bW X2.at_ C.aJ C.bJ dM ?_
 refine MP X2.p2 fun v H3 f3 s3 h3=>?_
 walk_at "z"
 refine⟨v,d2,_,rfl,h3,s3 _ _ X2.p2,fun lc f4=>?_⟩
 have e4:(eD s.cs).map (·.2)=(cc s).map V.int:=by unfold eD cc;rw[Qn,Qn];rfl
 rw[e4]
 have s4:av H3 (upd H3 lc (.lst ((cc s).map V.int))):=av.updN f4
 have h4:upd H3 lc (.lst ((cc s).map V.int)) lc=some (.lst ((cc s).map V.int)):=ax
 generalize upd H3 lc (.lst ((cc s).map V.int))=H4 at *
 have s24:=s3.trans s4
 walk_at "z"
 refine⟨rfl,la,lc,lb,aH s,cc s,a9 s,rfl,aY.of ((s2.trans s24) _ _ h1),aY.of h4,s24.rows hR,GT,fun ls H5 run f5 s5 n5 rx=>?_⟩
 have qb:=qb run
 have hst:=n5.at
 have hrw:=zd rx.run
 have hsl:(aT (a9 s) (aH s) run).length=run.length:=iK _ _ _
 have hs1:(aT (a9 s) (aH s) run).map (·.1)=run.map (·.1):=vR _ _ _
 have hcl:(cc s).length=s.cs.length:=by simp[cc]
 have hpl:(aH s).length=s.ps.length:=by simp[aH]
 have hrn:run.length<=s.cs.length:=by
  have:=ik s.cs.length (run.map (·.1)) hrw.2 (fun x hx=>by
   obtain⟨y,hy,rfl⟩:=P9.mp hx
   have:=(hrw.1 y hy).1
   rw[<-hcl];exact this)
  simpa using this
 have hst1:∀x∈aT (a9 s) (aH s) run,x.1<s.cs.length/\x.2.2.length=s.ps.length:=fun x hx=>by
  refine⟨?_,by rw[jy _ _ _ x hx,hpl]⟩
  have hm:x.1∈run.map (·.1):=by rw[<-hs1];exact P9.mpr ⟨x,hx,rfl⟩
  obtain⟨y,hy,e⟩:=P9.mp hm
  have:=(hrw.1 y hy).1
  rw[<-e,<-hcl];exact this
 have hnd:((aT (a9 s) (aH s) run).map (·.1)).Nodup:=by rw[hs1];exact hrw.2
 generalize aT (a9 s) (aH s) run=sts at *
 have s25:=s24.trans s5
 have s15:=s2.trans s25
 have s05:=s1.trans s15
 have X5:=X2.same s25
 obtain⟨ts,bs',B⟩:=hst.b
 walk_at "z"
 walk_at "q"
 walk_at "z"
 try refine fj (B.ys (av.refl _)).1 ?_
 refine gh (jU (K:=K) (a:=ls) (ts:=ts) (u:=fun i=>.int ((sts.getD i stN).1:Nat)) (v:=fun i=>.int (sts.getD i stN).2.1) (w:=fun i=>.ref (bs'.getD i 0)) 0 1 2) (fun j=>[some (.int ((sts.getD j stN).1:Nat)),some (.int (sts.getD j stN).2.1),some (.ref (bs'.getD j 0)),some (.ref c)]) (by rintro j σ' (rfl|⟨k,rfl⟩)<;>rfl) (fun H' s=>B.ys s) (by rw[B.tl];exact P6 (show sts.length<=1000 by omega) bo)
  (fun _=>true) (fun l i v H'=>∃t r us,v=V.ref t/\(t≠l/\r≠l/\H5 r=none)/\H' t=some (.tup [.str (bK s (sts.getD i stN)).1,.int (bK s (sts.getD i stN)).2.1,.ref r])/\H' r=some (.lst (Ry V.ref us))/\Qd (fun p b=>b≠l/\O2 H' p b) (bK s (sts.getD i stN)).2.2 us)
  (fun l i v Ha Hb sx ⟨t,r,us,e,n,h1,h2,h3⟩=>⟨t,r,us,e,n,sx _ _ n.1 h1,sx _ _ n.2.1 h2,Paired.mapP h3 fun _ b z=>⟨z.1,sx _ _ z.1 z.2⟩⟩) (fun i hi H' G s k=>k H' (av.refl _)) ?_ ?_
 ·intro l i hi _ H' F' h0 ⟨o,ho⟩ sx kk
  rw[B.tl]at hi
  have X6:=X5.same sx
  have hm:=hst1 _ (getD_mem stN hi)
  obtain⟨t',b',a1,a2,_,a4⟩:=B.ats i sts[i] (by simp[hi])
  have g1:sts.getD i stN=sts[i]:=by simp[Qm,hi]
  have g2:bs'.getD i 0=b':=by rw[Qm,a2];rfl
  simp only[g1]at hm kk ⊢
  rw[g2]
  walk_at "z"
  refine cC X6.at_ (dy (by decide +kernel)) ?_
  walk_at "z"
  refine⟨rfl,c,b',_,(sts[i]).2.1,(sts[i]).2.2,_,s,rfl,⟨dx,d1,d2,w,wt,X6,rfl⟩,hm.1,sx _ _ a4,hm.2,hv,hn,fun t r H7 ft fr ntr s7 h7 hr=>?_⟩
  obtain⟨us,hr1,hr2⟩:=hr
  have nl:∀{a:PK},H' a=none->a≠l:=fun {a} ha e=>by rw[e,ho]at ha;cases ha
  exact kk _ H7 ⟨t,r,us,rfl,⟨nl ft,nl fr,sx.free fr⟩,h7,hr1,Paired.mapP hr2 fun _ b z=>⟨nl z.1,z.2⟩⟩ s7
 intro l ys H6 f6 s6 h6 pr6
 rw[Sd.mpr (fun _ _=>rfl),B.tl]at pr6
 obtain⟨tt,e6,p6,q6⟩:=qr (P:=fun r=>r≠l/\H5 r=none) (f:=fun i=>bK s (sts.getD i stN)) (Paired.mapP pr6 fun i v ⟨t,r,us,e,n,h1,h2,h3⟩=>⟨t,r,e,n.2,h1,us,h2,Paired.mapP h3 fun _ _ z=>z.2⟩)
 rw[bw (bK s) stN sts]at p6
 subst e6
 have T6:oQ H6 l tt (sts.map (bK s)):=⟨h6,p6⟩
 have s06:=s05.trans s6
 have X6:=X5.same s6
 have hl0:H l=none:=s05.free f6
 have hlfp:l∉[c,d1,d2,w]:=fun m=>(aO.there ⟨dx,d1,d2,w,wt,X,rfl⟩:∀a∈[c,d1,d2,w],H a≠none) l m hl0
 have hrfp:∀t∈tt,∀y z r,H6 t=some (.tup [y,z,.ref r])->r∉[c,d1,d2,w]:=fun t ht y z r e m=>(aO.there ⟨dx,d1,d2,w,wt,X,rfl⟩:∀a∈[c,d1,d2,w],H a≠none) r m (s05.free (q6 t ht y z r e).2)
 walk_at "z"
 walk_at "q"
 walk_at "z"
 refine cC X6.at_ (dy (by decide +kernel)) ?_
 walk_at "z"
 refine⟨rfl,la,ls,aH s,sts,rfl,aY.of ((s15.trans s6) _ _ h1),kK s6 hst,by omega,by omega,fun x hx=>by rw[(hst1 x hx).2,hpl],fun ll H7 f7 s7 h7=>?_⟩
 have X7:=X6.same s7
 have s67:=s7
 walk_at "z"
 have hlo:(bL (aH s) sts).length=s.ps.length:=by simp[bL,hpl]
 refine⟨rfl,c,ll,(fc s:Int),bL (aH s) sts,_,s,rfl,⟨dx,d1,d2,w,wt,X7,rfl⟩,h7,g0,gH,hlo,hv,fun H8 fp8 x8 b8 n8=>?_⟩
 rw[<-D0]at x8
 walk_at "z"
 have b68:b7 [c,d1,d2,w] H6 H8:=(b7.of s7).trans b8
 have n68:ji [c,d1,d2,w] fp8 H6:=fun a ha=>by
  rcases n8 a ha with z|z
  ·exact .inl z
  ·exact .inr (s7.free z)
 obtain⟨rs,hys⟩:=T6.ys (K:=K)
 generalize hLf:bL (aH s) sts=left at *
 have htl:tt.length=sts.length:=by rw[<-Qw p6,P7]
 walk_at "q"
 walk_at "z"
 try refine fj (hys _ _ b68 hlfp).1 ?_
 refine sy (jU (K:=K) (a:=l) (ts:=tt) (u:=fun i=>.str ((sts.map (bK s)).getD i Me).1) (v:=fun i=>.int ((sts.map (bK s)).getD i Me).2.1) (w:=fun i=>.ref (rs.getD i 0)) 6 7 8)
  (fun i σ H'=>(∃fpi,aO K H' c fpi (cQ s left (fc s) ((sts.map (bK s)).take i))/\ji [c,d1,d2,w] fpi H6)/\b7 [c,d1,d2,w] H6 H'/\∃v6 v7 v8,σ=[some (.ref c),some (.int (fc s:Int)),some (.ref la),some (.ref lb),some (.ref ls),some (.ref l),v6,v7,v8])
  ⟨⟨fp8,x8,n68⟩,b68,_,_,_,rfl⟩ (fun i σ H' p=>hys _ _ p.2.1 hlfp) ?_ ?_
 ·rintro i σ Ha Hb hi ⟨⟨fpi,xa,na⟩,ba,v6,v7,v8,rfl⟩ sb
  rw[htl]at hi
  have bb:b7 [c,d1,d2,w] H6 Hb:=ba.trans (b7.of sb)
  have xb:=xa.same sb
  have hil:i<(sts.map (bK s)).length:=by rw[P7];exact hi
  have gi:(sts.map (bK s)).getD i Me=bK s (sts.getD i stN):=by simp[Qm,hi]
  rw[gi]
  obtain⟨dx',a1,a2,a3,at',XX,efp⟩:=id xb
  show aE _ _ _ _ _
  walk_at "q"
  walk_at "z"
  refine yU XX.at_ C.aJ C.jb zc ?_
  walk_at "z"
  exists _,_,rfl,rfl,dx',_,XX.at_,(show 6<1000 by decide)
  rw[Hm]
  have XY:=XX.setF (a:=(cQ s left (fc s) ((sts.map (bK s)).take i)).pot) (b:=(cQ s left (fc s) ((sts.map (bK s)).take i)).giv) (e:=(cQ s left (fc s) ((sts.map (bK s)).take i)).spt+(bK s (sts.getD i stN)).2.1)
  have by':b7 fpi Hb (upd Hb c (.ins (ao K "Chest") dx' (gN a1 a2 a3 (cQ s left (fc s) ((sts.map (bK s)).take i)).pot (cQ s left (fc s) ((sts.map (bK s)).take i)).giv ((cQ s left (fc s) ((sts.map (bK s)).take i)).spt+(bK s (sts.getD i stN)).2.1)))):=b7.upd XX.at_ (by intro xs z;cases z) (by rw[efp];simp)
  generalize upd Hb c (.ins (ao K "Chest") dx' (gN a1 a2 a3 (cQ s left (fc s) ((sts.map (bK s)).take i)).pot (cQ s left (fc s) ((sts.map (bK s)).take i)).giv ((cQ s left (fc s) ((sts.map (bK s)).take i)).spt+(bK s (sts.getD i stN)).2.1)))=Hc at *
  have hm:=hst1 _ (getD_mem stN hi)
  have hgd:s.cs.getD (sts.getD i stN).1 ("",0)∈s.cs:=getD_mem _ hm.1
  walk_at "z"
  refine cC XY.at_ (dy (by decide +kernel)) ?_
  walk_at "z"
  have hmemw:((bK s (sts.getD i stN)).1,(bK s (sts.getD i stN)).2.1)∈(cQ s left (fc s) ((sts.map (bK s)).take i)).cs:=by
   show _∈s.cs.filter _
   refine QL.mpr ⟨hgd,?_⟩
   rw[decide_eq_true_eq]
   intro m
   rw[<-UB,Qn]at m
   obtain⟨x,hx,ex⟩:=P9.mp m
   obtain⟨j,hj,ej⟩:=Tq hx
   have hj':j<i/\j<sts.length:=by rw[QY]at hj;omega
   rw[VJ]at ej
   have hmj:=hst1 x (Sl hx)
   have ex:(s.cs.getD x.1 ("",0)).1=(s.cs.getD (sts.getD i stN).1 ("",0)).1:=ex
   have e1:=J0 X.nd2 hmj.1 hm.1 ex
   have g1:sts.getD i stN=sts[i]:=by simp[Qm,hi]
   have:=T4.mp hnd j i (by simp;omega) (by simp;omega) hj'.1
   simp only[Vp]at this
   rw[ej,<-g1]at this
   exact this e1
  have hdw:(cq.withdraw (bK s (sts.getD i stN)).1).due {cQ s left (fc s) ((sts.map (bK s)).take i)with spt:=(cQ s left (fc s) ((sts.map (bK s)).take i)).spt+(bK s (sts.getD i stN)).2.1}=none:=by
   rw[cq.due,if_pos]
   exact P9.mpr ⟨_,hmemw,rfl⟩
  refine⟨rfl,c,(bK s (sts.getD i stN)).1,fpi,_,rfl,⟨dx',a1,a2,a3,at',XY,efp⟩,P6 (RB _ _) (by have:=G.wl;omega),fun _ Hd fpd xd bd nd'=>?_,fun cl e=>by rw[hdw]at e;cases e⟩
  have et:(sts.map (bK s)).take (i+1)=(sts.map (bK s)).take i++[bK s (sts.getD i stN)]:=by
   rw[Us,<-gi,QD,Qj hil]
   rfl
  walk_at "z"
  have bad:b7 [c,d1,d2,w] H6 Hd:=by
   refine⟨fun a o n h=>?_,fun a xs h=>bd.2.1 _ _ (by'.2.1 _ _ (bb.2.1 _ _ h)),fun a h=>bb.2.2 _ (by'.2.2 _ (bd.2.2 _ h))⟩
   have n2:a∉fpi:=fun m=>by
    rcases na a m with z|z
    ·exact n z
    ·rw[h]at z;cases z
   exact bd.1 _ _ n2 (by'.1 _ _ n2 (bb.1 _ _ n h))
  refine⟨⟨fpd,?_,fun a ha=>?_⟩,bad,_,_,_,rfl⟩
  ·rw[et,BH]
   exact xd
  ·rcases nd' a ha with z|z
   ·exact na a z
   ·exact .inr (bb.2.2 _ (by'.2.2 _ z))
 ·rintro σ Ha ⟨⟨fpi,xa,na⟩,ba,v6,v7,v8,rfl⟩
  rw[htl,RI (by simp)]at xa
  have tot:∀a∈fpi,a∈[c,d1,d2,w]\/H6 a=none:=na
  have n1:∀{a:PK}{o:HO},H a=none->H6 a=some o->a∉fpi:=fun {a o} h0 h1 m=>by
   rcases na a m with z|z
   ·exact(aO.there ⟨dx,d1,d2,w,wt,X,rfl⟩:∀a∈[c,d1,d2,w],H a≠none) a z h0
   ·rw[h1]at z;cases z
  walk_at "z"
  rename_i t H9 f9 s9 h9
  have T9:=T6.but (ba.trans (b7.of s9)) hlfp hrfp
  refine qb t l tt H9 fpi rx (((b7.of s06).trans ba).trans (b7.of s9)) (fun a ha=>?_) (xa.same s9) (s06.free (ba.2.2 _ f9)) hl0 (n1 hl0 h6) h9 T9 fun t' ht y z r e=>?_
  ·rcases na a ha with z|z
   ·exact .inl z
   ·exact .inr (s06.free z)
  ·have e6:=T6.tup (ba.trans (b7.of s9)) t' ht y z r e
   obtain⟨q1,q2⟩:=q6 t' ht y z r e6
   exists q1,s05.free q2
   obtain⟨o,ho⟩:∃o,H6 r=some o:=by
    have:∀{rows:List jj}{ts:List PK},Qd (Mm H6) rows ts->t'∈ts->∃o,H6 r=some o:=by
     intro rows ts hh hm
     induction hh with
     |nil=>cases hm
     |cons q _ ih=>
      rcases Qa.mp hm with rfl|hm
      ·obtain⟨r',g1,us,g2,_⟩:=q
       rw[g1]at e6
       injection e6 with e6
       injection e6 with e6
       simp at e6
       rw[<-e6.2.2]
       exact⟨_,g2⟩
      ·exact ih hm
    exact this p6 ht
   exact n1 (s05.free q2) ho
theorem z0:∀vs H Q E,kY K vs H Q E->kJ K {nx:=fun _ H'=>Q .non H',rt:=Q} (start ["rows"] vs) H:=by
 rintro vs H Q E ⟨_,l,rs,rfl,⟨ts,v1,v2⟩,hr,hs,q⟩
 have hsz:=size_eq
 obtain⟨ec,es,e1,e2,eo,ep,em,e0⟩:=dU
 have hvl:rs.length=ts.length:=Qw v2
 unfold kJ
 walk_at "z"
 try refine fj (aY.of v1) ?_
 refine bD (vS (K:=K) (a:=l) (ts:=ts) (u:=fun i=>.str (rs.getD i ("",0)).1) (v:=fun i=>.int (rs.getD i ("",0)).2) 0 1) (fun i=>[some (.str (rs.getD i ("",0)).1),some (.int (rs.getD i ("",0)).2)]) (by rintro j σ' (rfl|⟨k,rfl⟩)<;>rfl) ?_ (P6 (show _<=1000 by omega) bo)
   (fun i=>.str (xH (rs.getD i ("",0)))) ?_ ?_
 ·intro H' s'
  refine⟨s'.seq (aY.of v1),fun i b hb=>?_⟩
  have hi:i<rs.length:=by rw[hvl];exact(QN.mp hb).1
  obtain⟨b',z1,z2⟩:=gx v2 (Qj hi)
  rw[hb]at z1
  cases z1
  rw[QD,Qj hi]
  exact s'.seqT (kN.of z2)
 ·intro i hi H' G s' kk
  have hm:=getD_mem (xs:=rs) ("",0) (show i<rs.length by omega)
  have hb:=hs _ hm
  have hln:=hb.2.len
  have hlx:(rs.getD i ("",0)).1.length<=8:=hb.1
  have hrow:=wo hb.1 hb.2
  walk_at "z"
  refine⟨_,rfl,_,rfl,by omega,_,rfl,?_,_,rfl,?_,_,rfl,_,rfl,hb.2.log,_,rfl,?_,?_,kk H' (av.refl _)⟩
  ·rw[Qv];omega
  ·rw[Qv,Qv];omega
  ·show(xH _).length<=_;omega
  ·show(xH _).length<=_;omega
 intro l7 H7 f7 s7 h7
 rw[<-hvl,bw (fun p:PH×Int=>V.str (xH p)) ("",0) rs,show rs.map (fun p=>V.str (xH p))=(rs.map xH).map V.str by rw[Qn];rfl]at h7
 walk_at "z"
 refine pA 609 (aY.of h7) (fun x hx=>?_) ?_ ?_
 ·obtain⟨p,hp,rfl⟩:=P9.mp hx
  exact wo (hs p hp).1 (hs p hp).2
 ·rw[P7,ec]
  have:rs.length*(609+2)<=20*611:=SD _ hr
  omega
 ·exact q H7 s7
theorem Ap:∀vs H Q E,kr K vs H Q E->k7 K {nx:=fun _ H'=>Q .non H',rt:=Q} (start ["work","cost","rows","payers"] vs) H:=by
 rintro vs H Q E ⟨_,l,r,rfl,h1,hx,hc,hr,hs,q⟩
 have hsz:=size_eq
 obtain⟨ec,es,e1,e2,eo,ep,em,e0⟩:=dU
 unfold k7
 walk_at "q"
 walk_at "z"
 refine⟨rfl,l,r.2.2,rfl,h1,hr,hs,fun H1 s1=>?_⟩
 have hln:=hc.len
 have hlx:r.1.length<=8:=hx
 have hpl:=yS hr hs
 have hd:=zt hx hc hr hs
 walk_at "z"
 refine⟨_,rfl,_,rfl,by omega,_,rfl,?_,_,rfl,?_,_,rfl,_,rfl,hc.log,_,rfl,?_,_,rfl,?_,_,rfl,_,rfl,by omega,_,rfl,?_,?_,q H1 s1⟩
 ·rw[Qv];omega
 ·rw[Qv,Qv];omega
 ·show(Qp++r.1++(" ":PH)++iT r.2.1).length<=_
  simp only[Qv];omega
 ·show(Qp++r.1++(" ":PH)++iT r.2.1++(": ":PH)).length<=_
  simp only[Qv];omega
 ·show(jW r).length<=_;omega
 ·show(jW r).length<=_;omega
theorem uL:∀vs H Q E,gI K vs H Q E->gO K {nx:=fun _ H'=>Q .non H',rt:=Q} (start ["done","grains","told"] vs) H:=by
 rintro vs H Q E ⟨_,l,ts,rs,g,rfl,⟨v1,v2⟩,hr,hg,hs,q⟩
 have hsz:=size_eq
 obtain⟨ec,es,e1,e2,eo,ep,em,e0⟩:=dU
 have hvl:rs.length=ts.length:=Qw v2
 unfold gO
 walk_at "q"
 walk_at "z"
 exists _,rfl,l,_,rfl,aY.of v1
 by_cases hn:rs=[]
 ·have hz:ts=[]:=Ud.mp (by rw[<-hvl,hn];rfl)
  rw[hz,show(!(Ry V.ref ([]:List PK)).isEmpty)=false from rfl]
  walk_at "z"
  have e:rH rs g="none":=if_pos hn
  rw[<-e]
  exact q _ (av.refl _)
 have hz:(!(Ry V.ref ts).isEmpty)=true:=by
  cases ts with
  |nil=>exact absurd (Ud.mp hvl) hn
  |cons=>rfl
 rw[hz]
 walk_at "z"
 walk_at "q"
 walk_at "z"
 try refine fj (aY.of v1) ?_
 have pick:∀i:Nat,∃a:PK,∀t,ts[i]?=some t->H t=some (.tup [.str (rs.getD i ("",0,[])).1,.int (rs.getD i ("",0,[])).2.1,.ref a])/\mD H a (rs.getD i ("",0,[])).2.2:=fun i=>by
  by_cases hi:i<rs.length
  ·obtain⟨b',z1,a,z2,z3⟩:=gx v2 (Qj hi)
   refine⟨a,fun t ht=>?_⟩
   rw[z1]at ht
   cases ht
   rw[QD,Qj hi]
   exact⟨z2,z3⟩
  ·refine⟨0,fun t ht=>?_⟩
   have:=(QN.mp ht).1
   omega
 obtain⟨la,hla⟩:=Wx pick
 refine bD (jU (K:=K) (a:=l) (ts:=ts) (u:=fun i=>.str (rs.getD i ("",0,[])).1) (v:=fun i=>.int (rs.getD i ("",0,[])).2.1) (w:=fun i=>.ref (la i)) 0 1 2) (fun i=>[some (.str (rs.getD i ("",0,[])).1),some (.int (rs.getD i ("",0,[])).2.1),some (.ref (la i))]) (by rintro j σ' (rfl|⟨k,rfl⟩)<;>rfl) ?_ (P6 (show _<=1000 by omega) bo)
   (fun i=>.str (jW (rs.getD i ("",0,[])))) ?_ ?_
 ·intro H' s'
  exact⟨s'.seq (aY.of v1),fun i b hb=>s'.seqT (kN.of (hla i b hb).1)⟩
 ·intro i hi H' G s' kk
  have hm:=getD_mem (xs:=rs) ("",0,[]) (show i<rs.length by omega)
  obtain⟨b1,b2,b3,b4⟩:=hs _ hm
  walk_at "z"
  exact⟨rfl,la i,rs.getD i ("",0,[]),rfl,(hla i ts[i] (Qj hi)).2.same s',b1,b2,b3,b4,fun H'' s''=>kk H'' s''⟩
 intro l7 H7 f7 s7 h7
 rw[<-hvl,bw (fun p:jj=>V.str (jW p)) ("",0,[]) rs,show rs.map (fun p=>V.str (jW p))=(rs.map jW).map V.str by rw[Qn];rfl]at h7
 have hmx:∀x∈rs.map jW,x.length<=12840:=fun x hx=>by
  obtain⟨p,hp,rfl⟩:=P9.mp hx
  obtain⟨b1,b2,b3,b4⟩:=hs p hp
  exact zt b1 b2 b3 b4
 have hml:(rs.map jW).length*(12840+("; ":PH).length)<=154104:=by
  rw[P7,es]
  have:rs.length*(12840+2)<=12*12842:=SD _ hr
  omega
 have hjl:=P6 (j0 (sep:="; ") hmx) hml
 walk_at "z"
 refine pA 12840 (aY.of h7) hmx (by omega) ?_
 walk_at "z"
 have e:rH rs g=Qp++QO "; " (rs.map jW)++" of "++iT g:=if_neg hn
 have hgl:=hg.len
 have hcl:(rH rs g).length<=16777216:=by rw[e];simp only[Qv];omega
 rw[e]at hcl q
 refine⟨_,rfl,_,rfl,by omega,_,rfl,?_,_,rfl,?_,_,rfl,_,rfl,hg.log,_,rfl,?_,?_,q H7 s7⟩
 ·rw[Qv];omega
 ·rw[Qv,Qv];omega
 ·rw[hsz];exact hcl
 ·rw[hsz];exact hcl
theorem w9:∀vs H Q E,jd K vs H Q E->iL K {nx:=fun _ H'=>Q .non H',rt:=Q} (start ["chest","closing"] vs) H:=by
 rintro vs H Q E ⟨_,c,fp,s,rfl,CH,G,q⟩
 obtain⟨dx,d1,d2,w,wt,X,efp⟩:=id CH
 unfold iL
 walk_at "q"
 walk_at "z"
 refine cC X.at_ (dy (by decide +kernel)) ?_
 walk_at "z"
 refine⟨rfl,c,fp,s,rfl,CH,G.g,fun hno t l H1 ft fl tl s1 ht hl=>?_,fun hp hc run t l ts H1 fp1 rx b1 n1 c1 ft fl lf ht hl nr=>?_⟩
 ·have e1:lj s=s:=if_pos hno
  have e2:sR s="none":=if_pos hno
  rw[e1,e2]at q
  walk_at "z"
  refine Fg (kN.of ht) (bM (j:=0) rfl) ?_
  walk_at "z"
  refine Fg (kN.of ht) (bM (j:=1) rfl) ?_
  walk_at "z"
  refine⟨rfl,l,[],[],1,rfl,⟨hl,.nil⟩,Q3 _,nB (by decide) (by decide),(fun r hr=>by cases hr),fun H2 s2=>?_⟩
  rw[show rH [] 1="none" from if_pos rfl]
  exact q H2 fp (CH.same (s1.trans s2)) (b7.of (s1.trans s2)) ji.refl
 ·have hno:¬(s.ps=[]\/s.cs=[]):=fun z=>by rcases z with z|z;exact hp z;exact hc z
  have er:=vf rx
  have e1:lj s=dS s run:=by rw[<-er];exact if_neg hno
  have e2:sR s=rH ((aT (a9 s) (aH s) run).map (bK s)) (fc s):=by
   rw[<-er];exact if_neg hno
  rw[e1,e2]at q
  walk_at "z"
  refine Fg (kN.of ht) (bM (j:=0) rfl) ?_
  walk_at "z"
  refine Fg (kN.of ht) (bM (j:=1) rfl) ?_
  walk_at "z"
  have hrb:=iQ rx
  refine⟨rfl,l,ts,_,_,rfl,hl,by rw[P7];exact P6 hrb.1 G.g.n12,NV G.g,FE G rx,fun H2 s2=>?_⟩
  exact q H2 fp1 (c1.same s2) (b1.trans (b7.of s2)) n1
theorem As:∀vs H Q E,kx K vs H Q E->ky K {nx:=fun _ H'=>Q .non H',rt:=Q} (start ["work","cost","wanters","names"] vs) H:=by
 rintro vs H Q E ⟨_,l,r,rfl,h1,hx,hc,hr,hs,q⟩
 have hsz:=size_eq
 obtain⟨ec,es,e1,e2,eo,ep,em,e0⟩:=dU
 have hln:=hc.len
 have hlx:r.1.length<=8:=hx
 have hpl:=xo hr hs
 have hd:=y8 hx hc hr hs
 unfold ky
 with_reducible refine Ox (fun σ H'=>av H H'/\σ=[some (.str r.1),some (.int r.2.1),some (.ref l),some (.str (xA r.2.2))]) (fun F hF=>?_) ?_
 ·walk_at "z"
  cases hn:r.2.2 with
  |nil=>
   exists _,rfl,l,_,rfl,h1
   rw[hn]
   walk_at "z"
   refine hF _ _ ⟨av.refl _,?_⟩
   rw[hn]
   rfl
  |cons a t=>
   exists _,rfl,l,_,rfl,h1
   rw[hn,show(!(Ry V.str (a::t)).isEmpty)=true from rfl]
   walk_at "z"
   rw[hn]at h1 hs hr
   refine pA 8 h1 hs ?_ ?_
   ·rw[ep]
    have:(a::t).length*(8+1)<=20*9:=SD _ hr
    omega
   ·walk_at "z"
    refine hF _ _ ⟨av.refl _,?_⟩
    rw[hn]
    rfl
 rintro σ H1 ⟨s1,rfl⟩
 walk_at "z"
 refine⟨_,rfl,_,rfl,by omega,_,rfl,?_,_,rfl,?_,_,rfl,_,rfl,hc.log,_,rfl,?_,_,rfl,?_,_,rfl,_,rfl,by omega,_,rfl,?_,?_,q H1 s1⟩
 ·rw[Qv];omega
 ·rw[Qv,Qv];omega
 ·show(Qp++r.1++(" ":PH)++iT r.2.1).length<=_
  simp only[Qv];omega
 ·show(Qp++r.1++(" ":PH)++iT r.2.1++(" ":PH)).length<=_
  simp only[Qv];omega
 ·show(nC r).length<=_;omega
 ·show(nC r).length<=_;omega
theorem yM:∀vs H Q E,jD K vs H Q E->jO K {nx:=fun _ H'=>Q .non H',rt:=Q} (start ["works"] vs) H:=by
 rintro vs H Q E ⟨_,l,ts,rs,rfl,⟨v1,v2⟩,hr,hs,q⟩
 have hsz:=size_eq
 obtain⟨ec,es,e1,e2,eo,ep,em,e0⟩:=dU
 have hvl:rs.length=ts.length:=Qw v2
 unfold jO
 walk_at "q"
 walk_at "z"
 exists _,rfl,l,_,rfl,aY.of v1
 by_cases hn:rs=[]
 ·have hz:ts=[]:=Ud.mp (by rw[<-hvl,hn];rfl)
  rw[hz,show(!(Ry V.ref ([]:List PK)).isEmpty)=false from rfl]
  walk_at "z"
  have e:rT rs="none":=if_pos hn
  rw[<-e]
  exact q _ (av.refl _)
 have hz:(!(Ry V.ref ts).isEmpty)=true:=by
  cases ts with
  |nil=>exact absurd (Ud.mp hvl) hn
  |cons=>rfl
 rw[hz]
 walk_at "z"
 try refine fj (aY.of v1) ?_
 have pick:∀i:Nat,∃a:PK,∀t,ts[i]?=some t->H t=some (.tup [.str (rs.getD i ("",0,[])).1,.int (rs.getD i ("",0,[])).2.1,.ref a])/\H a=some (.lst ((rs.getD i ("",0,[])).2.2.map V.str)):=fun i=>by
  by_cases hi:i<rs.length
  ·obtain⟨b',z1,a,z2,z3⟩:=gx v2 (Qj hi)
   refine⟨a,fun t ht=>?_⟩
   rw[z1]at ht
   cases ht
   rw[QD,Qj hi]
   exact⟨z2,z3⟩
  ·refine⟨0,fun t ht=>?_⟩
   have:=(QN.mp ht).1
   omega
 obtain⟨la,hla⟩:=Wx pick
 refine bD (jU (K:=K) (a:=l) (ts:=ts) (u:=fun i=>.str (rs.getD i ("",0,[])).1) (v:=fun i=>.int (rs.getD i ("",0,[])).2.1) (w:=fun i=>.ref (la i)) 0 1 2) (fun i=>[some (.str (rs.getD i ("",0,[])).1),some (.int (rs.getD i ("",0,[])).2.1),some (.ref (la i))]) (by rintro j σ' (rfl|⟨k,rfl⟩)<;>rfl) ?_ (P6 (show _<=1000 by omega) bo)
   (fun i=>.str (nC (rs.getD i ("",0,[])))) ?_ ?_
 ·intro H' s'
  exact⟨s'.seq (aY.of v1),fun i b hb=>s'.seqT (kN.of (hla i b hb).1)⟩
 ·intro i hi H' G s' kk
  have hm:=getD_mem (xs:=rs) ("",0,[]) (show i<rs.length by omega)
  obtain⟨b1,b2,b3,b4⟩:=hs _ hm
  walk_at "z"
  exact⟨rfl,la i,rs.getD i ("",0,[]),rfl,s'.seq (aY.of (hla i ts[i] (Qj hi)).2),b1,b2,b3,b4,fun H'' s''=>kk H'' s''⟩
 intro l7 H7 f7 s7 h7
 rw[<-hvl,bw (fun p:PH×Int×List PH=>V.str (nC p)) ("",0,[]) rs,show rs.map (fun p=>V.str (nC p))=(rs.map nC).map V.str by rw[Qn];rfl]at h7
 walk_at "z"
 refine pA 800 (aY.of h7) (fun x hx=>?_) ?_ ?_
 ·obtain⟨p,hp,rfl⟩:=P9.mp hx
  obtain⟨b1,b2,b3,b4⟩:=hs p hp
  exact y8 b1 b2 b3 b4
 ·rw[P7,ec]
  have:rs.length*(800+2)<=12*802:=SD _ hr
  omega
 ·have e:rT rs=QO ", " (rs.map nC):=if_neg hn
  rw[<-e]
  exact q H7 s7
theorem rZ(C:gY K):∀vs H Q E,gd K vs H Q E->fY K {nx:=fun _ H'=>Q .non H',rt:=Q} (start ["self","work"] vs) H:=by
 rintro vs H Q E ⟨_,c,dx,d1,d2,w,n,wt,s,rfl,hc,hd,hw,hp,an,ap,aw,hl,q⟩
 have n1:c≠d1:=aK hc hd (by simp)
 have n2:w≠d1:=aK hw hd (by simp)
 have hk:=cW s.ps
 unfold fY
 with_reducible refine Fm ?_
 refine F4 (d:=d1) (kvs:=eD s.ps) (fun k hk=>⟨_,rfl,bW hc C.aJ C.aS cj hk⟩) hd (by rw[hk];exact P6 (show _<=1000 by omega) bo) (fun i=>.str (s.ps.getD i ("",0)).1) ?_
  (fun i=>[some (.str (s.ps.getD i ("",0)).1),some (.str n),some (.ref c)]) (by rintro j σ' (rfl|⟨k,rfl⟩)<;>rfl) (fun i=>decide (((s.ps.getD i ("",0)).1,n)∈s.ws)) (fun i=>.str (s.ps.getD i ("",0)).1) ?_ ?_ ?_
 ·intro i p hp'
  have hi:i<s.ps.length:=by rw[<-hk];exact(QN.mp hp').1
  rw[jk (Qj hi)]at hp'
  cases hp'
  rw[QD,Qj hi]
  rfl
 ·intro i hi H' G sx kk
  rw[hk]at hi
  have ai:aV (s.ps.getD i ("",0)).1:=by
   rw[QD,Qj hi]
   exact ap _ (RC hi)
  walk_at "z"
  rename_i t H2 f2 s2 h2
  refine bW (s2 _ _ (sx c _ n1 hc)) C.aJ C.bQ fZ ?_
  refine Ej (p:=((s.ps.getD i ("",0)).1,n)) h2 (s2 _ _ (sx w _ n2 hw)) (Paired.mapP hp fun _ a z=>s2 _ _ (sx a _ (aK z hd (by simp)) z)) ai an aw ?_
  rw[TF]
  walk_at "z"
  exact kk H2 s2
 ·intro i hi hb H' G sx kk
  walk_at "z"
  exact kk H' (av.refl _)
 intro l H2 f2 s2 h2
 rw[hk,Dm s.ps (fun v=>decide ((v,n)∈s.ws))]at h2
 exact q l H2 f2 s2 h2
theorem xh(C:gY K):∀vs H Q E,iy K vs H Q E->ja K {nx:=fun _ H'=>Q .non H',rt:=Q} (start ["self"] vs) H:=by
 rintro vs H Q E ⟨_,c,fp,s,rfl,⟨dx,d1,d2,w,wt,X,rfl⟩,ap,ac,aw,hl,hlc,q⟩
 have n1:c≠d2:=aK X.at_ X.p2 (by simp)
 have n2:w≠d2:=aK X.w_ X.p2 (by simp)
 have hk:=cW s.cs
 unfold ja
 with_reducible refine Fm ?_
 refine BQ (d:=d2) (kvs:=eD s.cs) (fun k hk=>⟨_,rfl,bW X.at_ C.aJ C.bJ dM hk⟩) X.p2 (by rw[hk];exact P6 (show _<=1000 by omega) bo) (fun i=>.str (s.cs.getD i ("",0)).1) (fun i=>.int (s.cs.getD i ("",0)).2) ?_
  (fun i=>[some (.str (s.cs.getD i ("",0)).1),some (.int (s.cs.getD i ("",0)).2),some (.ref c)]) (by rintro j σ' (rfl|⟨k,rfl⟩)<;>rfl)
  (fun l i v H'=>∃t w',v=V.ref t/\((w'≠l/\H w'=none)/\t≠l)/\H' t=some (.tup [.str (wX s (s.cs.getD i ("",0))).1,.int (wX s (s.cs.getD i ("",0))).2.1,.ref w'])/\H' w'=some (.lst ((wX s (s.cs.getD i ("",0))).2.2.map V.str)))
  (fun l i v H1 H2 sx ⟨t,w',e,⟨hw,ht⟩,h1,h2⟩=>⟨t,w',e,⟨hw,ht⟩,sx t _ ht h1,sx w' _ hw.1 h2⟩)
  (fun l i v H1 o hd ⟨t,w',e,hw,h1,h2⟩=>⟨t,w',e,hw,by rw[ak (aK h1 hd (by simp))];exact h1,by rw[ak (aK h2 hd (by simp))];exact h2⟩) ?_ ?_
 ·intro i p hp'
  have hi:i<s.cs.length:=by rw[<-hk];exact(QN.mp hp').1
  rw[jk (Qj hi)]at hp'
  cases hp'
  rw[QD,Qj hi]
  exact⟨rfl,rfl⟩
 ·intro l i hi H' G h0 ⟨o,ho⟩ ⟨od,hod⟩ sx kk
  rw[hk]at hi
  have ai:aV (s.cs.getD i ("",0)).1:=by
   rw[QD,Qj hi]
   exact ac _ (RC hi)
  walk_at "z"
  refine cC (sx c _ n1 X.at_) (dy (by decide +kernel)) ?_
  walk_at "z"
  refine⟨rfl,c,dx,d1,d2,w,_,wt,s,rfl,sx c _ n1 X.at_,sx d1 _ X.ne X.p1,sx w _ n2 X.w_,Paired.mapP X.wt fun _ a z=>sx a _ (aK z X.p2 (by simp)) z,ai,ap,aw,hl,fun l' H1 f1 s1 h1=>?_⟩
  walk_at "z"
  rename_i t H2 f2 s2 h2
  refine kk _ H2 ⟨t,l',rfl,⟨⟨fun e=>?_,?_⟩,fun e=>?_⟩,h2,s2 _ _ h1⟩ (s1.trans s2)
  ·rw[e,ho]at f1;cases f1
  ·cases z:H l' with
   |none=>rfl
   |some x=>
    by_cases e:l'=d2
    ·rw[e,hod]at f1;cases f1
    ·rw[sx l' _ e z]at f1;cases f1
  ·rw[e,s1 _ _ ho]at f2;cases f2
 intro l ys H2 f2 s2 h2 pr
 rw[hk]at pr
 obtain⟨ts,e,p2,q2⟩:=tG (P:=fun w'=>w'≠l/\H w'=none) (f:=fun i=>wX s (s.cs.getD i ("",0))) (Paired.mapP pr fun i v ⟨t,w',e,hw,h1,h2⟩=>⟨t,w',e,hw.1,h1,h2⟩)
 rw[bw (wX s) ("",0) s.cs]at p2
 exact q l ts H2 f2 s2 ⟨by rw[h2,e],p2⟩ q2
theorem An(C:gY K):∀vs H Q E,kl K vs H Q E->kQ K {nx:=fun _ H'=>Q .non H',rt:=Q} (start ["self"] vs) H:=by
 rintro vs H Q E ⟨_,c,fp,s,rfl,⟨dx,d1,d2,w,wt,x,rfl⟩,q⟩
 unfold kQ
 walk_at "z"
 exact bW x.at_ C.aJ C.cB eY q
theorem xm(C:gY K):∀vs H Q E,iY K vs H Q E->i5 K {nx:=fun _ H'=>Q .non H',rt:=Q} (start ["self"] vs) H:=by
 rintro vs H Q E ⟨_,c,fp,s,rfl,⟨dx,d1,d2,w,wt,x,rfl⟩,q⟩
 unfold i5
 walk_at "z"
 exact bW x.at_ C.aJ C.jJ BR q
theorem xn(C:gY K):∀vs H Q E,iu K vs H Q E->iO K {nx:=fun _ H'=>Q .non H',rt:=Q} (start ["self"] vs) H:=by
 rintro vs H Q E ⟨_,c,fp,s,rfl,⟨dx,d1,d2,w,wt,x,rfl⟩,q⟩
 unfold iO
 walk_at "z"
 exact bW x.at_ C.aJ C.jb zc q
theorem Ex:∀vs H Q E,pQ K vs H Q E->pV K E {nx:=fun _ H'=>Q .non H',rt:=Q} (start ["chest","deed"] vs) H:=by
 rintro vs H Q E ⟨_,c,w,fp,s,rfl,CH,G,tw,q⟩
 obtain⟨dx,d1,d2,wl,wt,X,efp⟩:=id CH
 unfold pV
 unfold Cn at q
 walk_at "q"
 walk_at "z"
 refine dJ (fun h=>?_) (fun h=>?_)
 ·rw[if_pos h]at q
  walk_at "z"
  exact⟨rfl,c,fp,s,rfl,CH,G,q⟩
 rw[if_neg h]at q
 walk_at "z"
 walk_at "q"
 walk_at "z"
 refine dJ (fun h=>?_) (fun h=>?_)
 ·rw[if_pos h]at q
  walk_at "z"
  refine cC X.at_ (dy (by decide +kernel)) ?_
  walk_at "z"
  have hp1:=G.g.v20
  have hc1:=G.g.n12
  refine⟨rfl,c,fp,s,rfl,CH,G.g.ap,G.g.ac,G.g.aw,by omega,by omega,fun l ts H1 fl s1 w1 _=>?_⟩
  walk_at "z"
  refine⟨rfl,l,ts,_,rfl,w1,by rw[P7];exact hc1,fun r hr=>?_,fun H2 s2=>q H2 (s1.trans s2)⟩
  obtain⟨p,hp,rfl⟩:=P9.mp hr
  have hb:=G.g.cb p hp
  refine⟨(fI (G.nc p hp)).2,nB (by show(0:Int)<=p.2;omega) hb.2,?_,fun x hx=>?_⟩
  ·refine P6 (RB _ _) ?_
   rw[P7]
   exact hp1
  ·obtain⟨v,hv,rfl⟩:=P9.mp (QL.mp hx).1
   exact(fI (G.nv v hv)).2
 rw[if_neg h]at q
 walk_at "z"
 walk_at "q"
 walk_at "z"
 refine dJ (fun h=>?_) (fun h=>?_)
 ·rw[if_pos h]at q
  walk_at "z"
  refine cC X.at_ (dy (by decide +kernel)) ?_
  walk_at "z"
  exists rfl,c,fp,s,rfl,CH
  walk_at "z"
  exact xv G.pot.log (q H (av.refl _))
 rw[if_neg h]at q
 walk_at "z"
 walk_at "q"
 walk_at "z"
 refine dJ (fun h=>?_) (fun h=>?_)
 ·rw[if_pos h]at q
  walk_at "z"
  refine cC X.at_ (dy (by decide +kernel)) ?_
  walk_at "z"
  exists rfl,c,fp,s,rfl,CH
  walk_at "z"
  exact xv G.giv.log (q H (av.refl _))
 rw[if_neg h]at q
 walk_at "z"
 walk_at "q"
 walk_at "z"
 refine dJ (fun h=>?_) (fun h=>?_)
 ·rw[if_pos h]at q
  walk_at "z"
  refine cC X.at_ (dy (by decide +kernel)) ?_
  walk_at "z"
  exists rfl,c,fp,s,rfl,CH
  walk_at "z"
  exact xv G.spt.log (q H (av.refl _))
 rw[if_neg h]at q
 walk_at "z"
 obtain⟨f1,f2,f3⟩:=wu tw (a:="no row of one word: ") (n:=20) (by decide +kernel) (by decide)
 exact⟨_,rfl,f1,_,rfl,w,rfl,f2,_,rfl,f3,f3,(by decide:1<=PZ),q _ (av.refl _)⟩
theorem Dx:∀vs H Q E,pM K vs H Q E->pU K {nx:=fun _ H'=>Q .non H',rt:=Q} (start ["name"] vs) H:=by
 rintro vs H Q E ⟨_,z,rfl,ha,hz,q⟩
 have hl:=aP z
 have hsz:z.cps.size=z.length:=rfl
 have e:dw z=((decide (1<=z.length)&&decide (z.length<=8))&&z.cps.toList.all isLet):=rfl
 unfold pU
 walk_at "v"
 refine dJ (fun h1=>?_) (fun h1=>?_)
 ·walk_at "z"
  refine dJ (fun h2=>?_) (fun h2=>?_)
  ·walk_at "z"
   exists z,rfl,ha
   refine bD (E2 (x:=z) 0) (fun j=>[some (.str ⟨#[z.cps.getD j 0]⟩)]) (by rintro j σ' (rfl|⟨k,rfl⟩)<;>rfl) (fun _ _=>trivial) (P6 (show _<=1000 by omega) bo) (fun j=>.bl (isLet (z.cps.getD j 0))) ?_ ?_
   ·intro j hj H' F s kk
    walk_at "z"
    rw[Lj]
    exact kk H' (av.refl _)
   intro l1 H1 f1 s1 h1
   have e1:(P4 z.cps.size).map (fun j=>V.bl (isLet (z.cps.getD j 0)))=(z.cps.toList.map isLet).map V.bl:=by
    rw[Qn]
    have:=bw (fun c=>V.bl (isLet c)) 0 z.cps.toList
    rw[hl]at this
    rw[hsz]
    refine Uk ?_ this
    refine Sw fun j hj=>?_
    simp[XS,QD]
   rw[e1]at h1
   have q1:aY K H1 l1 ((z.cps.toList.map isLet).map V.bl):=aY.of h1
   walk_at "z"
   have e2:(z.cps.toList.map isLet).all id=dw z:=by
    rw[e,Uu,decide_eq_true (by omega),decide_eq_true (by omega)]
    rfl
   rw[e2]
   exact q H1 s1
  ·walk_at "z"
   rw[decide_eq_false (show ¬z.length<=8 by omega),VW,S1]at e
   rw[<-e]
   exact q H (av.refl _)
 ·walk_at "z"
  rw[decide_eq_false (show ¬1<=z.length by omega),S1,S1]at e
  rw[<-e]
  exact q H (av.refl _)
theorem qt:∀vs H Q E,dQ K vs H Q E->fO K E {nx:=fun _ H'=>Q .non H',rt:=Q} (start ["name","names"] vs) H:=by
 rintro vs H Q E ⟨_,z,d,kvs,rfl,hd,hz,h⟩
 have hsz:=size_eq
 have hz2:=hz.2
 unfold fO
 walk_at "q"
 walk_at "z"
 refine⟨rfl,z,rfl,hz.1,by omega,fun H1 s1=>?_⟩
 rcases h with⟨hn,hv,q⟩|⟨hn,q⟩|⟨hn,hv,q⟩
 ·rw[hn]
  walk_at "z"
  refine FO (s1 _ _ hd) ?_
  rw[hv]
  walk_at "z"
  exact q H1 s1
 ·rw[hn]
  walk_at "z"
  obtain⟨n1,n2,n3⟩:=wu hz (show(Qp++("no name: ":PH)).length=9 by decide +kernel) (by decide)
  exact⟨_,rfl,n1,_,rfl,z,rfl,n2,_,rfl,n3,n3,(by decide:1<=PZ),q _ s1⟩
 ·rw[hn]
  walk_at "z"
  refine FO (s1 _ _ hd) ?_
  rw[hv]
  walk_at "z"
  have n1:(Qp++("there already: ":PH)).length=15:=by decide +kernel
  have n2:(Qp++("there already: ":PH)++z).length<=PZ:=by
   rw[Qv]
   omega
  exact⟨_,rfl,by omega,_,rfl,z,rfl,by omega,_,rfl,n2,n2,(by decide:1<=PZ),q _ s1⟩
theorem Gh:∀y:Int,y=12\/y=20->(Qp++("there are ":PH)).length<=PZ/\y.natAbs.log2<1920/\(Qp++("there are ":PH)++((toString y:String):PH)).length<=PZ/\(Qp++("there are ":PH)++((toString y:String):PH)++(" already":PH)).length<=PZ:=by
 rintro y (rfl|rfl)<;>decide +kernel
theorem wY:∀vs H Q E,fq K vs H Q E->iP K E {nx:=fun _ H'=>Q .non H',rt:=Q} (start ["names","most"] vs) H:=by
 rintro vs H Q E ⟨_,d,kvs,n,rfl,hd,hn,h⟩
 obtain⟨n1,n2,n3,n4⟩:=Gh n hn
 unfold iP
 walk_at "z"
 refine xl hd ?_
 walk_at "z"
 rcases h with⟨h1,q⟩|⟨h1,q⟩
 ·refine GI (by omega) ?_
  walk_at "z"
  exact q
 ·refine IW (by omega) ?_
  exact⟨_,rfl,n1,_,rfl,n,rfl,n2,_,rfl,n3,_,rfl,n4,n4,(by decide:1<=PZ),q _ (av.refl _)⟩
theorem vD(C:gY K):∀vs H Q E,iS K vs H Q E->ip K E {nx:=fun _ H'=>Q .non H',rt:=Q} (start ["self","name"] vs) H:=by
 rintro vs H Q E ⟨_,c,n,fp,s,rfl,⟨dx,d1,d2,w,wt,x,rfl⟩,hz,qn,qe⟩
 unfold ip
 walk_at "q"
 walk_at "z"
 refine bW x.at_ C.aJ C.aS cj ?_
 walk_at "z"
 by_cases hn:dw n=true
 ·by_cases hm:n∈s.ps.map (·.1)
  ·exact⟨rfl,n,d1,_,rfl,x.p1,hz,.inr (.inr ⟨hn,Cb x.nd hm,qe _ (by rw[cq.due,if_neg (by rw[hn];simp),if_pos hm])⟩)⟩
  refine⟨rfl,n,d1,_,rfl,x.p1,hz,.inl ⟨hn,nV hm,fun H1 s1=>?_⟩⟩
  have x1:=x.same s1
  walk_at "z"
  walk_at "q"
  walk_at "z"
  refine bW x1.at_ C.aJ C.aS cj ?_
  walk_at "z"
  by_cases hl:20<=s.ps.length
  ·exact⟨rfl,d1,_,20,rfl,x1.p1,.inr rfl,.inr ⟨by rw[cW];omega,fun H' s'=>qe _ (by rw[cq.due,if_neg (by rw[hn];simp),if_neg hm,if_pos hl]) H' (s1.trans s')⟩⟩
  refine⟨rfl,d1,_,20,rfl,x1.p1,.inr rfl,.inl ⟨by rw[cW];omega,?_⟩⟩
  walk_at "z"
  refine bW x1.at_ C.aJ C.aS cj ?_
  walk_at "z"
  refine HL x1.p1 (by rw[cW];exact QE (show _<1000 by omega) bo) ?_
  rw[FQ hm]
  refine qn (by rw[cq.due,if_neg (by rw[hn];simp),if_neg hm,if_neg hl]) _ [c,d1,d2,w] ⟨dx,d1,d2,w,wt,x1.setP (ps:=s.ps++[(n,0)]) ?_,rfl⟩ ((b7.of s1).trans (b7.upd x1.p1 (by intro xs z;cases z) (by simp))) ji.refl
  rw[Rk]
  exact uT x.nd hm
 ·have hn:dw n=false:=by simpa using hn
  exact⟨rfl,n,d1,_,rfl,x.p1,hz,.inr (.inl ⟨hn,qe _ (by rw[cq.due,if_pos hn])⟩)⟩
theorem mR(C:gY K):∀vs H Q E,cg K vs H Q E->d4 K E {nx:=fun _ H'=>Q .non H',rt:=Q} (start ["self","voter"] vs) H:=by
 rintro vs H Q E ⟨_,c,n,fp,s,rfl,⟨dx,d1,d2,w,wt,x,rfl⟩,h⟩
 unfold d4
 walk_at "z"
 refine bW x.at_ C.aJ C.aS cj ?_
 refine FO x.p1 ?_
 rcases h with⟨hn,q⟩|⟨hn,hz,q⟩
 ·obtain⟨p,hp,rfl⟩:=P9.mp hn
  rw[nR x.nd (show(p.1,p.2)∈s.ps from hp)]
  walk_at "z"
  exact q
 ·rw[nV hn]
  walk_at "z"
  obtain⟨n1,n2,n3⟩:=wu hz (show(Qp++("no voter: ":PH)).length=10 by decide +kernel) (by decide)
  exact⟨_,rfl,n1,_,rfl,n,rfl,n2,_,rfl,n3,n3,(by decide:1<=PZ),q _ (av.refl _)⟩
theorem rg(C:gY K):∀vs H Q E,fv K vs H Q E->fL K E {nx:=fun _ H'=>Q .non H',rt:=Q} (start ["self","voter"] vs) H:=by
 rintro vs H Q E ⟨_,c,n,fp,s,rfl,⟨dx,d1,d2,w,wt,X,rfl⟩,tx,qn,qe⟩
 unfold fL
 walk_at "q"
 walk_at "z"
 refine cC X.at_ (dy (by decide +kernel)) ?_
 walk_at "z"
 by_cases hin:n∈s.ps.map (·.1)
 rotate_left
 ·exact⟨rfl,c,n,_,s,rfl,⟨dx,d1,d2,w,wt,X,rfl⟩,.inr ⟨hin,tx,qe hin⟩⟩
 refine⟨rfl,c,n,_,s,rfl,⟨dx,d1,d2,w,wt,X,rfl⟩,.inl ⟨hin,?_⟩⟩
 walk_at "z"
 refine bW X.at_ C.aJ C.aS cj ?_
 walk_at "z"
 exact IG X.p1 (nR X.nd (qf hin)) (qn hin)
theorem vV(C:gY K):∀vs H Q E,iq K vs H Q E->iB K E {nx:=fun _ H'=>Q .non H',rt:=Q} (start ["self","name"] vs) H:=by
 rintro vs H Q E ⟨_,c,n,fp,s,rfl,⟨dx,d1,d2,w,wt,X,rfl⟩,hz,hw,qn,qe⟩
 unfold iB
 walk_at "q"
 walk_at "z"
 refine cC X.at_ (dy (by decide +kernel)) ?_
 walk_at "z"
 by_cases hin:n∈s.ps.map (·.1)
 rotate_left
 ·exact⟨rfl,c,n,_,s,rfl,⟨dx,d1,d2,w,wt,X,rfl⟩,.inr ⟨hin,hz,qe _ (by rw[cq.due,if_neg hin])⟩⟩
 have q:=qn (by rw[cq.due,if_pos hin])
 have hm:=qf hin
 generalize vP s.ps n=x at *
 refine⟨rfl,c,n,_,s,rfl,⟨dx,d1,d2,w,wt,X,rfl⟩,.inl ⟨hin,?_⟩⟩
 walk_at "z"
 walk_at "q"
 walk_at "z"
 refine yU X.at_ C.aJ C.cB eY ?_
 walk_at "z"
 refine bW X.at_ C.aJ C.aS cj ?_
 exists d1,rfl,.inl ⟨_,.inl X.p1⟩
 walk_at "z"
 exists _,.inr n,.int x,X.p1,rfl,nR X.nd hm
 rw[C8]
 have X1:=X.setP (ps:=s.ps.filter fun p=>decide (p.1≠n)) (rJ X.nd)
 have b1:b7 [c,d1,d2,w] H (upd H d1 (.dK (eD (s.ps.filter fun p=>decide (p.1≠n))))):=b7.upd X.p1 (by intro xs z;cases z) (by simp)
 generalize upd H d1 (.dK (eD (s.ps.filter fun p=>decide (p.1≠n))))=H1 at *
 exists _,_,rfl,rfl,dx,_,X1.at_,(show 6<1000 by decide)
 rw[ju]
 have X2:=X1.setF (a:=s.pot+x) (b:=s.giv) (e:=s.spt)
 have b2:b7 [c,d1,d2,w] H1 (upd H1 c (.ins (ao K "Chest") dx (gN d1 d2 w (s.pot+x) s.giv s.spt))):=b7.upd X1.at_ (by intro xs z;cases z) (by simp)
 generalize upd H1 c (.ins (ao K "Chest") dx (gN d1 d2 w (s.pot+x) s.giv s.spt))=H2 at *
 walk_at "z"
 refine bW X2.at_ C.aJ C.bQ fZ ?_
 exists w,rfl,⟨_,aY.of X2.w_⟩
 have hwl:s.ws.length=wt.length:=Qw X.wt
 refine nP (vS (K:=K) (a:=w) (ts:=wt) (u:=fun i=>.str (s.ws.getD i ("","")).1) (v:=fun i=>.str (s.ws.getD i ("","")).2) 0 1) (fun i=>[some (.str (s.ws.getD i ("","")).1),some (.str (s.ws.getD i ("","")).2),some (.str n)]) (by rintro j σ' (rfl|⟨k,rfl⟩)<;>rfl) ?_ (P6 (show _<=1000 by omega) bo)
  (fun i=>!decide ((s.ws.getD i ("","")).1=n)) (fun i=>[.str (s.ws.getD i ("","")).1,.str (s.ws.getD i ("","")).2]) ?_ ?_ ?_
 ·intro H' s'
  refine⟨s'.seq (aY.of X2.w_),fun i b hb=>?_⟩
  have hi:i<s.ws.length:=by rw[hwl];exact(QN.mp hb).1
  obtain⟨b',z1,z2⟩:=gx X2.wt (Qj hi)
  rw[hb]at z1
  cases z1
  rw[QD,Qj hi]
  exact s'.seqT (kN.of z2)
 ·intro i hi H' G s' kk
  walk_at "z"
  exact kk H' (av.refl _)
 ·intro i hi hb H' G s' kk
  walk_at "z"
  rename_i a H'' f s'' h
  exact kk a H'' f s'' h
 intro l bs H3 f3 s3 h3 pr
 have X3:=X2.same s3
 rw[<-hwl]at pr
 have hp:Qd (Br H3) (s.ws.filter fun p=>!decide (p.1=n)) bs:=by
  rw[<-iN (fun p:PH×PH=>!decide (p.1=n)) ("","") s.ws]
  exact eX pr
 walk_at "z"
 refine lP X3.at_ C.aJ C.bQ (show 6<1000 by decide) ?_
 rw[sL]
 have X4:=X3.setW h3 hp
 refine q _ [c,d1,d2,l] ⟨dx,d1,d2,l,bs,X4,rfl⟩ (((b1.trans b2).trans (b7.of s3)).trans (b7.upd X3.at_ (by intro xs z;cases z) (by simp))) ?_
 intro a ha
 simp only[Qa,Rf,or_false]at ha
 rcases ha with rfl|rfl|rfl|rfl
 ·exact .inl (by simp)
 ·exact .inl (by simp)
 ·exact .inl (by simp)
 ·exact .inr ((b1.trans b2).2.2 _ f3)
theorem Gq:∀y:Int,y=0\/y=1->(Qp++("not from ":PH)).length<=PZ/\y.natAbs.log2<1920/\(Qp++("not from ":PH)++((toString y:String):PH)).length<=PZ/\(Qp++("not from ":PH)++((toString y:String):PH)++(" to ":PH)).length<=PZ/\
  (1000000000:Int).natAbs.log2<1920/\(Qp++("not from ":PH)++((toString y:String):PH)++(" to ":PH)++((toString (1000000000:Int):String):PH)).length<=PZ/\(Qp++("not from ":PH)++((toString y:String):PH)++(" to ":PH)++((toString (1000000000:Int):String):PH)++(" coins":PH)).length<=PZ:=by
 rintro y (rfl|rfl)<;>decide +kernel
theorem vN:∀vs H Q E,fw K vs H Q E->iG K E {nx:=fun _ H'=>Q .non H',rt:=Q} (start ["coins","least"] vs) H:=by
 rintro vs H Q E ⟨_,x,y,rfl,hy,h⟩
 obtain⟨n1,n2,n3,n4,n5,n6,n7⟩:=Gq y hy
 unfold iG
 walk_at "z"
 rcases h with⟨h1,h2,q⟩|⟨h1,q⟩
 ·refine GI (by omega) ?_
  walk_at "z"
  refine GI (by omega) ?_
  walk_at "z"
  exact q
 ·have fin:eJ (ao K "TooMuch") E (ae (zj [(tC (.str "not from ")),(xZ (af 1)),(tC (.str " to ")),(xZ (tC (.int 1000000000))),(tC (.str " coins"))] Qp) az) {nx:=fun _ H'=>Q .non H',rt:=Q} (start ["coins","least"] [.int x,.int y]) H:=
   ⟨_,rfl,n1,_,rfl,y,rfl,n2,_,rfl,n3,_,rfl,n4,_,rfl,n5,_,rfl,n6,_,rfl,n7,n7,(by decide:1<=PZ),q _ (av.refl _)⟩
  refine dJ (fun _=>?_) (fun h3=>?_)
  ·walk_at "z"
   exact fin
  ·walk_at "z"
   refine IW (by omega) ?_
   exact fin
theorem vh(C:gY K):∀vs H Q E,iZ K vs H Q E->i4 K {nx:=fun _ H'=>Q .non H',rt:=Q} (start ["self","part"] vs) H:=by
 rintro vs H Q E ⟨_,c,x,fp,s,rfl,⟨dx,d1,d2,w,wt,X,rfl⟩,hl,q⟩
 unfold i4
 walk_at "q"
 walk_at "z"
 refine yU X.at_ C.aJ C.cB eY ?_
 walk_at "z"
 refine bW X.at_ C.aJ C.aS cj ?_
 walk_at "z"
 refine xl X.p1 ?_
 rw[cW]
 walk_at "z"
 exists _,_,rfl,rfl,dx,_,X.at_,(show 6<1000 by decide)
 rw[ju]
 have X1:=X.setF (a:=s.pot-x*s.ps.length) (b:=s.giv) (e:=s.spt)
 have b1:b7 [c,d1,d2,w] H (upd H c (.ins (ao K "Chest") dx (gN d1 d2 w (s.pot-x*s.ps.length) s.giv s.spt))):=b7.upd X.at_ (by intro xs z;cases z) (by simp)
 generalize upd H c (.ins (ao K "Chest") dx (gN d1 d2 w (s.pot-x*s.ps.length) s.giv s.spt))=H1 at *
 walk_at "z"
 have hk:=cW s.ps
 refine Eh (d:=d1) (kvs:=eD s.ps) (fun k hk=>⟨_,rfl,bW X1.at_ C.aJ C.aS cj hk⟩) X1.p1 (by rw[hk];exact P6 (show _<=1000 by omega) bo) (fun i=>.str (s.ps.getD i ("",0)).1) (fun i=>.int (s.ps.getD i ("",0)).2) ?_
  (fun i=>[some (.str (s.ps.getD i ("",0)).1),some (.int (s.ps.getD i ("",0)).2),some (.int x)]) (by rintro j σ' (rfl|⟨k,rfl⟩)<;>rfl) (fun i=>[.str (s.ps.getD i ("",0)).1,.int ((s.ps.getD i ("",0)).2+x)]) ?_ ?_
 ·intro i p hp
  have hi:i<s.ps.length:=by rw[<-hk];exact(QN.mp hp).1
  rw[jk (Qj hi)]at hp
  cases hp
  rw[QD,Qj hi]
  exact⟨rfl,rfl⟩
 ·intro i hi H' G kk
  walk_at "z"
  rename_i a H'' f s' h
  exact kk a H'' f s' h
 intro l bs H2 f2 s2 h2 pr
 rw[hk]at pr
 have X2:=X1.same s2
 walk_at "z"
 have nd':((s.ps.map fun p=>(p.1,p.2+x)).map (·.1)).Nodup:=by rw[map_fst];exact X.nd
 refine⟨l,bs,eD (s.ps.map fun p=>(p.1,p.2+x)),rfl,h2,?_,?_,?_,fun d f3=>?_⟩
 ·have e:eD (s.ps.map fun p=>(p.1,p.2+x))=(P4 s.ps.length).map fun i=>((.inr (s.ps.getD i ("",0)).1:Key),V.int ((s.ps.getD i ("",0)).2+x)):=by
   rw[bw (fun p:PH×Int=>((.inr p.1:Key),V.int (p.2+x))) ("",0) s.ps]
   unfold eD
   rw[Qn]
   rfl
  rw[e]
  exact eX (Paired.mapP pr fun i a z=>kN.of z)
 ·unfold eD
  rw[Qn]
  have:((fun p:PH×Int=>((.inr p.1:Key),V.int p.2)))=fun p:PH×Int=>((.inr p.1:Key),V.int p.2):=rfl
  show Ql (Ry (fun p:PH×Int=>(RK p.1:Key)) _)
  have e2:Ry (fun p:PH×Int=>(RK p.1:Key)) (s.ps.map fun p=>(p.1,p.2+x))=((s.ps.map fun p=>(p.1,p.2+x)).map (·.1)).map RK:=by rw[Qn,Qn,Qn];rfl
  rw[e2]
  exact VT _ (fun a b h z=>h (XR z)) nd'
 ·rw[cW,P7];omega
 have s3:av H2 (upd H2 d (.dK (eD (s.ps.map fun p=>(p.1,p.2+x))))):=av.updN f3
 have X3:=X2.same s3
 have h3:upd H2 d (.dK (eD (s.ps.map fun p=>(p.1,p.2+x)))) d=some (.dK (eD (s.ps.map fun p=>(p.1,p.2+x)))):=ax
 generalize upd H2 d (.dK (eD (s.ps.map fun p=>(p.1,p.2+x))))=H3 at *
 walk_at "z"
 refine lP X3.at_ C.aJ C.aS (show 6<1000 by decide) ?_
 rw[y9]
 have X4:=X3.setD h3 (Qy (fS X2.p2 f3)) nd'
 refine q _ [c,d,d2,w] ⟨dx,d,d2,w,wt,X4,rfl⟩ (((b1.trans (b7.of s2)).trans (b7.of s3)).trans (b7.upd X3.at_ (by intro xs z;cases z) (by simp))) ?_
 intro a ha
 simp only[Qa,Rf,or_false]at ha
 rcases ha with rfl|rfl|rfl|rfl
 ·exact .inl (by simp)
 ·exact .inr (b1.2.2 _ (s2.free f3))
 ·exact .inl (by simp)
 ·exact .inl (by simp)
theorem yL(C:gY K):∀vs H Q E,jF K vs H Q E->jP K E {nx:=fun _ H'=>Q .non H',rt:=Q} (start ["self","coins"] vs) H:=by
 rintro vs H Q E ⟨_,c,x,fp,s,rfl,⟨dx,d1,d2,w,wt,X,rfl⟩,hl,qn,qe⟩
 unfold jP
 walk_at "q"
 walk_at "z"
 by_cases hx:x<0\/1000000000<x
 ·exact⟨rfl,x,0,rfl,.inl rfl,.inr ⟨hx,qe _ (by rw[cq.due,if_pos hx])⟩⟩
 have h0:0<=x:=by omega
 have h1:x<=1000000000:=by omega
 have q:=qn (by rw[cq.due,if_neg hx])
 refine⟨rfl,x,0,rfl,.inl rfl,.inl ⟨h0,h1,?_⟩⟩
 walk_at "z"
 walk_at "q"
 walk_at "z"
 refine yU X.at_ C.aJ C.jJ BR ?_
 walk_at "z"
 exists _,_,rfl,rfl,dx,_,X.at_,(show 6<1000 by decide)
 rw[IA]
 have X1:=X.setF (a:=s.pot) (b:=s.giv+x) (e:=s.spt)
 have b1:b7 [c,d1,d2,w] H (upd H c (.ins (ao K "Chest") dx (gN d1 d2 w s.pot (s.giv+x) s.spt))):=b7.upd X.at_ (by intro xs z;cases z) (by simp)
 generalize upd H c (.ins (ao K "Chest") dx (gN d1 d2 w s.pot (s.giv+x) s.spt))=H1 at *
 walk_at "q"
 walk_at "z"
 refine yU X1.at_ C.aJ C.cB eY ?_
 walk_at "z"
 exists _,_,rfl,rfl,dx,_,X1.at_,(show 6<1000 by decide)
 rw[ju]
 have X2:=X1.setF (a:=s.pot+x) (b:=s.giv+x) (e:=s.spt)
 have b2:b7 [c,d1,d2,w] H1 (upd H1 c (.ins (ao K "Chest") dx (gN d1 d2 w (s.pot+x) (s.giv+x) s.spt))):=b7.upd X1.at_ (by intro xs z;cases z) (by simp)
 generalize upd H1 c (.ins (ao K "Chest") dx (gN d1 d2 w (s.pot+x) (s.giv+x) s.spt))=H2 at *
 walk_at "z"
 refine bW X2.at_ C.aJ C.aS cj ?_
 exists d1,_,rfl,X2.p1
 by_cases hp:s.ps=[]
 ·have e:(!(eD s.ps).isEmpty)=false:=by rw[hp];rfl
  rw[show(!List.isEmpty (eD (aG.mk s.ps s.cs s.ws (s.pot+x) (s.giv+x) s.spt).ps))=false from e]
  walk_at "z"
  have hS:qI s x=⟨s.ps,s.cs,s.ws,s.pot+x,s.giv+x,s.spt⟩:=by unfold qI;rw[if_pos hp]
  exact q H2 _ (by rw[hS];exact⟨dx,d1,d2,w,wt,X2,rfl⟩) (b1.trans b2) ji.refl
 ·have hpos:0<s.ps.length:=TM.mpr hp
  have e:(!(eD s.ps).isEmpty)=true:=by
   cases hh:s.ps with
   |nil=>exact absurd hh hp
   |cons=>rfl
  rw[show(!List.isEmpty (eD (aG.mk s.ps s.cs s.ws (s.pot+x) (s.giv+x) s.spt).ps))=true from e]
  walk_at "z"
  refine cC X2.at_ (dy (by decide +kernel)) ?_
  walk_at "z"
  refine bW X2.at_ C.aJ C.cB eY ?_
  walk_at "z"
  refine bW X2.at_ C.aJ C.aS cj ?_
  walk_at "z"
  refine xl X2.p1 ?_
  rw[cW]
  have e3:(aG.mk s.ps s.cs s.ws (s.pot+x) (s.giv+x) s.spt).ps.length=s.ps.length:=rfl
  refine LY (by rw[e3];omega) (by rw[e3];omega) ?_
  walk_at "z"
  have hS:qI s x=vj ⟨s.ps,s.cs,s.ws,s.pot+x,s.giv+x,s.spt⟩ ((s.pot+x)/(s.ps.length:Int)):=by unfold qI;rw[if_neg hp]
  refine⟨rfl,c,_,[c,d1,d2,w],⟨s.ps,s.cs,s.ws,s.pot+x,s.giv+x,s.spt⟩,rfl,⟨dx,d1,d2,w,wt,X2,rfl⟩,hl,fun H3 fp3 x3 b3 n3=>?_⟩
  walk_at "z"
  exact q H3 fp3 (by rw[hS];exact x3) ((b1.trans b2).trans b3) (ji.refl.trans n3 (b1.trans b2))
theorem AI:∀vs H Q E,kW K vs H Q E->kC K {nx:=fun _ H'=>Q .non H',rt:=Q} (start ["word"] vs) H:=by
 rintro vs H Q E ⟨_,z,rfl,ha,hz,q⟩
 have hl:=aP z
 have hsz:z.cps.size=z.length:=rfl
 unfold kC
 walk_at "q"
 walk_at "z"
 refine dJ (fun h0=>?_) (fun h0=>?_)
 ·walk_at "z"
  have e:i8 z=decide (z=("0":PH)):=by
   unfold i8 Jk
   rw[if_pos h0,zq,Ri,decide_eq_true_eq,decide_eq_true_eq,iM]
  rw[<-e]
  exact q H (av.refl _)
 have e:i8 z=((decide (1<=z.length)&&decide (z.length<=13))&&z.cps.toList.all mw):=by
  unfold i8 Jk
  rw[if_neg h0,hl]
 walk_at "v"
 refine dJ (fun h1=>?_) (fun h1=>?_)
 ·walk_at "z"
  refine dJ (fun h2=>?_) (fun h2=>?_)
  ·walk_at "z"
   exists z,rfl,ha
   refine bD (E2 (x:=z) 0) (fun j=>[some (.str ⟨#[z.cps.getD j 0]⟩)]) (by rintro j σ' (rfl|⟨k,rfl⟩)<;>rfl) (fun _ _=>trivial) (P6 (show _<=1000 by omega) bo) (fun j=>.bl (mw (z.cps.getD j 0))) ?_ ?_
   ·intro j hj H' F s kk
    walk_at "z"
    rw[Kp]
    exact kk H' (av.refl _)
   intro l1 H1 f1 s1 h1
   have e1:(P4 z.cps.size).map (fun j=>V.bl (mw (z.cps.getD j 0)))=(z.cps.toList.map mw).map V.bl:=by
    rw[Qn]
    have:=bw (fun c=>V.bl (mw c)) 0 z.cps.toList
    rw[hl]at this
    rw[hsz]
    refine Uk ?_ this
    refine Sw fun j hj=>?_
    simp[XS,QD]
   rw[e1]at h1
   have q1:aY K H1 l1 ((z.cps.toList.map mw).map V.bl):=aY.of h1
   walk_at "z"
   have e2:(z.cps.toList.map mw).all id=i8 z:=by
    rw[e,Uu,decide_eq_true (by omega),decide_eq_true (by omega)]
    rfl
   rw[e2]
   exact q H1 s1
  ·walk_at "z"
   rw[decide_eq_false (show ¬z.length<=13 by omega),VW,S1]at e
   rw[<-e]
   exact q H (av.refl _)
 ·walk_at "z"
  rw[decide_eq_false (show ¬1<=z.length by omega),S1,S1]at e
  rw[<-e]
  exact q H (av.refl _)
theorem vC:∀vs H Q E,fe K vs H Q E->iz K E {nx:=fun _ H'=>Q .non H',rt:=Q} (start ["word"] vs) H:=by
 rintro vs H Q E ⟨_,z,rfl,ha,hz,qn,qe⟩
 have hsz:=size_eq
 have hrp:=repr_fits ha hz
 unfold iz
 walk_at "q"
 walk_at "z"
 refine⟨rfl,z,rfl,ha,hz,fun H1 s1=>?_⟩
 walk_at "z"
 cases hn:i8 z
 ·walk_at "z"
  have n1:(Qp++("no number: ":PH)).length=11:=by decide +kernel
  have n2:(Qp++("no number: ":PH)++Uw z).length<=PZ:=by
   rw[Qv]
   omega
  exact⟨_,rfl,by omega,_,rfl,z,rfl,by omega,_,rfl,n2,n2,(by decide:1<=PZ),qe hn _ s1⟩
 ·obtain⟨n,h0,h1,h2,h3,h4⟩:=xC hn
  walk_at "z"
  exact⟨z,n,rfl,h2,by omega,qn hn n H1 h0 h1 h3 s1⟩
theorem Dq:∀vs H Q E,pR K vs H Q E->pH K E {nx:=fun _ H'=>Q .non H',rt:=Q} (start ["chest","deed","word"] vs) H:=by
 rintro vs H Q E ⟨_,c,w,a,fp,s,rfl,CH,G,tw,ta,q⟩
 obtain⟨dx,d1,d2,wl,wt,X,efp⟩:=id CH
 have hwl:=G.g.wl
 unfold pH
 unfold act2 at q
 walk_at "q"
 walk_at "z"
 refine dJ (fun h=>?_) (fun h=>?_)
 ·rw[if_pos h]at q
  walk_at "z"
  refine cC X.at_ (dy (by decide +kernel)) ?_
  walk_at "z"
  refine⟨rfl,c,a,fp,s,rfl,CH,ta,fun hin=>?_,fun hin=>?_⟩
  ·rw[if_pos hin]at q
   walk_at "z"
   have hb:=G.g.p0 _ (qf hin)
   exact xv (nB hb.1 hb.2).log (q H (av.refl _))
  ·rw[if_neg hin]at q
   exact q
 rw[if_neg h]at q
 walk_at "z"
 walk_at "q"
 walk_at "z"
 refine dJ (fun h=>?_) (fun h=>?_)
 ·rw[if_pos h]at q
  walk_at "z"
  refine cC X.at_ (dy (by decide +kernel)) ?_
  walk_at "z"
  refine⟨rfl,c,a,fp,s,rfl,CH,ta,fun hd H2 fp2 x2 b2 n2=>?_,q.2⟩
  walk_at "z"
  exact q.1 hd H2 fp2 x2 b2 n2
 rw[if_neg h]at q
 walk_at "z"
 refine dJ (fun h=>?_) (fun h=>?_)
 ·rw[if_pos h]at q
  walk_at "z"
  refine cC X.at_ (dy (by decide +kernel)) ?_
  walk_at "z"
  refine⟨rfl,c,a,fp,s,rfl,CH,ta,by omega,fun hd H2 fp2 x2 b2 n2=>?_,q.2⟩
  walk_at "z"
  exact q.1 hd H2 fp2 x2 b2 n2
 rw[if_neg h]at q
 walk_at "z"
 refine dJ (fun h=>?_) (fun h=>?_)
 ·rw[if_pos h]at q
  walk_at "z"
  refine cC X.at_ (dy (by decide +kernel)) ?_
  walk_at "z"
  refine⟨rfl,a,rfl,ta.1,P6 ta.2 (by decide),fun hn n H1 n0 nl hz s1=>?_,fun hn H1 s1=>?_⟩
  ·rw[if_pos hn]at q
   have en:CA a=n:=by
    obtain⟨m,m0,_,m1,m2,_⟩:=xC hn
    have:CA a=m:=by unfold CA;rw[m1];rfl
    rw[this]
    exact IL m0 n0 (m2.trans hz.symm)
   rw[en]at q
   walk_at "z"
   refine⟨rfl,c,n,fp,s,rfl,CH.same s1,G.g.v20,fun hd H2 fp2 x2 b2 n2=>?_,fun cl hd H2 s2=>q.2 cl hd H2 (s1.trans s2)⟩
   walk_at "z"
   exact q.1 hd H2 fp2 x2 ((b7.of s1).trans b2) (fun y hy=>by
    rcases n2 y hy with z|z
    ·exact .inl z
    ·exact .inr (s1.free z))
  ·rw[if_neg (by rw[hn];simp)]at q
   exact q H1 s1
 rw[if_neg h]at q
 walk_at "z"
 refine dJ (fun h=>?_) (fun h=>?_)
 ·rw[if_pos h]at q
  walk_at "z"
  refine cC X.at_ (dy (by decide +kernel)) ?_
  walk_at "z"
  refine⟨rfl,c,a,fp,s,rfl,CH,by omega,fun hd H2 fp2 x2 b2 n2=>?_,fun cl hd=>⟨ta,q.2 cl hd⟩⟩
  walk_at "z"
  exact q.1 hd H2 fp2 x2 b2 n2
 rw[if_neg h]at q
 walk_at "z"
 obtain⟨f1,f2,f3⟩:=wu tw (a:="no row of two words: ") (n:=21) (by decide +kernel) (by decide)
 exact⟨_,rfl,f1,_,rfl,w,rfl,f2,_,rfl,f3,f3,(by decide:1<=PZ),q _ (av.refl _)⟩
theorem rR(C:gY K):∀vs H Q E,gj K vs H Q E->gg K E {nx:=fun _ H'=>Q .non H',rt:=Q} (start ["self","work","cost"] vs) H:=by
 rintro vs H Q E ⟨_,c,n,x,fp,s,rfl,⟨dx,d1,d2,w,wt,X,rfl⟩,hz,qn,qe⟩
 unfold gg
 walk_at "q"
 walk_at "z"
 refine bW X.at_ C.aJ C.bJ dM ?_
 walk_at "z"
 by_cases hn:dw n=true
 ·by_cases hm:n∈s.cs.map (·.1)
  ·exact⟨rfl,n,d2,_,rfl,X.p2,hz,.inr (.inr ⟨hn,Cb X.nd2 hm,qe _ (by rw[cq.due,if_neg (by rw[hn];simp),if_pos hm])⟩)⟩
  refine⟨rfl,n,d2,_,rfl,X.p2,hz,.inl ⟨hn,nV hm,fun H1 s1=>?_⟩⟩
  have x1:=X.same s1
  walk_at "z"
  walk_at "q"
  walk_at "z"
  by_cases hx:x<1\/1000000000<x
  ·exact⟨rfl,x,1,rfl,.inr rfl,.inr ⟨hx,fun H' s'=>qe _ (by rw[cq.due,if_neg (by rw[hn];simp),if_neg hm,if_pos hx]) H' (s1.trans s')⟩⟩
  refine⟨rfl,x,1,rfl,.inr rfl,.inl ⟨by omega,by omega,?_⟩⟩
  walk_at "z"
  walk_at "q"
  walk_at "z"
  refine bW x1.at_ C.aJ C.bJ dM ?_
  walk_at "z"
  by_cases hl:12<=s.cs.length
  ·exact⟨rfl,d2,_,12,rfl,x1.p2,.inl rfl,.inr ⟨by rw[cW];omega,fun H' s'=>qe _ (by rw[cq.due,if_neg (by rw[hn];simp),if_neg hm,if_neg hx,if_pos hl]) H' (s1.trans s')⟩⟩
  refine⟨rfl,d2,_,12,rfl,x1.p2,.inl rfl,.inl ⟨by rw[cW];omega,?_⟩⟩
  walk_at "z"
  refine bW x1.at_ C.aJ C.bJ dM ?_
  walk_at "z"
  refine HL x1.p2 (by rw[cW];exact QE (show _<1000 by omega) bo) ?_
  rw[FQ hm]
  refine qn (by rw[cq.due,if_neg (by rw[hn];simp),if_neg hm,if_neg hx,if_neg hl]) _ [c,d1,d2,w] ⟨dx,d1,d2,w,wt,x1.setC (cs:=s.cs++[(n,x)]) ?_,rfl⟩ ((b7.of s1).trans (b7.upd x1.p2 (by intro xs z;cases z) (by simp))) ji.refl
  rw[Rk]
  exact uT X.nd2 hm
 ·have hn:dw n=false:=by simpa using hn
  exact⟨rfl,n,d2,_,rfl,X.p2,hz,.inr (.inl ⟨hn,qe _ (by rw[cq.due,if_pos hn])⟩)⟩
theorem yz(C:gY K):∀vs H Q E,jM K vs H Q E->jR K E {nx:=fun _ H'=>Q .non H',rt:=Q} (start ["self","voter","work"] vs) H:=by
 rintro vs H Q E ⟨_,c,v,n,fp,s,rfl,⟨dx,d1,d2,w,wt,X,rfl⟩,hz1,hz2,ha,hl,qn,qe⟩
 have hwl:s.ws.length=wt.length:=Qw X.wt
 unfold jR
 walk_at "q"
 walk_at "z"
 refine cC X.at_ (dy (by decide +kernel)) ?_
 walk_at "z"
 by_cases hv:v∈s.ps.map (·.1)
 rotate_left
 ·exact⟨rfl,c,v,_,s,rfl,⟨dx,d1,d2,w,wt,X,rfl⟩,.inr ⟨hv,hz1,qe _ (by rw[cq.due,if_neg hv])⟩⟩
 have a1:=hz1.1
 have a2:=hz2.1
 refine⟨rfl,c,v,_,s,rfl,⟨dx,d1,d2,w,wt,X,rfl⟩,.inl ⟨hv,?_⟩⟩
 walk_at "z"
 walk_at "q"
 walk_at "z"
 refine cC X.at_ (dy (by decide +kernel)) ?_
 walk_at "z"
 by_cases hn:n∈s.cs.map (·.1)
 rotate_left
 ·exact⟨rfl,c,n,_,s,rfl,⟨dx,d1,d2,w,wt,X,rfl⟩,.inr ⟨hn,hz2,qe _ (by rw[cq.due,if_pos hv,if_neg hn])⟩⟩
 have q:=qn (by rw[cq.due,if_pos hv,if_pos hn])
 refine⟨rfl,c,n,_,s,rfl,⟨dx,d1,d2,w,wt,X,rfl⟩,.inl ⟨hn,?_⟩⟩
 walk_at "z"
 rename_i t H1 f1 s1 h1
 have X1:=X.same s1
 refine bW X1.at_ C.aJ C.bQ fZ ?_
 refine Ej (p:=(v,n)) h1 X1.w_ X1.wt a1 a2 ha ?_
 rw[TZ]
 by_cases hin:(v,n)∈s.ws
 ·have hS:HD s v n=s:=if_pos hin
  rw[show decide ((v,n)∈s.ws)=true from decide_eq_true hin]
  walk_at "z"
  exact q H1 _ (by rw[hS];exact⟨dx,d1,d2,w,wt,X1,rfl⟩) (b7.of s1) ji.refl
 ·have hS:HD s v n={s with ws:=s.ws++[(v,n)]}:=if_neg hin
  rw[show decide ((v,n)∈s.ws)=false from decide_eq_false hin]
  walk_at "z"
  refine bW X1.at_ C.aJ C.bQ fZ ?_
  exists NY X1.w_
  walk_at "z"
  rename_i t2 H2 f2 s2 h2
  have X2:=X1.same s2
  refine gk X2.w_ (by rw[P7,<-hwl];exact QE (show _<1000 by omega) bo) ?_
  rw[show wt.map V.ref++[V.ref t2]=(wt++[t2]).map V.ref by simp]
  exact q _ [c,d1,d2,w] (by rw[hS];exact⟨dx,d1,d2,w,wt++[t2],X2.addW h2,rfl⟩) ((b7.of (s1.trans s2)).trans (b7.upd X2.w_ (by intro xs z;cases z) (by simp))) ji.refl
theorem uC(C:gY K):∀vs H Q E,gE K vs H Q E->gJ K E {nx:=fun _ H'=>Q .non H',rt:=Q} (start ["self","voter","work"] vs) H:=by
 rintro vs H Q E ⟨_,c,v,n,fp,s,rfl,⟨dx,d1,d2,w,wt,X,rfl⟩,hz1,hz2,ha,hl,qn,qe⟩
 have hwl:s.ws.length=wt.length:=Qw X.wt
 unfold gJ
 walk_at "q"
 walk_at "z"
 refine cC X.at_ (dy (by decide +kernel)) ?_
 walk_at "z"
 by_cases hv:v∈s.ps.map (·.1)
 rotate_left
 ·exact⟨rfl,c,v,_,s,rfl,⟨dx,d1,d2,w,wt,X,rfl⟩,.inr ⟨hv,hz1,qe _ (by rw[cq.due,if_neg hv])⟩⟩
 have a1:=hz1.1
 have a2:=hz2.1
 refine⟨rfl,c,v,_,s,rfl,⟨dx,d1,d2,w,wt,X,rfl⟩,.inl ⟨hv,?_⟩⟩
 walk_at "z"
 walk_at "q"
 walk_at "z"
 refine cC X.at_ (dy (by decide +kernel)) ?_
 walk_at "z"
 by_cases hn:n∈s.cs.map (·.1)
 rotate_left
 ·exact⟨rfl,c,n,_,s,rfl,⟨dx,d1,d2,w,wt,X,rfl⟩,.inr ⟨hn,hz2,qe _ (by rw[cq.due,if_pos hv,if_neg hn])⟩⟩
 have q:=qn (by rw[cq.due,if_pos hv,if_pos hn])
 refine⟨rfl,c,n,_,s,rfl,⟨dx,d1,d2,w,wt,X,rfl⟩,.inl ⟨hn,?_⟩⟩
 walk_at "z"
 refine bW X.at_ C.aJ C.bQ fZ ?_
 exists w,rfl,⟨_,aY.of X.w_⟩
 refine kD (dE (K:=K) (a:=w) (xs:=wt.map V.ref) 0) (fun i=>[some ((wt.map V.ref).getD i .non),some (.str v),some (.str n)]) (by rintro j σ' (rfl|⟨k,rfl⟩)<;>rfl) (fun H' s'=>s'.seq (aY.of X.w_)) (by rw[P7];exact P6 (show _<=1000 by omega) bo)
  (fun i=>!decide (s.ws.getD i ("","")=(v,n))) (fun i=>(wt.map V.ref).getD i .non) ?_ ?_ ?_
 ·intro i hi H' G s' kk
  have hi:i<s.ws.length:=by rw[hwl];simpa using hi
  obtain⟨b',z1,z2⟩:=gx X.wt (Qj hi)
  have et:(wt.map V.ref).getD i .non=.ref b':=by simp[Qm,z1]
  have eg:s.ws.getD i ("","")=s.ws[i]:=by rw[QD,Qj hi];rfl
  have hai:=ha s.ws[i] (RC hi)
  rw[et]
  rw[eg]at kk
  walk_at "z"
  rename_i t H2 f2 s2 h2
  refine L2.Mz (n:=4) (d:=EV s.ws[i]) (e:=EV (v,n)) (.tup (kN.of (s2 _ _ (s' _ _ z2))) (.cons (.str _) (.cons (.str _) .nil))) (.tup (kN.of h2) (.cons (.str _) (.cons (.str _) .nil))) (Ad hai.1 hai.2) (Ad a1 a2) (by decide) ?_
  rw[Ib]
  walk_at "z"
  exact kk H2 s2
 ·intro i hi hb H' G s' kk
  walk_at "z"
  exact kk H' (av.refl _)
 intro l H3 f3 s3 h3
 have X3:=X.same s3
 have hp:∃bs:List PK,H3 l=some (.lst (bs.map V.ref))/\Qd (Br H3) (s.ws.filter fun p=>!decide (p=(v,n))) bs:=by
  refine⟨((P4 (wt.map V.ref).length).filter fun i=>!decide (s.ws.getD i ("","")=(v,n))).map (fun i=>wt.getD i 0),?_,?_⟩
  ·rw[h3,Qn]
   congr 2
   refine Sw fun i hi=>?_
   have hi:i<wt.length:=by simpa using Q6.mp (QL.mp hi).1
   simp[Qm,hi]
  ·rw[<-iN (fun p:PH×PH=>!decide (p=(v,n))) ("","") s.ws,hwl,P7]
   have go:∀is:List Nat,(∀i∈is,i<wt.length)->Qd (Br H3) (is.map fun i=>s.ws.getD i ("","")) (is.map fun i=>wt.getD i 0):=by
    intro is
    induction is with
    |nil=>exact fun _=>.nil
    |cons i r ih=>
     intro h
     have hi:=h i (by simp)
     refine .cons ?_ (ih fun j hj=>h j (by simp[hj]))
     obtain⟨b',z1,z2⟩:=gx X3.wt (Qj (show i<s.ws.length by omega))
     show Br H3 (s.ws.getD i ("","")) (wt.getD i 0)
     rw[QD,QD,z1,Qj (show i<s.ws.length by omega)]
     exact z2
   exact go _ fun i hi=>by simpa using Q6.mp (QL.mp hi).1
 obtain⟨bs,h3',hp⟩:=hp
 walk_at "z"
 refine lP X3.at_ C.aJ C.bQ (show 6<1000 by decide) ?_
 rw[sL]
 have X4:=X3.setW h3' hp
 refine q _ [c,d1,d2,l] ⟨dx,d1,d2,l,bs,X4,rfl⟩ ((b7.of s3).trans (b7.upd X3.at_ (by intro xs z;cases z) (by simp))) ?_
 intro a ha
 simp only[Qa,Rf,or_false]at ha
 rcases ha with rfl|rfl|rfl|rfl
 ·exact .inl (by simp)
 ·exact .inl (by simp)
 ·exact .inl (by simp)
 ·exact .inr f3
theorem Ay:∀vs H Q E,kd K vs H Q E->kR K E {nx:=fun _ H'=>Q .non H',rt:=Q} (start ["chest","deed","word","last"] vs) H:=by
 rintro vs H Q E ⟨_,c,w,a,b,fp,s,rfl,CH,G,tw,ta,tb,q⟩
 obtain⟨dx,d1,d2,wl,wt,X,efp⟩:=id CH
 unfold kR
 unfold yc at q
 walk_at "q"
 walk_at "z"
 refine dJ (fun h=>?_) (fun h=>?_)
 ·rw[if_pos h]at q
  walk_at "z"
  refine cC X.at_ (dy (by decide +kernel)) ?_
  walk_at "z"
  refine⟨rfl,b,rfl,tb.1,P6 tb.2 (by decide),fun hn n H1 n0 nl hz s1=>?_,fun hn H1 s1=>?_⟩
  ·rw[if_pos hn]at q
   have en:CA b=n:=by
    obtain⟨m,m0,_,m1,m2,_⟩:=xC hn
    have:CA b=m:=by unfold CA;rw[m1];rfl
    rw[this]
    exact IL m0 n0 (m2.trans hz.symm)
   rw[en]at q
   walk_at "z"
   refine⟨rfl,c,a,n,fp,s,rfl,CH.same s1,ta,fun hd H2 fp2 x2 b2 n2=>?_,fun cl hd H2 s2=>q.2 cl hd H2 (s1.trans s2)⟩
   walk_at "z"
   exact q.1 hd H2 fp2 x2 ((b7.of s1).trans b2) (fun y hy=>by
    rcases n2 y hy with z|z
    ·exact .inl z
    ·exact .inr (s1.free z))
  ·rw[if_neg (by rw[hn];simp)]at q
   exact q H1 s1
 rw[if_neg h]at q
 walk_at "z"
 refine dJ (fun h=>?_) (fun h=>?_)
 ·rw[if_pos h]at q
  walk_at "z"
  refine cC X.at_ (dy (by decide +kernel)) ?_
  walk_at "z"
  refine⟨rfl,c,a,b,fp,s,rfl,CH,ta,tb,G.g.aw,G.g.wl,fun hd H2 fp2 x2 b2 n2=>?_,q.2⟩
  walk_at "z"
  exact q.1 hd H2 fp2 x2 b2 n2
 rw[if_neg h]at q
 walk_at "z"
 refine dJ (fun h=>?_) (fun h=>?_)
 ·rw[if_pos h]at q
  walk_at "z"
  refine cC X.at_ (dy (by decide +kernel)) ?_
  walk_at "z"
  refine⟨rfl,c,a,b,fp,s,rfl,CH,ta,tb,G.g.aw,G.g.wl,fun hd H2 fp2 x2 b2 n2=>?_,q.2⟩
  walk_at "z"
  exact q.1 hd H2 fp2 x2 b2 n2
 rw[if_neg h]at q
 walk_at "z"
 obtain⟨f1,f2,f3⟩:=wu tw (a:="no row of three words: ") (n:=23) (by decide +kernel) (by decide)
 exact⟨_,rfl,f1,_,rfl,w,rfl,f2,_,rfl,f3,f3,(by decide:1<=PZ),q _ (av.refl _)⟩
theorem DV{H H1:Hp}{d dx c:PK}{fpc:List PK}{s:aG}{Q:VK}{E:XK}{A:Act}(hd:H d=some (.ins (ao K "Desk") dx [("chest",.ref c)]))(dn:d∉fpc)(s1:av H H1)(cth:∀x∈fpc,H x≠none)
  (q:xr K (fun H' fp' s'=>cE K H' d fp' s') H (d::fpc) s Q E A):xr K (fun H' fp' s'=>aO K H' c fp' s') H1 fpc s Q E A:=by
 have key:∀(H':Hp)(fp':List PK)(s':aG),aO K H' c fp' s'->b7 fpc H1 H'->ji fpc fp' H1->cE K H' d (d::fp') s'/\b7 (d::fpc) H H'/\ji (d::fpc) (d::fp') H:=fun H' fp' s' x b n=>by
  have b0:=(b7.of (l:=fpc) s1).trans b
  have n0:ji fpc fp' H:=fun y hy=>by
   rcases n y hy with z|z
   ·exact .inl z
   ·exact .inr (s1.free z)
  refine⟨⟨dx,c,fp',b0.1 _ _ dn hd,x,fun m=>?_,rfl⟩,b0.mono (fun y hy=>Qs _ hy),fun y hy=>?_⟩
  ·rcases n0 d m with z|z
   ·exact dn z
   ·rw[z]at hd;cases hd
  ·rcases Qa.mp hy with rfl|hy
   ·exact .inl (by simp)
   ·rcases n0 y hy with z|z
    ·exact .inl (Qs _ z)
    ·exact .inr z
 cases A with
 |deed D=>
  refine⟨fun hn H' fp' x b n=>?_,fun cl hc H' s'=>q.2 cl hc H' (s1.trans s')⟩
  obtain⟨k1,k2,k3⟩:=key H' fp' _ x b n
  exact q.1 hn H' _ k1 k2 k3
 |close=>
  intro H' fp' x b n
  obtain⟨k1,k2,k3⟩:=key H' fp' _ x b n
  exact q H' _ k1 k2 k3
 |tell t=>exact fun H' s'=>q H' (s1.trans s')
 |no cl=>exact fun H' s'=>q H' (s1.trans s')
theorem Dd(C:gY K):∀vs H Q E,jn K vs H Q E->ml K E {nx:=fun _ H'=>Q .non H',rt:=Q} (start ["self","row","words"] vs) H:=by
 rintro vs H Q E ⟨_,d,row,fp,s,rfl,⟨dx,c,fpc,hd,CH,dn,rfl⟩,G,tr,q⟩
 unfold ml
 have hsp:∀p∈QK row " ",Tx p:=fun p hp=>⟨DG tr.1 hp,P6 (JS hp) tr.2⟩
 have hlen:(QK row " ").length<=1001:=by have h1:=split_len row;have h2:=tr.2;omega
 have hsz:=size_eq
 have lkc:([("chest",V.ref c)]:List (PH×V)).lookup ("chest":PH)=some (.ref c):=by simp[Rj]
 walk_at "q"
 walk_at "z"
 refine⟨rfl,row,rfl,tr.1,P6 tr.2 (by decide),fun hne l fl=>?_,fun hin H1 s1=>?_⟩
 rotate_left
 ·unfold df at q
  rw[if_pos hin]at q
  exact q H1 s1
 unfold df at q
 rw[if_neg hne]at q
 have s1:av H (upd H l (.lst ((QK row " ").map V.str))):=av.updN fl
 have hl:(upd H l (.lst ((QK row " ").map V.str))) l=some (.lst ((QK row " ").map V.str)):=ax
 generalize upd H l (.lst ((QK row " ").map V.str))=H1 at *
 generalize QK row " "=ws at *
 have hml:(ws.map V.str).length=ws.length:=P7 _
 have go:=fun A=>DV (A:=A) (Q:=Q) (E:=E) (s:=s) hd dn s1 (CH.there)
 have CH1:=CH.same s1
 have hd1:=s1 _ _ hd
 walk_at "z"
 walk_at "q"
 walk_at "z"
 rw[hml]
 refine dJ (fun h=>?_) (fun h=>?_)
 ·obtain⟨w,rfl⟩:∃w,ws=[w]:=List.length_eq_one_iff.mp (by exact_mod_cast h)
  walk_at "z"
  refine bW hd1 C.Ab C.hG lkc ?_
  walk_at "z"
  refine cz (aY.of hl) (bM (j:=0) rfl) ?_
  walk_at "z"
  exact⟨rfl,c,w,fpc,s,rfl,CH1,G,hsp w (by simp),go _ q⟩
 walk_at "z"
 walk_at "q"
 walk_at "z"
 rw[hml]
 refine dJ (fun h2=>?_) (fun h2=>?_)
 ·obtain⟨w,a,rfl⟩:∃w a,ws=[w,a]:=by
   have e:ws.length=2:=by exact_mod_cast h2
   match ws,e with
   |[w,a],_=>exact⟨w,a,rfl⟩
  walk_at "z"
  refine bW hd1 C.Ab C.hG lkc ?_
  walk_at "z"
  refine cz (aY.of hl) (bM (j:=0) rfl) ?_
  walk_at "z"
  refine cz (aY.of hl) (bM (j:=1) rfl) ?_
  walk_at "z"
  exact⟨rfl,c,w,a,fpc,s,rfl,CH1,G,hsp w (by simp),hsp a (by simp),go _ q⟩
 walk_at "z"
 walk_at "q"
 walk_at "z"
 rw[hml]
 refine dJ (fun h3=>?_) (fun h3=>?_)
 ·obtain⟨w,a,b,rfl⟩:∃w a b,ws=[w,a,b]:=by
   have e:ws.length=3:=by exact_mod_cast h3
   match ws,e with
   |[w,a,b],_=>exact⟨w,a,b,rfl⟩
  walk_at "z"
  refine bW hd1 C.Ab C.hG lkc ?_
  walk_at "z"
  refine cz (aY.of hl) (bM (j:=0) rfl) ?_
  walk_at "z"
  refine cz (aY.of hl) (bM (j:=1) rfl) ?_
  walk_at "z"
  refine cz (aY.of hl) (bM (j:=2) rfl) ?_
  walk_at "z"
  exact⟨rfl,c,w,a,b,fpc,s,rfl,CH1,G,hsp w (by simp),hsp a (by simp),hsp b (by simp),go _ q⟩
 walk_at "z"
 have qn:cA K H E "NoRow":=by
  match ws,q,h,h2,h3 with
  |[],q,_,_,_=>exact q
  |[_],_,h,_,_=>exact absurd rfl h
  |[_,_],_,_,h2,_=>exact absurd rfl h2
  |[_,_,_],_,_,_,h3=>exact absurd rfl h3
  |_::_::_::_::_,q,_,_,_=>exact q
 obtain⟨f1,f2,f3⟩:=wu tr (a:="too many words: ") (n:=16) (by decide +kernel) (by decide)
 exact⟨_,rfl,f1,_,rfl,row,rfl,f2,_,rfl,f3,f3,(by decide:1<=PZ),qn _ s1⟩
structure PB(K:PM)(cl:PH):Prop where
 i:(Rp K (ao K cl)).isSome=true
 ek:my K (ao K cl)
 m:RY K (.ref (ao K cl)) (.ref (ao K "PurseError"))=some true
 t:Qb K (.ref (ao K cl)) (.type "ValueError")=some true
 q1:Qb K (.ref (ao K cl)) (.ref (ao K "NoRow"))=some (decide (cl="NoRow"))
 q2:Qb K (.ref (ao K cl)) (.ref (ao K "NoVoter"))=some (decide (cl="NoVoter"))
 q3:Qb K (.ref (ao K cl)) (.ref (ao K "NoName"))=some (decide (cl="NoName"))
 q4:Qb K (.ref (ao K cl)) (.ref (ao K "Twice"))=some (decide (cl="Twice"))
 q5:Qb K (.ref (ao K cl)) (.ref (ao K "NoWork"))=some (decide (cl="NoWork"))
 q6:Qb K (.ref (ao K cl)) (.ref (ao K "TooMuch"))=some (decide (cl="TooMuch"))
 q7:Qb K (.ref (ao K cl)) (.ref (ao K "Full"))=some (decide (cl="Full"))
 q8:Qb K (.ref (ao K cl)) (.ref (ao K "NoPaper"))=some false
theorem nq{o:Option Bool}{b c:Bool}(h:o=some b)(e:b=c:=by decide +kernel):o=some c:=e▸h
theorem gY.fact(F:gY K){cl:PH}(h:cl="NoName"\/cl="Twice"\/cl="NoVoter"\/cl="NoWork"\/cl="TooMuch"\/cl="Full"\/cl="NoRow"):PB K cl:=by
 rcases h with rfl|rfl|rfl|rfl|rfl|rfl|rfl
 ·exact⟨F.Iy,F.Hl,F.oB,F.oy,nq F.vc,nq F.rS,nq F.uf,nq F.xE,nq F.uO,nq F.sr,nq F.yx,F.se⟩
 ·exact⟨F.Le,F.Jp,F.pG,F.pO,nq F.xN,nq F.uG,nq F.vv,nq F.yA,nq F.u7,nq F.uM,nq F.Bq,F.ug⟩
 ·exact⟨F.GX,F.Dv,F.mj,F.mY,nq F.uK,nq F.rF,nq F.sN,nq F.ud,nq F.sO,nq F.ql,nq F.xp,F.qL⟩
 ·exact⟨F.Il,F.Hi,F.ou,F.ox,nq F.vY,nq F.sq,nq F.uI,nq F.xx,nq F.ux,nq F.sC,nq F.yh,F.rU⟩
 ·exact⟨F.GD,F.EF,F.ny,F.mH,nq F.uJ,nq F.rE,nq F.sM,nq F.uo,nq F.rV,nq F.ra,nq F.vJ,F.qk⟩
 ·exact⟨F.M0,F.Lp,F.qX,F.ri,nq F.Ae,nq F.wb,nq F.yE,nq F.Bi,nq F.xT,nq F.vi,nq F.C6,F.wN⟩
 ·exact⟨F.LF,F.JM,F.pz,F.pY,nq F.ym,nq F.uN,nq F.xj,nq F.xM,nq F.wO,nq F.uz,nq F.A7,F.uA⟩
theorem zP(F:gY K):∀vs H Q E,cP K vs H Q E->kI K {nx:=fun _ H'=>Q .non H',rt:=Q} (start ["desk","row","caught","answer","e","kinds"] vs) H:=by
 rintro vs H Q E ⟨_,d,row,fp,s,rfl,DA,G,tr,q⟩
 unfold kI
 walk_at "q"
 walk_at "z"
 walk_at "q"
 walk_at "z"
 walk_at "q"
 obtain⟨dx,c,fpc,hd,ch,nd,efp⟩:=id DA
 show cD (ao K "Desk") "say" (jn K) [] _ _ _ _ _ _
 walk_at "z"
 refine cC hd (by rw[Rj,show(("say":PH)=="chest")=false by decide +kernel];rfl) ?_
 walk_at "z"
 refine⟨rfl,d,row,fp,s,rfl,DA,G,tr,Jx (fun H' s'=>DA.same s') (fun H1 fp1 t a b w e=>?_) fun cl e H1 s1=>?_⟩
 ·with_reducible refine E3 ?_
  walk_at "z"
  refine IW rfl ?_
  walk_at "z"
  exact q _ H1 fp1 a b w (by rw[e];rfl) fun l e=>nomatch e
 have C:=F.fact (LC e)
 have hnx:mh s (df s row)=s:=by
  cases ea:df s row with
  |deed D=>
   rw[ea]at e
   simp only[jS,mh]at e ⊢
   cases hd:D.due s with
   |none=>rw[hd]at e;cases e
   |some _=>rfl
  |close=>rw[ea]at e;cases e
  |tell t=>rfl
  |no c=>rfl
 rw[hnx,e]at q
 refine⟨C.m,fun x oe he h1 h2 h3=>?_⟩
 have sx:av H1 (upd H1 x (.frz oe (.own x))):=av.updN he
 have hx:ExcAt (upd H1 x (.frz oe (.own x))) x (ao K cl):=⟨oe,ax,h1,h2,h3⟩
 generalize upd H1 x (.frz oe (.own x))=H2 at *
 have st:∀{H':Hp},av H2 H'->ExcAt H' x (ao K cl):=fun s'=>by
  obtain⟨o,x1,x2⟩:=hx
  exact⟨o,s' _ _ x1,x2⟩
 walk_at "z"
 walk_at "q"
 walk_at "z"
 refine GI (by intro z;cases z) ?_
 walk_at "z"
 walk_at "q"
 walk_at "z"
 exists x,_,ao K cl,_,rfl,rfl,hx,C.i,C.ek,C.q1
 walk_at "z"
 exists x,_,ao K cl,_,rfl,rfl,hx,C.i,C.ek,C.q2
 walk_at "z"
 exists x,_,ao K cl,_,rfl,rfl,hx,C.i,C.ek,C.t
 walk_at "z"
 rename_i l3 H3 f3 s3 h3'
 have hx3:=st s3
 walk_at "q"
 walk_at "z"
 exists x,_,ao K cl,_,rfl,rfl,hx3,C.i,C.ek,C.q3
 walk_at "z"
 exists x,_,ao K cl,_,rfl,rfl,hx3,C.i,C.ek,C.q4
 walk_at "z"
 exists x,_,ao K cl,_,rfl,rfl,hx3,C.i,C.ek,C.q5
 walk_at "z"
 rename_i l4 H4 f4 s4 h4
 refine cZ (s4 _ _ h3') h4 (show 3+3<=PZ by decide) fun l5 H5 f5 s5 h5=>?_
 have s35:=s4.trans s5
 have hx5:=st (s3.trans s35)
 walk_at "z"
 exists x,_,ao K cl,_,rfl,rfl,hx5,C.i,C.ek,C.q6
 walk_at "z"
 exists x,_,ao K cl,_,rfl,rfl,hx5,C.i,C.ek,C.q7
 walk_at "z"
 exists x,_,ao K cl,_,rfl,rfl,hx5,C.i,C.ek,C.q8
 walk_at "z"
 rename_i l6 H6 f6 s6 h6
 refine cZ (s6 _ _ h5) h6 (show 6+3<=PZ by decide) fun l7 H7 f7 s7 h7=>?_
 have sa:=s1.trans (sx.trans ((s3.trans (s35.trans s6)).trans s7))
 have f0:=s1.free (sx.free ((s3.trans (s35.trans s6)).free f7))
 exact q _ H7 fp (DA.same sa) (b7.of sa) ji.refl ⟨l7,rfl,f0,by rw[h7];rfl⟩ fun l e hl=>DA.there l hl (by cases e;exact f0)
theorem Ld:∀z∈HY,Tx z:=by
 unfold Tx aV
 decide +kernel
theorem LD{ns:List PH}(h:∀z∈ns,Wd z):∀r∈oR ns,Tx r:=fun r hr=>by
 rcases QC.mp hr with hr|hr
 ·obtain⟨z,hz,rfl⟩:=P9.mp hr
  rw[Lf (w:="purse") (by decide +kernel)]
  exact qz (by simp) (by simp[kb,h z hz])
 ·exact Ld r hr
theorem zZ:∀vs H Q E,hJ K vs H Q E->lh K {nx:=fun _ H'=>Q .non H',rt:=Q} (start ["desk","names","rows"] vs) H:=by
 rintro vs H Q E ⟨_,d,b,fp,s,n,ns,rfl,DA,G,hn,hb,nb,hl,wn,q⟩
 unfold lh
 have qb:aY K H b (ns.map V.str):=aY.of hb
 have hlm:(ns.map V.str).length=19:=by simp[hl]
 have tx:=LD wn
 walk_at "q"
 walk_at "z"
 refine bD (dE (K:=K) (xs:=ns.map V.str) 0) (fun j=>[some ((ns.map V.str).getD j .non)]) (by rintro j σ' (rfl|⟨k,rfl⟩)<;>rfl) (fun H' s=>s.seq qb) (by rw[hlm];exact P6 (show 19<=1000 by decide) bo) (fun j=>.str (("purse ":PH)++ns.getD j "")) ?_ ?_
 ·intro j hj H' F s kk
  have hj:j<ns.length:=by simpa using hj
  have et:(ns.map V.str).getD j .non=.str (ns.getD j ""):=by simp[Qm,hj]
  have:=(wn _ (getD_mem (xs:=ns) "" hj)).1
  have:=show("purse ":PH).length=6 by decide +kernel
  rw[et]
  walk_at "z"
  exact kk H' (av.refl _)
 intro l1 H1 f1 s1 h1
 rw[P7,show(P4 ns.length).map (fun j=>V.str (("purse ":PH)++ns.getD j ""))=(ns.map fun z=>("purse ":PH)++z).map V.str by rw[bw (fun z=>V.str (("purse ":PH)++z)) "" ns,Qn];rfl]at h1
 walk_at "z"
 rename_i l2 H2 f2 s2 h2
 refine cZ (s2 _ _ h1) h2 (by rw[P7,P7,hl];decide) fun l3 H3 f3 s3 h3=>?_
 have h3:H3 l3=some (.lst ((oR ns).map V.str)):=by rw[h3];unfold oR;rw[Rk];rfl
 have s03:=s1.trans (s2.trans s3)
 have hrl:(oR ns).length=27:=by unfold oR;rw[QU,P7,hl];rfl
 have D3:=DA.same s03
 have n3:l3∉fp:=fun z=>DA.there _ z (s1.free (s2.free f3))
 generalize oR ns=R at *
 have hRm:(R.map V.str).length=27:=by simp[hrl]
 clear h1 h2
 walk_at "z"
 let J:PK->Nat->List V->Hp->Prop:=fun l i ys A=>∃fp',b7 fp H A/\ji fp fp' H/\cE K A d fp' (gC s (R.take i))/\l∉fp'/\A l3=some (.lst (R.map V.str))/\l3∉fp'/\l3≠l/\Qd (fun a v=>gz qQ H A v a/\∀l',v=.ref l'->l'∉fp'/\l'≠l) (rA s (R.take i)) ys
 have Js:∀{l i ys A B},J l i ys A->av A B->J l i ys B:=fun {l i ys A B} ⟨fp',b,w,D,nl,e3,nl3,ne,P⟩ sA=>⟨fp',b.trans (b7.of sA),w,D.same sA,nl,sA _ _ e3,nl3,ne,Paired.mapP P fun a v z=>⟨z.1.but (fp:=[]) (b7.of sA) (fun _ _=>by simp),z.2⟩⟩
 refine Gr (dE (K:=K) (a:=l3) (xs:=R.map V.str) 0) (fun j=>[some ((R.map V.str).getD j .non),some (.ref d)]) (by rintro j σ' (rfl|⟨k,rfl⟩)<;>rfl) (by rw[hRm];exact P6 (show 27<=1000 by decide) bo) (fun l i ys H'=>J l i ys (upd H' l (.lst ys))) ?_ ?_ ?_ ?_ ?_
 ·rintro l i ys H' ⟨fp',b,w,D,nl,e3,nl3,ne,P⟩
  rw[ak ne]at e3
  exact aY.of e3
 ·intro l H' fl s'
  have sA:av H3 (upd H' l (.lst [])):=s'.upd fl
  have f0:=s03.free fl
  exact⟨fp,b7.of (s03.trans sA),ji.refl,D3.same sA,fun z=>DA.there _ z f0,sA _ _ h3,n3,(fun e=>by rw[<-e,h3]at fl;cases fl),.nil⟩
 ·exact fun l i ys H1 H2 sx z=>Js z (El sx)
 ·intro l i ys hi H' F fl e0 z kk
  have hi:i<R.length:=by simpa using hi
  rw[BC e0]at z
  obtain⟨fp',b,w,D,nl,e3,nl3,ne,P⟩:=z
  have et:(R.map V.str).getD i .non=.str (R.getD i ""):=by simp[Qm,hi]
  rw[et]
  have GL:lL (gC s (R.take i)):=(G.look (rs:=R.take i) (by rw[QY];omega)).d
  walk_at "z"
  refine⟨rfl,d,R.getD i "",fp',_,rfl,D,GL,tx _ (getD_mem (xs:=R) "" hi),fun v H'' fp'' D' b' w' an nv=>?_⟩
  have e1:H'' l=some (.lst ys):=b'.1 _ _ nl e0
  refine kk v H'' ?_ e1
  have bu:b7 [l] H'' (upd H'' l (.lst (ys++[v]))):=b7.upd e1 (fun _=>by intro z;cases z) (by simp)
  have nl':l∉fp'':=fun z=>by
   rcases w' l z with h|h
   ·exact nl h
   ·rw[e0]at h;cases h
  have nl3':l3∉fp'':=fun z=>by
   rcases w' l3 z with h|h
   ·exact nl3 h
   ·rw[e3]at h;cases h
  obtain⟨k1,k2⟩:=zi s (R.take i) (R.getD i "")
  have w'':ji fp fp'' H:=fun a ha=>by
   rcases w' a ha with h|h
   ·exact w a h
   ·exact .inr (b.2.2 a h)
  exists fp'',?_,w'',?_,nl',?_,nl3',ne
  ·have f0:=s03.free fl
   refine⟨fun a o na ha=>?_,fun a xs ha=>?_,fun a ha=>?_⟩
   ·have e:a≠l:=fun e=>by rw[e,f0]at ha;cases ha
    have h1:=b.1 a o na ha
    rw[ak e]
    refine b'.1 a o (fun z=>?_) h1
    rcases w a z with h|h
    ·exact na h
    ·rw[ha]at h;cases h
   ·have e:a≠l:=fun e=>by rw[e,f0]at ha;cases ha
    rw[ak e]
    exact b'.2.1 a xs (b.2.1 a xs ha)
   ·by_cases e:a=l
    ·rw[e,ax]at ha;cases ha
    ·rw[ak e]at ha
     exact b.2.2 a (b'.2.2 a ha)
  ·rw[yY hi,k2]
   exact D'.but bu fun a ha=>by
    have:a≠l:=fun e=>nl' (e▸ha)
    simpa using this
  ·rw[ak ne]
   exact b'.1 _ _ nl3 e3
  ·rw[yY hi,k1]
   have hb2:gz qQ H H'' v (jS (gC s (R.take i)) (df (gC s (R.take i)) (R.getD i ""))):=by
    revert an
    cases jS (gC s (R.take i)) (df (gC s (R.take i)) (R.getD i ""))with
    |txt t=>exact fun z=>z
    |kin cl=>rintro⟨l2,e2,f2,e3⟩;exact⟨l2,e2,b.2.2 _ f2,e3⟩
   have hq:∀l',v=.ref l'->l'≠l:=fun l' e z=>by
    subst z
    revert an
    cases jS (gC s (R.take i)) (df (gC s (R.take i)) (R.getD i ""))with
    |txt t=>intro z1;rw[z1]at e;cases e
    |kin cl=>rintro⟨l2,e2,f2,_⟩;rw[e2]at e;cases e;rw[e0]at f2;cases f2
   refine jl (Paired.mapP P fun a u z=>⟨gz.but bu (fun l' e=>by have:=(z.2 l' e).2;simpa using this) (z.1.but b' fun l' e=>(z.2 l' e).1),fun l' e=>⟨fun m=>?_,(z.2 l' e).2⟩⟩) ⟨gz.but bu (fun l' e=>?_) ?_,fun l' e=>⟨nv l' e,?_⟩⟩
   ·rcases w' l' m with h|h
    ·exact(z.2 l' e).1 h
    ·obtain⟨z1,_⟩:=z
     revert z1
     cases a with
     |txt t=>intro z1;rw[z1]at e;cases e
     |kin cl=>rintro⟨l2,e2,_,e3⟩;rw[e2]at e;cases e;rw[e3]at h;cases h
   ·have:=hq l' e
    simpa using this
   ·exact hb2
   ·exact hq l' e
 ·intro l ys H' fl e0 z
  rw[BC e0]at z
  obtain⟨fp',b,w,D,nl,e3,nl3,ne,P⟩:=z
  rw[hRm,<-hrl,U2]at D P
  exact q l H' fp' ys b w D (s03.free fl) nl e0 (Paired.mapP P fun a v z=>⟨z.1,fun l' e=>(z.2 l' e).1⟩)
theorem ph:∀vs H Q E,dC K vs H Q E->eR K {nx:=fun _ H'=>Q .non H',rt:=Q} (start ["xs","names","name","other","good"] vs) H:=by
 rintro vs H Q E ⟨_,a,b,xs,ns,rfl,qa,qb,hx,hn,q⟩
 unfold eR
 have hl:0<((ns.map V.str).length:Int):=by rw[P7,hn];decide
 obtain⟨x0,e0⟩:=nO (xs:=xs) (k:=0) (by omega)
 obtain⟨x1,e1⟩:=nO (xs:=xs) (k:=1) (by omega)
 obtain⟨x2,e2⟩:=nO (xs:=xs) (k:=2) (by omega)
 obtain⟨n,mn,en⟩:=xD (K:=K) hn x1
 obtain⟨o,mo,eo⟩:=xD (K:=K) hn x2
 walk_at "q"
 walk_at "z"
 refine cz qa e1 ?_
 walk_at "z"
 refine cz qb en ?_
 walk_at "z"
 walk_at "q"
 walk_at "z"
 refine cz qa e2 ?_
 walk_at "z"
 refine cz qb eo ?_
 walk_at "z"
 walk_at "q"
 walk_at "z"
 rename_i p1 K1 f1 s1 h1 p2 K2 f2 s2 h2 p3 K3 f3 s3 h3 p4 K4 f4 s4 h4 p5 K5 f5 s5 h5 p6 K6 f6 s6 h6 p7 K7 f7 s7 h7
 have P:PG H H [] []:=⟨av.refl H,.nil⟩
 have P:=((((((P.snoc f1 s1 (g:=["enrol",n]) h1).snoc f2 s2 (g:=["leave",n]) h2).snoc f3 s3 (g:=["give","5"]) h3).snoc f4 s4 (g:=["propose",n,"7"]) h4).snoc f5 s5 (g:=["withdraw",n]) h5).snoc f6 s6 (g:=["close"]) h6)
 have P:=P.same s7
 clear h1 h2 h3 h4 h5 h6
 walk_at "q"
 walk_at "z"
 rename_i p8 K8 f8 s8 h8 p9 K9 f9 s9 h9 p10 K10 f10 s10 h10 p11 K11 f11 s11 h11 p12 K12 f12 s12 h12 p13 K13 f13 s13 h13 p14 K14 f14 s14 h14
 have P:=((((((P.snoc f8 s8 (g:=["want",n,o]) h8).snoc f9 s9 (g:=["unwant",n,o]) h9).snoc f10 s10 (g:=["purse",n]) h10).snoc f11 s11 (g:=["pot"]) h11).snoc f12 s12 (g:=["works"]) h12).snoc f13 s13 (g:=["spent"]) h13)
 have P:=P.same s14
 have h7:=(s8.trans (s9.trans (s10.trans (s11.trans (s12.trans (s13.trans s14)))))) _ _ h7
 clear h8 h9 h10 h11 h12 h13
 refine cZ h7 h14 (show 6+6<=PZ by decide) fun p15 K15 f15 s15 h15=>?_
 have P:=P.same s15
 have qa':=P.1.seq qa
 walk_at "z"
 rename_i p16 K16 f16 s16 h16 p17 K17 f17 s17 h17
 have P:=(P.snoc f16 s16 (g:=["given"]) h16).same s17
 refine cZ ((s16.trans s17) _ _ h15) h17 (show 12+1<=PZ by decide) fun p18 K18 f18 s18 h18=>?_
 have P:=P.same s18
 walk_at "z"
 refine cz (P.1.seq qa) e0 ?_
 walk_at "z"
 obtain⟨l,g,mg,fl,el,ei⟩:=CF (n:=13) x0 P.2 rfl (by decide)
 refine cz (aY.of h18) ei ?_
 walk_at "z"
 exact q l g n o _ mn mo mg fl P.1 el
theorem pC:∀vs H Q E,eN K vs H Q E->eL K {nx:=fun _ H'=>Q .non H',rt:=Q} (start ["word","x","words","at","some","found"] vs) H:=by
 rintro vs H Q E ⟨_,w,x,rfl,hw,q⟩
 have wl:=AJ w hw
 unfold eL
 walk_at "q"
 walk_at "z"
 rename_i l1 H1 f1 s1 h1
 walk_at "q"
 walk_at "z"
 rename_i l2 H2 f2 s2 h2
 refine cZ (s2 _ _ h1) h2 (by decide) fun l3 H3 f3 s3 h3=>?_
 have h3:H3 l3=some (.lst (WA.map V.str)):=h3
 have s03:=s1.trans (s2.trans s3)
 clear h1 h2
 walk_at "z"
 walk_at "q"
 walk_at "z"
 obtain⟨a,ea,ha⟩:∃a:Nat,x/5%(w.length:Int)=(a:Int)/\a<w.length:=⟨(x/5%(w.length:Int)).toNat,by have:=Su (x/5) (b:=(w.length:Int)) (by omega);omega,by have:=Tf (x/5) (b:=(w.length:Int)) (by omega);have:=Su (x/5) (b:=(w.length:Int)) (by omega);omega⟩
 rw[ea]
 have hA:=qy (z:=w) (b:=a) (by omega)
 have hB:=ku (z:=w) (a:=a+1) (by omega)
 have hC:=ku (z:=w) (a:=a) (by omega)
 rw[TY]at hB
 have hat:xU w.cps.toList (a:Int)=some (w.cps.toList.getD a 0):=Fq (by omega) (by rw[aP];omega)
 have hlet:isLet (w.cps.toList.getD a 0)=true:=Ir w hw _ (by
  rw[QD,Qj (by rw[aP];omega)]
  exact RC _)
 generalize hc:w.cps.toList.getD a 0=c at *
 obtain⟨w1,w2⟩:=LX hw ha hA hB hC (.inl rfl) hlet
 obtain⟨_,w3⟩:=LX hw ha hA hB hC (.inr rfl) hlet
 have lA:(QJ w none (some (a:Int))).length<=8:=by rw[<-aP,hA,QY,aP];omega
 have lB:(QJ w (some ((a:Int)+((1:Nat):Int))) none).length<=8:=by rw[<-aP,hB,Rq,aP];omega
 have lC:(QJ w (some (a:Int)) none).length<=8:=by rw[<-aP,hC,Rq,aP];omega
 have h1:∀d∈(⟨#[c]⟩:PH).cps.toList,isLet d=true:=fun d hd=>by
  have:d=c:=by simpa using hd
  rw[this];exact hlet
 have lU:=AO h1
 have l1:(⟨#[c]⟩:PH).length=1:=rfl
 have e1:(((1:Nat):Int))=1:=rfl
 rw[e1]at w1 w2 w3 lB
 walk_at "q"
 walk_at "z"
 exists w,_,c,rfl,rfl,by rw[size_eq];omega,hat
 walk_at "z"
 refine i9 (by rw[Qv];omega) ?_
 walk_at "z"
 exists w,_,c,rfl,rfl,by rw[size_eq];omega,hat
 walk_at "z"
 refine Fc h1 (by omega) ?_
 walk_at "z"
 refine i9 (by rw[Qv];omega) ?_
 walk_at "z"
 rename_i l4 H4 f4 s4 h4
 walk_at "q"
 walk_at "z"
 rename_i l5 H5 f5 s5 h5
 obtain⟨z6,m6,e6⟩:=mX (zs:=Pu) (x:=x/5) (n:=6) rfl (by decide)
 refine cz (aY.of h5) e6 ?_
 walk_at "z"
 refine Iu ?_
 have lT:=(og (x/5)).2
 walk_at "z"
 rename_i l6 H6 f6 s6 h6
 refine cZ (s6 _ _ (s5 _ _ h4)) h6 (show 3+2<=PZ by decide) fun l7 H7 f7 s7 h7=>?_
 have sA:=s03.trans (s4.trans (s5.trans (s6.trans s7)))
 have qW:aY K H7 l3 (WA.map V.str):=aY.of ((s4.trans (s5.trans (s6.trans s7))) _ _ h3)
 obtain⟨z,mz,ez⟩:=mX (zs:=[QJ w none (some (a:Int))++QJ w (some ((a:Int)+1)) none,QJ w none (some (a:Int))++⟨#[c]⟩++QJ w (some (a:Int)) none,QJ w none (some (a:Int))++Ff ⟨#[c]⟩++QJ w (some ((a:Int)+1)) none,z6,w++um (x/5)]) (x:=x) (n:=5) rfl (by decide)
 have hz:Wd z:=by
  simp only[Qa,Rf,or_false]at mz
  rcases mz with rfl|rfl|rfl|rfl|rfl
  ·exact w1
  ·exact w2 _ (.inr rfl)
  ·exact w3 _ (.inl rfl)
  ·exact MX _ m6
  ·exact iJ (hW.1 w hw) (og _).1 (by omega)
 walk_at "z"
 walk_at "q"
 walk_at "z"
 refine cz (aY.of h7) ez ?_
 walk_at "z"
 walk_at "q"
 walk_at "z"
 refine Mu qW ?_
 walk_at "z"
 refine dJ (fun _=>?_) fun hn=>?_
 ·walk_at "z"
  exact q _ _ (by decide +kernel) hW.2.2.2.1 sA
 ·walk_at "z"
  exact q _ _ hn hz sA
theorem xt:∀vs H Q E,fz K vs H Q E->jf K {nx:=fun _ H'=>Q .non H',rt:=Q} (start ["x","some"] vs) H:=by
 rintro vs H Q E ⟨_,x,rfl,q⟩
 unfold jf
 walk_at "q"
 walk_at "z"
 refine⟨"0",13,rfl,rfl,by decide,by decide,by decide +kernel,?_⟩
 refine i9 (by decide +kernel) ?_
 walk_at "z"
 rename_i l H1 f1 s1 h1
 walk_at "z"
 obtain⟨z,hz,e⟩:=mX (zs:=LZ) (x:=x) (n:=15) rfl (by decide)
 refine cz (aY.of h1) e ?_
 exact q z _ (zx z hz).1 (zx z hz).2 s1
theorem Bx:∀vs H Q E,mq K vs H Q E->mP K {nx:=fun _ H'=>Q .non H',rt:=Q} (start ["xs","names","name","words","way"] vs) H:=by
 rintro vs H Q E ⟨_,a,b,xs,ns,rfl,qa,qb,hx,hn,wn,q⟩
 unfold mP
 have hl:0<((ns.map V.str).length:Int):=by rw[P7,hn];decide
 obtain⟨x1,e1⟩:=nO (xs:=xs) (k:=1) (by omega)
 obtain⟨x3,e3⟩:=nO (xs:=xs) (k:=3) (by omega)
 obtain⟨x4,e4⟩:=nO (xs:=xs) (k:=4) (by omega)
 obtain⟨x5,e5⟩:=nO (xs:=xs) (k:=5) (by omega)
 obtain⟨m,mm,em⟩:=xD (K:=K) hn x1
 have wm:=wn m mm
 obtain⟨wa,w5,w7,wr,w0,_⟩:=hW
 walk_at "q"
 walk_at "z"
 refine cz qa e1 ?_
 walk_at "z"
 refine cz qb em ?_
 walk_at "z"
 walk_at "q"
 walk_at "z"
 refine⟨rfl,a,b,xs,ns,rfl,qa,qb,hx,hn,fun l g n o H1 mn mo mg f1 s1 h1=>?_⟩
 have qa1:=s1.seq qa
 have gw:=C3 (wn n mn) (wn o mo) mg
 have hsz:1<=g.length/\g.length<=3:=by obtain⟨w,r,rfl,_,_,hr⟩:=nW mg;simp;omega
 walk_at "z"
 walk_at "q"
 walk_at "z"
 refine cz qa1 e3 ?_
 walk_at "z"
 walk_at "q"
 walk_at "z"
 refine dJ (fun _=>?_) fun _=>?_
 ·walk_at "z"
  rename_i l2 H2 f2 s2 h2
  refine cz (s2.seq qa1) e4 ?_
  walk_at "z"
  obtain⟨e,me,ee⟩:=mX (zs:=[m,"7","close"]) (x:=x4) (n:=3) rfl (by decide)
  have we:Wd e:=by
   simp only[Qa,Rf,or_false]at me
   rcases me with rfl|rfl|rfl
   ·exact wm
   ·exact w7
   ·exact wa _ (by decide +kernel)
  refine cz (aY.of h2) ee ?_
  walk_at "z"
  rename_i l3 H3 f3 s3 h3
  refine cZ ((s2.trans s3) _ _ h1) h3 (by rw[P7,size_eq];simp;omega) fun l4 H4 f4 s4 h4=>?_
  exact q l4 (g++[e]) H4 (Io (wn n mn) (wn o mo) we mg) (by simp;omega) (fun w hw=>by
   rcases QC.mp hw with hw|hw
   ·exact gw w hw
   ·rw[QR.mp hw];exact we) (s1.free (s2.free (s3.free f4))) (s1.trans (s2.trans (s3.trans s4))) (by rw[h4];simp)
 walk_at "z"
 walk_at "q"
 walk_at "z"
 refine dJ (fun _=>?_) fun _=>?_
 ·walk_at "z"
  refine cz qa1 e4 ?_
  walk_at "z"
  obtain⟨j,ej,hj⟩:∃j:Nat,x4%((g.map V.str).length:Int)=(j:Int)/\j<g.length:=by
   rw[P7]
   have:=Su x4 (b:=(g.length:Int)) (by omega)
   have:=Tf x4 (b:=(g.length:Int)) (by omega)
   exact⟨(x4%(g.length:Int)).toNat,by omega,by omega⟩
  refine LQ (by rw[P7];omega) ?_
  rw[ej]
  walk_at "z"
  rename_i l2 H2 f2 s2 h2
  rw[JV,<-UB]at h2
  exact q l2 (g.take j) H2 (JG (wn n mn) (wn o mo) mg hj) (by rw[QY];omega) (fun w hw=>gw w (Sl hw)) (s1.free f2) (s1.trans s2) h2
 walk_at "z"
 walk_at "q"
 walk_at "z"
 refine dJ (fun _=>?_) fun _=>?_
 ·walk_at "z"
  refine cz qa1 e4 ?_
  walk_at "z"
  refine⟨rfl,x4,rfl,fun z1 H2 b1 wz1 s2=>?_⟩
  walk_at "z"
  rename_i l3 H3 f3 s3 h3
  refine cz ((s2.trans s3).seq qa1) e4 ?_
  walk_at "z"
  refine⟨rfl,x4,rfl,fun z2 H4 b2 wz2 s4=>?_⟩
  walk_at "z"
  rename_i l5 H5 f5 s5 h5 l6 H6 f6 s6 h6
  have P:PG H H2 [] []:=⟨s1.trans s2,.nil⟩
  have P:=((P.snoc f3 s3 (g:=["give",z1]) h3).same s4).snoc f5 s5 (g:=["propose",m,z2]) h5
  have P:=P.same s6
  refine cz (((s2.trans s3).trans (s4.trans (s5.trans s6))).seq qa1) e5 ?_
  walk_at "z"
  obtain⟨l7,g7,m7,fl,el,ei⟩:=CF (n:=2) x5 P.2 rfl (by decide)
  refine cz (aY.of h6) ei ?_
  have hb1:=Fh wm wz1 b1
  have hb2:=Fh wm wz2 b2
  have m7:g7=(["give",z1]:List PH)\/g7=(["propose",m,z2]:List PH):=by simpa using m7
  rcases m7 with rfl|rfl
  ·exact q l7 _ _ hb1.1 (by simp) (fun w hw=>by
    rcases Qa.mp hw with rfl|hw
    ·exact wa _ (by decide +kernel)
    ·rw[QR.mp hw];exact wz1) fl P.1 el
  ·exact q l7 _ _ hb2.2 (by simp) (fun w hw=>by
    rcases Qa.mp hw with rfl|hw
    ·exact wa _ (by decide +kernel)
    ·rcases Qa.mp hw with rfl|hw
     ·exact wm
     ·rw[QR.mp hw];exact wz2) fl P.1 el
 obtain⟨w,r,eg,hw,hr,hrl⟩:=nW mg
 subst eg
 have wr2:∀y∈r,Wd y:=fun y hy=>gw y (Qs _ hy)
 have wl:=AJ w hw
 have ww:=wa w hw
 have q1:aY K H1 l ((w::r).map V.str):=aY.of h1
 have ew:xU ((w::r).map V.str) 0=some (.str w):=bM (j:=0) rfl
 have cf:iw ((w::r).map V.str) (some 1) none=r.map V.str:=Jj ((w::r).map V.str) 1
 have ct:iw ((w::r).map V.str) none (some 1)=([w]:List PH).map V.str:=(JV ((w::r).map V.str) 1).trans (by simp)
 have fin:∀(l':PK)(z:PH)(H':Hp),gb (z::r)->Wd z->H1 l'=none->av H1 H'->H' l'=some (.lst ((z::r).map V.str))->Q (.ref l') H':=fun l' z H' nr wz fl sl hl=>q l' _ H' nr (by simp;omega) (fun y hy=>by
  rcases Qa.mp hy with rfl|hy
  ·exact wz
  ·exact wr2 y hy) (s1.free fl) (s1.trans sl) hl
 have fin0:∀(l':PK)(ws:List PH)(H':Hp),("":PH)∈ws->(∀y∈ws,y=""\/y∈w::r)->ws.length<=5->H1 l'=none->av H1 H'->H' l'=some (.lst (ws.map V.str))->Q (.ref l') H':=fun l' ws H' m0 hy hl fl sl hl'=>by
  have f:∀y∈ws,Wd y:=fun y hm=>by
   rcases hy y hm with rfl|h
   ·exact w0
   ·exact gw y h
  exact q l' ws H' (Cz f m0) hl f (s1.free fl) (s1.trans sl) hl'
 walk_at "z"
 walk_at "q"
 walk_at "z"
 refine dJ (fun _=>?_) fun _=>?_
 ·walk_at "z"
  refine cz q1 ew ?_
  walk_at "z"
  refine cz qa1 e4 ?_
  walk_at "z"
  refine⟨rfl,w,x4,rfl,hw,fun z H2 nz wz s2=>?_⟩
  walk_at "z"
  rename_i l3 H3 f3 s3 h3 l4 H4 f4 s4 h4
  rw[cf]at h4
  refine cZ (s4 _ _ h3) h4 (by rw[P7,size_eq];simp;omega) fun l5 H5 f5 s5 h5=>?_
  obtain⟨n1,n2,n3⟩:=Ip nz
  exact fin l5 z H5 (va (fun y hy=>by
   rcases Qa.mp hy with rfl|hy
   ·exact wz
   ·exact wr2 y hy) n1 n2 n3) wz (s2.free (s3.free (s4.free f5))) (s2.trans (s3.trans (s4.trans s5))) h5
 walk_at "z"
 walk_at "q"
 walk_at "z"
 refine dJ (fun _=>?_) fun _=>?_
 ·walk_at "z"
  rename_i l3 H3 f3 s3 h3
  refine cZ h3 (s3 _ _ h1) (by rw[P7,size_eq];simp;omega) fun l5 H5 f5 s5 h5=>?_
  exact fin0 l5 (""::w::r) H5 (by simp) (by simp) (by simp;omega) (s3.free f5) (s3.trans s5) h5
 walk_at "z"
 walk_at "q"
 walk_at "z"
 refine dJ (fun _=>?_) fun _=>?_
 ·walk_at "z"
  rename_i l3 H3 f3 s3 h3
  refine cZ (s3 _ _ h1) h3 (by rw[P7,size_eq];simp;omega) fun l5 H5 f5 s5 h5=>?_
  exact fin0 l5 ((w::r)++([""]:List PH)) H5 (by simp) (fun y hy=>by
   rcases QC.mp hy with h|h
   ·exact .inr h
   ·exact .inl (QR.mp h)) (by simp;omega) (s3.free f5) (s3.trans s5) (by rw[h5];simp)
 walk_at "z"
 walk_at "q"
 walk_at "z"
 have lT:=(og x4).2
 refine dJ (fun _=>?_) fun _=>?_
 ·walk_at "z"
  refine cz q1 ew ?_
  walk_at "z"
  refine cz qa1 e4 ?_
  walk_at "z"
  refine Iu ?_
  walk_at "z"
  rename_i l3 H3 f3 s3 h3 l4 H4 f4 s4 h4
  rw[cf]at h4
  refine cZ (s4 _ _ h3) h4 (by rw[P7,size_eq];simp;omega) fun l5 H5 f5 s5 h5=>?_
  exact fin l5 (w++um x4) H5 (Cq hw wr2).1 (iJ ww (og _).1 (by omega)) (s3.free (s4.free f5)) (s3.trans (s4.trans s5)) h5
 walk_at "z"
 walk_at "q"
 walk_at "z"
 refine dJ (fun _=>?_) fun _=>?_
 ·walk_at "z"
  refine cz qa1 e4 ?_
  walk_at "z"
  refine Iu ?_
  walk_at "z"
  refine cz q1 ew ?_
  walk_at "z"
  rename_i l3 H3 f3 s3 h3 l4 H4 f4 s4 h4
  rw[cf]at h4
  refine cZ (s4 _ _ h3) h4 (by rw[P7,size_eq];simp;omega) fun l5 H5 f5 s5 h5=>?_
  exact fin l5 (um x4++w) H5 (Cq hw wr2).2 (iJ (og _).1 ww (by omega)) (s3.free (s4.free f5)) (s3.trans (s4.trans s5)) h5
 walk_at "z"
 rename_i l2 H2 f2 s2 h2 l3 H3 f3 s3 h3
 rw[ct]at h2
 refine cZ (s3 _ _ h2) h3 (show 1+1<=PZ by decide) fun l4 H4 f4 s4 h4=>?_
 walk_at "z"
 rename_i l5 H5 f5 s5 h5
 rw[cf]at h5
 refine cZ (s5 _ _ h4) h5 (by rw[P7,size_eq];simp;omega) fun l6 H6 f6 s6 h6=>?_
 exact fin0 l6 ([w]++([""]:List PH)++r) H6 (by simp) (by simp;exact fun a h=>.inr (.inr h)) (by simp;omega) (s2.free (s3.free (s4.free (s5.free f6)))) (s2.trans (s3.trans (s4.trans (s5.trans s6)))) (by rw[h6];simp)
theorem M4:∀vs H Q E,D9 K vs H Q E->Es K {nx:=fun _ H'=>Q .non H',rt:=Q} (start ["script","first","cell","xs","one","other","rows","row","names","number","spins","good","strangers","stranger"] vs) H:=by
 rintro vs H Q E ⟨_,a,ns,rfl,hS,hl63,q⟩
 have hsz:=size_eq
 unfold Es
 walk_at "q"
 walk_at "z"
 refine⟨rfl,a,ns,0,rfl,hS,fun first H1 s1=>?_⟩
 walk_at "z"
 walk_at "q"
 walk_at "z"
 refine⟨rfl,a,ns,1,rfl,s1.seq hS,fun cell H2 s2=>?_⟩
 walk_at "z"
 walk_at "q"
 walk_at "z"
 refine⟨rfl,cell,15,rfl,by decide,fun l3 H3 f3 s3 h3=>?_⟩
 have s03:=s1.trans (s2.trans s3)
 walk_at "z"
 walk_at "q"
 walk_at "z"
 refine EG fun d1 x1 f4 g4 _=>?_
 refine⟨rfl,d1,x1,rfl,ax,fun H4 fp1 D1 b4 w4=>⟨rfl,?_⟩⟩
 obtain⟨s4,e4⟩:=LU f4 g4 b4 w4
 walk_at "z"
 walk_at "q"
 walk_at "z"
 refine EG fun d2 x2 f5 g5 _=>?_
 refine⟨rfl,d2,x2,rfl,ax,fun H5 fp2 D2 b5 w5=>⟨rfl,?_⟩⟩
 obtain⟨s5,e5⟩:=LU f5 g5 b5 w5
 have T5:wR K H H5 d1 d2 ⟨[],[],[],0,0,0⟩ ⟨[],[],[],0,0,0⟩ []:=⟨fp1,fp2,D1.same s5,D2,fun x h1 h2=>D1.there x h1 (e5 x h2),fun x h1=>s03.free (e4 x h1),fun x h2=>s03.free (s4.free (e5 x h2)),s03.trans (s4.trans s5),fun _ h=>nomatch h⟩
 have G0:cG 0 ⟨[],[],[],0,0,0⟩:=cG.of (by decide) (by simp) (by simp) (fun _ h=>nomatch h) (fun _ h=>nomatch h) (fun _ h=>nomatch h) (fun _ h=>nomatch h) (fun _ h=>nomatch h) .nil .nil (by simp) (by simp) (by simp) (by simp) (by simp[fP])
 have h3':=(s4.trans s5) _ _ h3
 clear D1 D2 b4 w4 b5 w5 e4 e5 f4 g4 f5 g5
 walk_at "z"
 walk_at "q"
 walk_at "z"
 refine⟨rfl,l3,cell,dX cell 15,rfl,aY.of h3',oa _ _,fun l6 rows H6 rl ro f6 s6 h6=>?_⟩
 walk_at "z"
 rename_i l7 H7 f7 s7 h7
 obtain⟨k,ek,hk⟩:∃k:Nat,first%2=(k:Int)/\k<=1:=⟨(first%2).toNat,by omega,by omega⟩
 rw[ek]
 refine EK h7 (by omega) fun l8 H8 f8 s8 h8=>?_
 refine cZ ((s7.trans s8) _ _ h6) h8 (by rw[P7,WE,size_eq];omega) fun l9 H9 f9 s9 h9=>?_
 have h9:H9 l9=some (.lst ((rows++QS k ("close":PH)).map V.str)):=by rw[h9];simp
 have ok9:∀r∈rows++QS k ("close":PH),iF (yK cell) r:=fun r hr=>by
  rcases QC.mp hr with hr|hr
  ·refine(ro r hr).mono fun z hz=>?_
   obtain⟨j,hj,rfl⟩:=P9.mp hz
   exact SW _ (SW _ (P9.mpr ⟨j,Q6.mpr (by have:=Q6.mp hj;omega),rfl⟩))
  ·rw[(List.mem_replicate.mp hr).2];exact G3
 have hl9:(rows++QS k ("close":PH)).length<=61:=by simp;omega
 generalize rows++QS k ("close":PH)=R at *
 have T9:=(T5.same (s6.trans (s7.trans s8))).add s9 f9 h9
 clear T5 h3' h3 h6 h7 h8 s6 s7 s8 s9
 walk_at "z"
 walk_at "q"
 walk_at "z"
 have hRl:(R.map V.str).length<=61:=by rw[P7];exact hl9
 refine sy (dE (K:=K) (xs:=R.map V.str) 7) (fun i σ H'=>∃s v7,wR K H H' d1 d2 s s [(l9,R.map V.str)]/\cG i s/\(∀p∈s.ps,p.1∈yK cell)/\σ=[some (.ref a),some (.int first),some (.int cell),some (.ref l3),some (.ref d1),some (.ref d2),some (.ref l9),v7,none,none,none,none,none,none]) ⟨_,_,T9,G0,(fun _ h=>nomatch h),rfl⟩ (fun i σ H' h=>by obtain⟨s,v7,T,_⟩:=h;exact aY.of (T.at.2 (l9,_) (by simp))) ?_ ?_
 ·rintro i σ Ha Hb hi ⟨s,v7,T,G,hp,rfl⟩ sb
  have hi':i<R.length:=by simpa using hi
  have T:=T.same sb
  have et:(R.map V.str).getD i .non=.str (R.getD i ""):=by simp[Qm,hi']
  have ro:=ok9 _ (getD_mem (xs:=R) "" hi')
  rw[et]
  obtain⟨f1,A1,k1⟩:=T.said (kf:=qQ) G.d (R.getD i "")
  show cm _ _ _ _ _ _
  walk_at "z"
  refine⟨rfl,d1,_,f1,s,rfl,A1,G.d,ro.1,fun v1 H1 g1 D1 b1 w1 an1 nl1=>?_⟩
  obtain⟨f2,A2,k2⟩:=k1 v1 H1 g1 D1 b1 w1 an1 nl1
  walk_at "z"
  refine⟨rfl,d2,_,f2,s,rfl,A2,G.d,ro.1,fun v2 H2 g2 D2 b2 w2 an2 _=>?_⟩
  obtain⟨T2,dd,z1,z2,z3⟩:=k2 v2 H2 g2 D2 b2 w2 an2
  refine FL z1 z2 z3 ?_
  walk_at "z"
  exact⟨_,_,T2,G.next (by omega) _,zF ro hp,rfl⟩
 rintro σ Hc ⟨s,v7,T,G,hp,rfl⟩
 have G:=G.up hRl
 have T:=T.sub (L':=[]) fun _ h=>nomatch h
 clear T9 h9 f9 ok9
 walk_at "q"
 walk_at "z"
 refine bD (j3 (lo:=0) (n:=8) 0) (fun j=>[some (.int (0+(j:Int))),some (.int cell)]) (by rintro j σ' (rfl|⟨k,rfl⟩)<;>rfl) (fun _ _=>trivial) (P6 (show 8<=1000 by decide) bo) (fun j=>.str (aQ cell j)) ?_ ?_
 ·intro j hj H' G s' kk
  walk_at "z"
  refine⟨rfl,cell,j,by rw[show(0+(j:Int))=(j:Int) by omega],by omega,fun H'' s''=>kk H'' s''⟩
 intro l10 H10 f10 s10 h10
 rw[show(P4 8).map (fun j=>V.str (aQ cell j))=((P4 8).map (aQ cell)).map V.str by rw[Qn];rfl]at h10
 walk_at "z"
 refine bD (j3 (lo:=0) (n:=8) 0) (fun j=>[some (.int (0+(j:Int))),some (.int cell)]) (by rintro j σ' (rfl|⟨k,rfl⟩)<;>rfl) (fun _ _=>trivial) (P6 (show 8<=1000 by decide) bo) (fun j=>.str (aQ (cell/3) j)) ?_ ?_
 ·intro j hj H' G s' kk
  walk_at "z"
  refine⟨rfl,cell/3,j,by rw[show(0+(j:Int))=(j:Int) by omega],by omega,fun H'' s''=>kk H'' s''⟩
 intro l11 H11 f11 s11 h11
 rw[show(P4 8).map (fun j=>V.str (aQ (cell/3) j))=((P4 8).map (aQ (cell/3))).map V.str by rw[Qn];rfl]at h11
 refine cZ (s11 _ _ h10) h11 (by simp[size_eq]) fun l12 H12 f12 s12 h12=>?_
 have h12:H12 l12=some (.lst ((Hy cell).map V.str)):=by rw[h12];unfold Hy;rw[Rk]
 have q12:aY K H12 l12 ((Hy cell).map V.str):=aY.of h12
 have nA:∀j,j<3->xU ((Hy cell).map V.str) ((j:Nat):Int)=some (.str (aQ cell j)):=fun j hj=>bM (by
  unfold Hy
  rw[Rk,Sh (by simp;omega)]
  simp[show j<8 by omega])
 have n0:=da cell 0
 have n1:=da cell 1
 have n2:=da cell 2
 have l0:=fI n0
 have l1:=fI n1
 have l2:=fI n2
 obtain⟨_,a2,a3,_⟩:=a8
 walk_at "z"
 walk_at "q"
 walk_at "z"
 refine cz q12 (nA 0 (by decide)) ?_
 walk_at "z"
 refine cz q12 (nA 1 (by decide)) ?_
 walk_at "z"
 refine Fc (qC n1) (by omega) ?_
 walk_at "z"
 refine cz q12 (nA 2 (by decide)) ?_
 walk_at "z"
 rename_i l13 H13 f13 s13 h13
 refine cZ (s13 _ _ h12) h13 (by simp[Hy,size_eq]) fun l14 H14 f14 s14 h14=>?_
 have h14:H14 l14=some (.lst ((yK cell).map V.str)):=by rw[h14];unfold yK;rw[Rk];rfl
 have T14:=(T.same (s10.trans (s11.trans (s12.trans s13)))).add s14 f14 h14
 clear T h10 h11 h12 q12 h13 nA n0 n1 n2 l0 l1 l2
 have nl19:=Jq cell
 have nw19:=Ln cell
 have st19:=Jm cell
 generalize yK cell=NS at *
 walk_at "z"
 walk_at "q"
 have qS:=T14.at.1.seq hS
 walk_at "z"
 rename_i l15 H15 f15 s15 h15
 obtain⟨zs,ez,_,_⟩:=Bv ns (some 2) (some 62)
 have hz60:(zs.map V.int).length<=60:=by rw[<-ez];exact Mq (ns.map V.int) 2 62
 rw[ez]at h15
 have T15:=T14.add s15 f15 h15
 clear T14 h14 h15
 refine sy (dE (K:=K) (xs:=zs.map V.int) 9) (fun i σ H'=>∃s v9 v10 v11,wR K H H' d1 d2 s s [(l15,zs.map V.int),(l14,NS.map V.str)]/\cG (61+i) s/\(∀p∈s.ps,p.1∈NS)/\σ=[some (.ref a),some (.int first),some (.int cell),some (.ref l3),some (.ref d1),some (.ref d2),some (.ref l9),v7,some (.ref l14),v9,v10,v11,none,none]) ⟨s,_,_,_,T15,G,hp,rfl⟩ (fun i σ H' h=>by obtain⟨s,v9,v10,v11,T,_⟩:=h;exact aY.of (T.at.2 (l15,_) (by simp))) ?_ ?_
 ·clear T15 G hp
  rintro i σ Ha Hb hi ⟨s,v9,v10,v11,T,G,hp,rfl⟩ sb
  have T:=T.same sb
  have hi':i<zs.length:=by simpa using hi
  have et:(zs.map V.int).getD i .non=.int (zs.getD i 0):=by simp[Qm,hi']
  rw[et]
  generalize zs.getD i 0=number
  show aE _ _ _ _ _
  walk_at "q"
  walk_at "z"
  refine⟨rfl,number,12,rfl,by decide,fun l16 H16 f16 s16 h16=>?_⟩
  have T:=T.add s16 f16 h16
  have q16:aY K H16 l16 ((dX number 12).map V.int):=aY.of h16
  walk_at "z"
  walk_at "q"
  walk_at "z"
  rename_i l17 H17 f17 s17 h17
  have e17:iw ((dX number 12).map V.int) none (some 6)=((dX number 12).take 6).map V.int:=C4 _ 6
  rw[e17]at h17
  have T:=T.same s17
  have q14:aY K H17 l14 (NS.map V.str):=aY.of (T.at.2 (l14,_) (Qs _ (Qs _ (QI ..))))
  walk_at "z"
  refine⟨rfl,l17,l14,_,_,rfl,aY.of h17,q14,by rw[QY,oa];decide,nl19,nw19,fun lb ws H18 nr wl wd fb s18 h18=>?_⟩
  walk_at "z"
  refine pA 40 (aY.of h18) (fun x hx=>(wd x hx).1) (by rw[dU.2.2.1];omega) ?_
  have T:=T.same s18
  obtain⟨f1,A1,_,nf1,k1⟩:=T.one
  obtain⟨en,ea⟩:=JQ (s:=s) (nr s)
  walk_at "z"
  refine⟨rfl,d1,_,f1,s,rfl,A1,G.d,qz (by omega) wd,fun v1 H19 g1 D1 b1 w1 an1 nl1=>?_⟩
  rw[en]at D1
  rw[ea]at an1
  have T:=k1 H19 g1 _ [] D1 b1 w1 fun _ h=>nomatch h
  obtain⟨lv,rfl,_,hv⟩:=an1
  have ek9:qQ "NoRow"=[true,false,true,false,false,false,false,false,false]:=by decide +kernel
  rw[ek9]at hv
  walk_at "z"
  rename_i l20 H20 f20 s20 h20 l21 H21 f21 s21 h21
  refine EK (k:=6) h21 (by decide) fun l22 H22 f22 s22 h22=>?_
  refine cZ ((s21.trans s22) _ _ h20) h22 (show 3+6<=PZ by decide) fun l23 H23 f23 s23 h23=>?_
  have sv:=s20.trans (s21.trans (s22.trans s23))
  have T:=(T.same sv).sub (L':=[(l16,(dX number 12).map V.int),(l15,zs.map V.int),(l14,NS.map V.str)]) fun p hp=>Rh _ hp
  refine FL (d:=.list ([true,false,true,false,false,false,false,false,false].map Ug)) (.lst (aY.of (sv _ _ hv)) (ia _)) (.lst (aY.of h23) (ia [true,false,true,false,false,false,false,false,false])) ((vT _).shaped (by decide)) ?_
  clear hv h20 h21 h22 h23 h18 h17 h16 q16 q14 A1 D1 b1 w1 nl1 k1 nf1 sv
  have q16:aY K H23 l16 ((dX number 12).map V.int):=aY.of (T.at.2 (l16,_) (QI ..))
  have q14:aY K H23 l14 (NS.map V.str):=aY.of (T.at.2 (l14,_) (Qs _ (Qs _ (QI ..))))
  walk_at "z"
  walk_at "q"
  walk_at "z"
  rename_i l24 H24 f24 s24 h24
  have e24:iw ((dX number 12).map V.int) (some 6) none=((dX number 12).drop 6).map V.int:=HK _ 6
  rw[e24]at h24
  refine⟨rfl,l24,l14,_,_,rfl,aY.of h24,s24.seq q14,by rw[Rq,oa];decide,nl19,fun lg g n o H25 mn mo mg fg s25 h25=>?_⟩
  have wg:=C3 (nw19 n mn) (nw19 o mo) mg
  have hgl:g.length<=3:=by obtain⟨w,r,rfl,_,_,hr⟩:=nW mg;simp;omega
  have ro:=MZ (nw19 n mn) (nw19 o mo) mn mg
  walk_at "z"
  refine pA 40 (aY.of h25) (fun x hx=>(wg x hx).1) (by rw[dU.2.2.1];omega) ?_
  have s2325:=s24.trans s25
  have T:=T.same s2325
  generalize QO " " g=row at *
  walk_at "z"
  refine cz (s2325.seq q16) (bM (vo (show 11<12 by decide))) ?_
  walk_at "z"
  have T:=T.sub (L':=[(l15,zs.map V.int),(l14,NS.map V.str)]) fun p hp=>Qs _ hp
  have hz61:i<60:=QE hi hz60
  refine dJ (fun _=>?_) fun _=>?_
  ·walk_at "z"
   refine N1 (fun _=>?_) fun _=>?_
   ·obtain⟨f1,A1,k1⟩:=T.said (kf:=qQ) G.d row
    walk_at "z"
    refine⟨rfl,d1,_,f1,s,rfl,A1,G.d,ro.1,fun v1 H1 g1 D1 b1 w1 an1 nl1=>?_⟩
    obtain⟨f2,A2,k2⟩:=k1 v1 H1 g1 D1 b1 w1 an1 nl1
    walk_at "z"
    refine⟨rfl,d2,_,f2,s,rfl,A2,G.d,ro.1,fun v2 H2 g2 D2 b2 w2 an2 _=>?_⟩
    obtain⟨T2,dd,z1,z2,z3⟩:=k2 v2 H2 g2 D2 b2 w2 an2
    refine FL z1 z2 z3 ?_
    walk_at "z"
    exact⟨_,_,_,_,T2,G.next (by omega) _,zF ro hp,rfl⟩
   ·walk_at "z"
    exact⟨s,_,_,_,T,G.up (by omega),hp,rfl⟩
  ·walk_at "z"
   exact⟨s,_,_,_,T,G.up (by omega),hp,rfl⟩
 clear T15 G hp
 rintro σ Hd ⟨s,v9,v10,v11,T,G,hp,rfl⟩
 have G:=G.up (show 61+(zs.map V.int).length<=121 by omega)
 have T:=T.sub (L':=[(l14,NS.map V.str)]) fun p hp=>Qs _ hp
 walk_at "q"
 walk_at "z"
 refine bD (j3 (lo:=8) (n:=18) 0) (fun j=>[some (.int (8+(j:Int))),some (.int cell)]) (by rintro j σ' (rfl|⟨k,rfl⟩)<;>rfl) (fun _ _=>trivial) (P6 (show 18<=1000 by decide) bo) (fun j=>.str (aQ cell (8+j))) ?_ ?_
 ·intro j hj H' G s' kk
  walk_at "z"
  refine⟨rfl,cell,8+j,by rw[show((8+j:Nat):Int)=8+(j:Int) by omega],by omega,fun H'' s''=>kk H'' s''⟩
 intro l26 H26 f26 s26 h26
 rw[show(P4 18).map (fun j=>V.str (aQ cell (8+j)))=((P4 18).map fun j=>aQ cell (8+j)).map V.str by rw[Qn];rfl]at h26
 have hS18:((P4 18).map fun j=>aQ cell (8+j)).length=18:=by simp
 have hSn:∀z∈(P4 18).map fun j=>aQ cell (8+j),dw z=true:=fun z hz=>by
  obtain⟨j,_,rfl⟩:=P9.mp hz
  exact da _ _
 generalize ((P4 18).map fun j=>aQ cell (8+j))=S at *
 have hSm:(S.map V.str).length=18:=by simp[hS18]
 have T:=T.same s26
 have q14:aY K H26 l14 (NS.map V.str):=aY.of (T.at.2 (l14,_) (QI ..))
 have q26:aY K H26 l26 (S.map V.str):=aY.of h26
 walk_at "z"
 walk_at "q"
 walk_at "z"
 refine kD (dE (K:=K) (xs:=S.map V.str) 0) (fun j=>[some ((S.map V.str).getD j .non),some (.ref l14)]) (by rintro j σ' (rfl|⟨k,rfl⟩)<;>rfl) (fun H' s'=>s'.seq q26) (by rw[hSm];exact P6 (show 18<=1000 by decide) bo) (fun j=>!decide (S.getD j ""∈NS)) (fun j=>.str (S.getD j "")) ?_ ?_ ?_
 ·intro j hj H' G s' kk
  rw[hSm]at hj
  have et:(S.map V.str).getD j .non=.str (S.getD j ""):=by simp[Qm,hS18,hj]
  rw[et]
  walk_at "z"
  refine KH (s'.seq q14) ?_
  walk_at "z"
  exact kk H' (av.refl _)
 ·intro j hj hb H' G s' kk
  rw[hSm]at hj
  have et:(S.map V.str).getD j .non=.str (S.getD j ""):=by simp[Qm,hS18,hj]
  rw[et]
  walk_at "z"
  exact kk H' (av.refl _)
 intro l27 H27 f27 s27 h27
 rw[hSm,<-hS18,show((P4 S.length).filter fun j=>!decide (S.getD j ""∈NS)).map (fun j=>V.str (S.getD j ""))=(S.filter fun z=>!decide (z∈NS)).map V.str by rw[<-iN (fun z:PH=>!decide (z∈NS)) "" S,Qn];rfl]at h27
 have hF:∀z∈S.filter fun z=>!decide (z∈NS),dw z=true/\z∉NS:=fun z hz=>by
  obtain⟨m1,m2⟩:=QL.mp hz
  exact⟨hSn z m1,by simpa using m2⟩
 generalize (S.filter fun z=>!decide (z∈NS))=F at *
 obtain⟨nz,mz⟩:=hF F[0] (RC st19)
 have T:=T.same s27
 walk_at "z"
 refine cz (aY.of h27) (bM (j:=0) (v:=.str F[0]) (by simp[st19])) ?_
 generalize F[0]=z at *
 have zl:=fI nz
 obtain⟨pn,ptx⟩:=Iz (s:=s) (tZ nz) (fun e=>by rw[e]at zl;exact absurd zl.1 (by decide +kernel)) (fun p hq e=>mz (e▸hp p hq))
 obtain⟨en,ea⟩:=JQ (s:=s) pn
 have lp6:("purse ":PH).length=6:=by decide +kernel
 walk_at "z"
 walk_at "q"
 walk_at "z"
 obtain⟨f1,A1,_,_,k1⟩:=T.one
 refine⟨rfl,d1,_,f1,s,rfl,A1,G.d,ptx,fun v1 H28 g1 D1 b1 w1 an1 nl1=>?_⟩
 rw[en]at D1
 rw[ea]at an1
 have T:=k1 H28 g1 _ [] D1 b1 w1 fun _ h=>nomatch h
 obtain⟨lv,rfl,_,hv⟩:=an1
 have ek9:qQ "NoVoter"=[false,true,true,false,false,false,false,false,false]:=by decide +kernel
 rw[ek9]at hv
 walk_at "z"
 rename_i l20 H20 f20 s20 h20 l21 H21 f21 s21 h21
 refine EK (k:=6) h21 (by decide) fun l22 H22 f22 s22 h22=>?_
 refine cZ ((s21.trans s22) _ _ h20) h22 (show 3+6<=PZ by decide) fun l23 H23 f23 s23 h23=>?_
 have sv:=s20.trans (s21.trans (s22.trans s23))
 have T:=(T.same sv).sub (L':=[(l14,NS.map V.str)]) fun p hp=>Rh _ hp
 refine FL (d:=.list ([false,true,true,false,false,false,false,false,false].map Ug)) (.lst (aY.of (sv _ _ hv)) (ia _)) (.lst (aY.of h23) (ia [false,true,true,false,false,false,false,false,false])) ((vT _).shaped (by decide)) ?_
 clear hv h20 h21 h22 h23 A1 D1 b1 w1 nl1 k1 sv
 walk_at "z"
 obtain⟨f1,A1,m1,_,k1⟩:=T.one
 refine⟨rfl,d1,l14,f1,s,121,NS,rfl,A1,G,by decide,T.at.2 (l14,_) (QI ..),m1 (l14,_) (QI ..),nl19,nw19,fun u H30 g1 ys b1 w1 D1 fu nu hu P1=>?_⟩
 obtain⟨X,hX,kX⟩:=Dj P1
 have T1:=k1 H30 g1 _ ((u,ys)::X) D1 b1 w1 (fun p hp=>by
  rcases Qa.mp hp with rfl|hp
  ·exact⟨hu,nu,fu⟩
  ·exact hX p hp)
 obtain⟨f2,A2,m2,_,_⟩:=T1.flip.one
 walk_at "z"
 refine⟨rfl,d2,l14,f2,s,121,NS,rfl,A2,G,by decide,T1.at.2 (l14,_) (Rh _ (QI ..)),m2 (l14,_) (Rh _ (QI ..)),nl19,nw19,fun u2 H31 g2 ys2 b2 w2 D2 fu2 nu2 hu2 P2=>?_⟩
 have nu':u∉f2:=m2 (u,ys) (QI ..)
 have P1':=kX f2 H31 (fun p hp=>m2 p (Qs _ (SW _ hp))) b2
 have lk:Bj 2 (.list ((rA s (oR NS)).map (D7 qQ))):=FH fun d hd=>by
  obtain⟨a,ha,rfl⟩:=P9.mp hd
  exact CK G (by unfold oR HY;rw[QU,P7,nl19];decide) a ha
 refine NU (.lst (aY.of (b2.1 _ _ nu' hu)) (nF P1')) (.lst (aY.of hu2) (nF (Paired.mapP P2 fun _ _ z=>z.1))) (lk.shaped (by decide)) ?_
 exact q _
end
structure Txt(K:PM)(mg:PH->Option PL):Prop where
 Et:bE K mg "_law_nth" vt ["script","k"]
 AV:bE K mg "_law_spins" qw ["cell","many"]
 sI:cw K "Chest" "__init__" "Chest.__init__" ka ["self"]
 uu:cw K "Desk" "__init__" "Desk.__init__" lS ["self"]
 Cr:bE K mg "_law_name" tT ["cell","k"]
 sU:bE K mg "_law_good_rows" j4 ["xs","cell"]
 Aq:bE K mg "read_words" qq ["row"]
 sW:bE K mg "least_multiple" j7 ["step","number"]
 Ek:bE K mg "together" vM ["n"]
 Ck:bE K mg "grains_of" tW ["voters","works"]
 Gf:bE K mg "paid_by" zJ ["steps","voter"]
 G8:bE K mg "left_of" yX ["purses","steps"]
 CC:bE K mg "prices_of" tP ["costs","wishes"]
 A3:bE K mg "rounded_up" rC ["amount","shares"]
 BM:bE K mg "level_for" tY ["purses","price"]
 BX:bE K mg "wants_all" sZ ["wanted","works"]
 Bu:bE K mg "common_of" tE ["wishes","works"]
 AL:bE K mg "wanters_of" rD ["wishes","work"]
 DB:bE K mg "offer_of" wq ["purses","wishes","work","price"]
 Bz:bE K mg "offers_of" tf ["purses","costs","wishes","done"]
 GP:bE K mg "next_of" zw ["offers"]
 EL:bE K mg "works_of" xf ["steps"]
 Hq:bE K mg "paid_at" zH ["purses","level"]
 yl:bE K mg "payments_of" o8 ["purses","wishes","work","level"]
 yb:bE K mg "step_behind" oJ ["purses","costs","wishes","steps"]
 Ii:bE K mg "choose" C5 ["purses","costs","wishes"]
 pB:cw K "Chest" "keep_coins" "Chest.keep_coins" i0 ["self","left","grains"]
 mf:cw K "Chest" "wanted_places" "Chest.wanted_places" fR ["self","voter"]
 rP:cw K "Chest" "told_step" "Chest.told_step" jx ["self","place","paid"]
 pL:cw K "Chest" "check_work" "Chest.check_work" ix ["self","work"]
 sP:cw K "Chest" "withdraw" "Chest.withdraw" j8 ["self","work"]
 xQ:cw K "Chest" "close" "Chest.close" oZ ["self"]
 B1:bE K mg "paid_text" tm ["rows"]
 BP:bE K mg "done_text" tu ["work","cost","rows"]
 wM:bE K mg "closing_text" nD ["done","grains"]
 yw:bE K mg "close_chest" oF ["chest"]
 CI:bE K mg "work_text" tJ ["work","cost","wanters"]
 Ax:bE K mg "works_text" rp ["works"]
 uD:cw K "Chest" "wanters" "Chest.wanters" lM ["self","work"]
 yd:cw K "Chest" "works" "Chest.works" o9 ["self"]
 Df:cw K "Chest" "pot" "Chest.pot" tQ ["self"]
 yi:cw K "Chest" "given" "Chest.given" o3 ["self"]
 xY:cw K "Chest" "spent" "Chest.spent" oO ["self"]
 G4:bE K mg "say_one" zo ["chest","deed"]
 F7:bE K mg "is_name" y4 ["name"]
 r9:bE K mg "check_new_name" jZ ["name","names"]
 x9:bE K mg "check_place" oY ["names","most"]
 yf:cw K "Chest" "enrol" "Chest.enrol" oP ["self","name"]
 oC:cw K "Chest" "check_voter" "Chest.check_voter" gR ["self","voter"]
 sf:cw K "Chest" "purse_of" "Chest.purse_of" jV ["self","voter"]
 yr:cw K "Chest" "leave" "Chest.leave" o7 ["self","name"]
 xO:bE K mg "check_coins" o5 ["coins","least"]
 yH:cw K "Chest" "share" "Chest.share" oW ["self","part"]
 Bd:cw K "Chest" "give" "Chest.give" qB ["self","coins"]
 CG:bE K mg "is_number" tX ["word"]
 yO:bE K mg "read_number" oH ["word"]
 He:bE K mg "say_two" zE ["chest","deed","word"]
 ur:cw K "Chest" "propose" "Chest.propose" lY ["self","work","cost"]
 AX:cw K "Chest" "want" "Chest.want" qo ["self","voter","work"]
 vF:cw K "Chest" "unwant" "Chest.unwant" mr ["self","voter","work"]
 De:bE K mg "say_three" tz ["chest","deed","word","last"]
 DW:cw K "Desk" "say" "Desk.say" u3 ["self","row"]
 B6:bE K mg "_law_said" tD ["desk","row"]
 Cm:bE K mg "_law_look" tU ["desk","names"]
 qU:bE K mg "_law_good_words" jw ["xs","names"]
 qD:bE K mg "_law_other_word" js ["word","x"]
 xW:bE K mg "_law_number" o6 ["x"]
 EB:bE K mg "_law_bad" wj ["xs","names"]
 f_law:bE K mg "law" BS ["script"]
 bI:mF K mg "Chest"
 rQ:mF K mg "Desk"
 fC:eh K mg "NoRow"
 j5:eh K mg "NoWork"
 j1:eh K mg "NoName"
 nZ:eh K mg "Twice"
 sQ:eh K mg "Full"
 ib:eh K mg "NoVoter"
 ij:eh K mg "TooMuch"
 ko:eh K mg "PurseError"
 sJ:eh K mg "NoPaper"
 cls:gY K
 AD:mg "ValueError"=none
 z_all:mg "all"=none
 J6:mg "dict"=none
 eV:mg "enumerate"=none
 z_int:mg "int"=none
 cO:mg "isinstance"=none
 z_len:mg "len"=none
 HW:mg "list"=none
 z_min:mg "min"=none
 fH:mg "range"=none
 BF:mg "sorted"=none
 z_str:mg "str"=none
 z_sum:mg "sum"=none
 z_zip:mg "zip"=none
 GY:HS mg "FIGURES" "0123456789"
 Gi:HS mg "LETTERS" "abcdefghijklmnopqrstuvwxyz"
 nQ:tN mg "MOST_AT_ONCE" 1000000000
 vA:tN mg "MOST_FIGURES" 13
 xc:tN mg "MOST_LETTERS" 8
 yI:tN mg "MOST_VOTERS" 20
 AS:tN mg "MOST_WORKS" 12
section
seal xI PS PE PA PT PC PI PG
variable {P:Qc}{w:P8}{K:PM}{mg:PH->Option PL}{base:P0}
theorem rG(T:Txt K mg):kM P w K mg base 1 "_law_nth" ["script","k"] (jo K):=T.Et.cal (rd:=mx K) tH (aF rfl) (fun f cdv A outer s H E hr=>
 (ah (gF Rt rfl (bY (bU fi (pv 0) (ck (pv 1)) (ck (aA cJ (pv 1) ar)))) (aC (i:=2) tH.nd rfl (PU rfl)) (aj (aD (pv 2))))
   (aj (aD ar)))) CM
theorem iC(T:Txt K mg):kM P w K mg base 1 "_law_spins" ["cell","many"] (eE K):=T.AV.cal (rd:=jG K) gv (aF rfl) (fun f cdv A outer s H E hr=>
 (ah (aM (i:=2) gv.nd rfl (PU rfl) (bj ag))
   (ah (gF Rt rfl (d9 (by rfl) T.fH (aa (pv 1) ag)) (aC (i:=3) gv.nd rfl (PU rfl)) (ah (aM (i:=4) gv.nd rfl (PU rfl) (aA cJ (aA cJ (aA br (pv 0) ar) (aA jq ar (pv 3))) ar))
   (aj (bN (jB Ur Th TC ig (pv 2) (aa (aA br (aA dG (aA jq (aA jq (pv 4) (pv 4)) (aA cJ (pv 4) (aA jq ar (pv 3)))) ar) ar) ag))))))
   (aj (aD (pv 2)))))) xJ
theorem pj(T:Txt K mg):eO sD P w K mg base 1 "Chest" "__init__" ["self"] (fG K):=T.sI.cal (rd:=fh K) rL (aF rfl) (fun f cdv A outer s H E hr=>
 (ah (gG (pv 0) Ce rfl)
   (ah (gG (pv 0) Ce rfl)
   (ah (gG (pv 0) (bj ag) rfl)
   (ah (gG (pv 0) ar rfl)
   (ah (gG (pv 0) ar rfl)
   (aj (gG (pv 0) ar rfl)))))))) (rM T.cls)
theorem jm(T:Txt K mg):eO sD P w K mg base 3 "Desk" "__init__" ["self"] (d8 K):=T.uu.cal (rd:=gm K) sT (aF rfl) (fun f cdv A outer s H E hr=>
 (aj (gG (pv 0) (su (pj T) T.bI (hr.mono (by decide))) rfl))) (sE T.cls)
theorem eG(T:Txt K mg):kM P w K mg base 2 "_law_name" ["cell","k"] (dF K):=T.Cr.cal (rd:=kn K) d6 (aF rfl) (fun f cdv A outer s H E hr=>
 (ah (aM (i:=2) d6.nd rfl (RQ rfl) ay)
   (ah (aM (i:=3) d6.nd rfl (PU rfl) (aW (iC T) (hr.mono (by decide)) (aa (pv 0) (aa ar ag))))
   (ah (aM (i:=4) d6.nd rfl (PU rfl) (jB RV Sy SV kH ay (aa (bF (N:=["x","letters"]) (mp:=[none,some 2]) rfl ⟨rfl,by decide +kernel,by rfl,rfl,by rfl⟩ (bY (bU fi (pv 3) cK (ck ar))) (fun _ _ _ _ _ _=>(aC (i:=0) (by show Ql (["x","letters"]:List PH);decide +kernel) rfl (PU rfl))) (fun _ _ _ _ _ _=>bx) (fun _ _ _ _ _ _=>(bh kg (pv 1) (aA br (pv 0) ar) (fun _ _=>rfl)))) ag)))
   (ah (bH (aI c9 (aA br (bh aL (pv 3) ar (fun _ _=>rfl)) ar) ar (bg _)) (aj (aD (aA bX (bh kg (pv 2) (aA br (aA cJ (bh aL (pv 3) ar (fun _ _=>rfl)) (aA dG (pv 1) ar)) ar) (fun _ _=>rfl)) (bU jc (pv 4) cK (ck (aA br (pv 1) ar)))))) aZ)
   (ah (bH (aI c9 (aA br (bh aL (pv 3) ar (fun _ _=>rfl)) ar) ar (bg _)) (aj (aD (aA bX (bU jc (pv 4) (ck (aA Ba ar (aA br (pv 1) ar))) cK) (bh kg (pv 2) (aA br (aA cJ (bh aL (pv 3) ar (fun _ _=>rfl)) (aA dG (pv 1) ar)) ar) (fun _ _=>rfl))))) aZ)
   (ah (aM (i:=4) d6.nd rfl (PU rfl) (bU jc (pv 4) cK (ck (aA br (aA dG (bh aL (pv 3) ar (fun _ _=>rfl)) ar) ar))))
   (ah (aM (i:=5) d6.nd rfl (PU rfl) (aA br (aA dG (bh aL (pv 3) ar (fun _ _=>rfl)) ar) (aA cJ (aU nU (by rfl) T.z_len QZ (aa (pv 4) ag)) ar)))
   (aj (aD (aA bX (aA bX (bU jc (pv 4) cK (ck (pv 5))) (bh kg (pv 2) (aA br (aA cJ (bh aL (pv 3) ar (fun _ _=>rfl)) (pv 1)) ar) (fun _ _=>rfl))) (bU jc (pv 4) (ck (pv 5)) cK)))))))))))) Bp
theorem pN(T:Txt K mg):kM P w K mg base 3 "_law_good_rows" ["xs","cell"] (fA K):=T.sU.cal (rd:=fE K) cp (aF rfl) (fun f cdv A outer s H E hr=>
 (ah (nY (i:=2) (N:=["k","cell"]) (mp:=[none,some 1]) cp.nd rfl (PU rfl) rfl ⟨rfl,by decide +kernel,by rfl,rfl,by rfl⟩ (d9 (by rfl) T.fH (aa (aA cJ ar (aA br (bh aL (pv 0) ar (fun _ _=>rfl)) ar)) ag)) (fun _ _ _ _ _ _=>(aC (i:=0) (by show Ql (["k","cell"]:List PH);decide +kernel) rfl (PU rfl))) (fun _ _ _ _ _ _=>bx) (fun _ _ _ _ _ _=>(aW (eG T) (hr.mono (by decide)) (aa (pv 1) (aa (pv 0) ag)))) (by with_unfolding_all rfl))
   (ah (aM (i:=3) cp.nd rfl (RQ rfl) (bF (N:=["k","cell"]) (mp:=[none,some 1]) rfl ⟨rfl,by decide +kernel,by rfl,rfl,by rfl⟩ (d9 (by rfl) T.fH (aa (aA cJ ar (aA br (bh aL (pv 0) ar (fun _ _=>rfl)) ar)) ag)) (fun _ _ _ _ _ _=>(aC (i:=0) (by show Ql (["k","cell"]:List PH);decide +kernel) rfl (PU rfl))) (fun _ _ _ _ _ _=>bx) (fun _ _ _ _ _ _=>(aW (eG T) (hr.mono (by decide)) (aa (aA dG (pv 1) ar) (aa (pv 0) ag))))))
   (ah (aM (i:=4) cp.nd rfl (PU rfl) (aA c5 (bF (N:=["name"]) (mp:=[none]) rfl ⟨rfl,by decide +kernel,by rfl,rfl,by rfl⟩ (bY (pv 2)) (fun _ _ _ _ _ _=>(aC (i:=0) (by show Ql (["name"]:List PH);decide +kernel) rfl (PU rfl))) (fun _ _ _ _ _ _=>bx) (fun _ _ _ _ _ _=>(aA bX ay (pv 0)))) (bj (aa (aA bX ay (dN ie (by rfl) T.z_str Tc (aa (aA br (bh aL (pv 0) ar (fun _ _=>rfl)) ar) ag))) ag))))
   (ah (aM (i:=4) cp.nd rfl (PU rfl) (aA c5 (pv 4) (bF (N:=["k","plans","xs"]) (mp:=[none,some 3,some 0]) rfl ⟨rfl,by decide +kernel,by rfl,rfl,by rfl⟩ (d9 (by rfl) T.fH (aa (aU bT (by rfl) T.z_len QZ (aa (pv 3) ag)) ag)) (fun _ _ _ _ _ _=>(aC (i:=0) (by show Ql (["k","plans","xs"]:List PH);decide +kernel) rfl (PU rfl))) (fun _ _ _ _ _ _=>bx) (fun _ _ _ _ _ _=>(aA bX (aA bX (aA bX ay (bh aL (pv 1) (pv 0) (fun _ _=>rfl))) ay) (dN ie (by rfl) T.z_str Tc (aa (aA cJ ar (aA br (bh aL (pv 2) (aA cJ ar (pv 0)) (fun _ _=>rfl)) ar)) ag)))))))
   (ah (gF Rt rfl (d9 (by rfl) T.fH (aa (aU bT (by rfl) T.z_len QZ (aa (pv 2) ag)) ag)) (aC (i:=5) cp.nd rfl (PU rfl)) (aj (gF Rt rfl (d9 (by rfl) T.fH (aa (aU bT (by rfl) T.z_len QZ (aa (pv 3) ag)) ag)) (aC (i:=6) cp.nd rfl (PU rfl)) (aj (bH (aI c9 (aA br (aA dG (bh aL (pv 0) (aA cJ ar (aA br (aA cJ (pv 5) (pv 6)) ar)) (fun _ _=>rfl)) (aA cJ (pv 5) ar)) ar) ar (bg _)) (aj (bN (jB Ur Th TC ig (pv 4) (aa (aA bX (aA bX (aA bX ay (bh aL (pv 2) (pv 5) (fun _ _=>rfl))) ay) (bh aL (pv 3) (pv 6) (fun _ _=>rfl))) ag)))) aZ)))))
   (aj (aD (pv 4))))))))) qP
theorem vp(T:Txt K mg):xS P w K mg base 1 "read_words" ["row"] (jT K):=T.Aq.calX (rd:=jK K) o4 (fun _ _ _ _ h=>h.1) (fun f cdv A outer s H E hr=>
 (ah (PS.nox (aM (i:=1) o4.nd rfl (PU rfl) (jB RV U8 aaQ IH (pv 0) (aa ay ag))))
   (ah (bH (aI jX ay (pv 1) rfl) (aj (c8 T.fC (aa (dk (.cons ay (.cons (gX (pv 0)) .nil))) ag))) aZ)
   (aj (PS.nox (aD (pv 1))))))) xK
theorem pS(T:Txt K mg):kM P w K mg base 1 "least_multiple" ["step","number"] (ff K):=T.sW.cal (rd:=fB K) fN (aF rfl) (fun f cdv A outer s H E hr=>
 (ah (aM (i:=2) fN.nd rfl (PU rfl) (pv 0))
   (ah (CZ Rt (aI Fy (aA br (pv 2) (pv 1)) ar (bg _)) (aj (AK (i:=2) fN.nd rfl (PU rfl) (pv 0) (E9 Je))))
   (aj (aD (pv 2)))))) qV
theorem Aj(T:Txt K mg):kM P w K mg base 2 "together" ["n"] (nL K):=T.Ek.cal (rd:=nJ K) jv (aF rfl) (fun f cdv A outer s H E hr=>
 (ah (aM (i:=1) jv.nd rfl (PU rfl) ar)
   (ah (gF Rt rfl (yZ (by rfl) T.fH (aa ar (aa (aA cJ (pv 0) ar) ag))) (aC (i:=2) jv.nd rfl (PU rfl)) (aj (aM (i:=1) jv.nd rfl (PU rfl) (aW (pS T) (hr.mono (by decide)) (aa (pv 1) (aa (pv 2) ag))))))
   (aj (aD (pv 1)))))) BB
theorem oM(T:Txt K mg):kM P w K mg base 3 "grains_of" ["voters","works"] (gZ K):=T.Ck.cal (rd:=lz K) fm (aF rfl) (fun f cdv A outer s H E hr=>
 (ah (aM (i:=2) fm.nd rfl (PU rfl) (aW (Aj T) (hr.mono (by decide)) (aa (pv 0) ag)))
   (ah (aM (i:=3) fm.nd rfl (PU rfl) (pv 2))
   (ah (gF Rt rfl (d9 (by rfl) T.fH (aa (pv 1) ag)) (aC (i:=4) fm.nd rfl (PU rfl)) (aj (AK (i:=3) fm.nd rfl (PU rfl) (pv 2) (E9 HU))))
   (aj (aD (pv 3))))))) AE
theorem B9(T:Txt K mg):kM P w K mg base 1 "paid_by" ["steps","voter"] (pW K):=T.Gf.cal (rd:=pF K) Eu (aF rfl) (fun f cdv A outer s H E hr=>
 (aj (aD (aU (vy rfl) (by rfl) T.z_sum Vl (aa (bF (N:=["work","level","paid","voter"]) (mp:=[none,none,none,some 1]) rfl ⟨rfl,by decide +kernel,by rfl,rfl,by rfl⟩ (bY (pv 0)) (fun _ _ _ _ _ _=>(dO rfl (aR (aC (i:=0) (by show Ql (["work","level","paid","voter"]:List PH);decide +kernel) rfl (PU rfl)) (aR (aC (i:=1) (by show Ql (["work","level","paid","voter"]:List PH);decide +kernel) rfl (PU rfl)) (aR (aC (i:=2) (by show Ql (["work","level","paid","voter"]:List PH);decide +kernel) rfl (PU rfl)) cX))))) (fun _ _ _ _ _ _=>bx) (fun _ _ _ _ _ _=>(bh aL (pv 2) (pv 3) (fun _ _=>rfl)))) ag))))) Dw
theorem tS(T:Txt K mg):kM P w K mg base 2 "left_of" ["purses","steps"] (ly K):=T.G8.cal (rd:=px K) EJ (aF rfl) (fun f cdv A outer s H E hr=>
 (aj (aD (bF (N:=["voter","purse","steps"]) (mp:=[none,none,some 1]) rfl ⟨rfl,by decide +kernel,by rfl,rfl,by rfl⟩ (rh (by rfl) T.eV (pv 0)) (fun _ _ _ _ _ _=>(dO rfl (aR (aC (i:=0) (by show Ql (["voter","purse","steps"]:List PH);decide +kernel) rfl (PU rfl)) (aR (aC (i:=1) (by show Ql (["voter","purse","steps"]:List PH);decide +kernel) rfl (PU rfl)) cX)))) (fun _ _ _ _ _ _=>bx) (fun _ _ _ _ _ _=>(aA Ba (pv 1) (aW (B9 T) (hr.mono (by decide)) (aa (pv 2) (aa (pv 0) ag))))))))) Eo
theorem yq(T:Txt K mg):kM P w K mg base 4 "prices_of" ["costs","wishes"] (kU K):=T.CC.cal (rd:=kF K) rf (aF rfl) (fun f cdv A outer s H E hr=>
 (ah (aM (i:=2) rf.nd rfl (RQ rfl) (aW (oM T) (hr.mono (by decide)) (aa (aU bT (by rfl) T.z_len QZ (aa (pv 1) ag)) (aa (aU bT (by rfl) T.z_len QZ (aa (pv 0) ag)) ag))))
   (aj (aD (bF (N:=["cost","grains"]) (mp:=[none,some 2]) rfl ⟨rfl,by decide +kernel,by rfl,rfl,by rfl⟩ (bY (pv 0)) (fun _ _ _ _ _ _=>(aC (i:=0) (by show Ql (["cost","grains"]:List PH);decide +kernel) rfl (PU rfl))) (fun _ _ _ _ _ _=>bx) (fun _ _ _ _ _ _=>(aA jq (pv 0) (pv 1)))))))) AM
theorem vE(T:Txt K mg):kM P w K mg base 1 "rounded_up" ["amount","shares"] (jI K):=T.A3.cal (rd:=jC K) yo (aF rfl) (fun f cdv A outer s H E hr=>
 (aj (aD (aA dG (aA Ba (aA cJ (pv 0) (pv 1)) ar) (pv 1))))) yv
theorem xX(T:Txt K mg):kM P w K mg base 2 "level_for" ["purses","price"] (lH K):=T.BM.cal (rd:=lu K) d7 (aF rfl) (fun f cdv A outer s H E hr=>
 (ah (bH (aI DC (aU (vy rfl) (by rfl) T.z_sum Vl (aa (pv 0) ag)) (pv 1) (bg _)) (aj (aD jh)) aZ)
   (ah (aM (i:=2) d7.nd rfl (PU rfl) (pv 1))
   (ah (aM (i:=3) d7.nd rfl (PU rfl) (aU bT (by rfl) T.z_len QZ (aa (pv 0) ag)))
   (ah (gF Rt rfl (bY (aU tF (by rfl) T.BF WC (aa (pv 0) ag))) (aC (i:=4) d7.nd rfl (PU rfl)) (ah (bH (aI IM (aA jq (pv 4) (pv 3)) (pv 2) (bg _)) (aj (aD (aW (vE T) (hr.mono (by decide)) (aa (pv 2) (aa (pv 3) ag))))) aZ)
   (ah (AK (i:=2) d7.nd rfl (PU rfl) (pv 4) (E9 Dh))
   (aj (AK (i:=3) d7.nd rfl (PU rfl) ar (E9 Dh))))))
   (aj (aD ar))))))) A6
theorem ya(T:Txt K mg):kM P w K mg base 1 "wants_all" ["wanted","works"] (k9 K):=T.BX.cal (rd:=kA K) AQ (aF rfl) (fun f cdv A outer s H E hr=>
 (aj (aD (aU (wV rfl) (by rfl) T.z_all Wj (aa (bF (N:=["work","wanted"]) (mp:=[none,some 0]) rfl ⟨rfl,by decide +kernel,by rfl,rfl,by rfl⟩ (bY (pv 1)) (fun _ _ _ _ _ _=>(aC (i:=0) (by show Ql (["work","wanted"]:List PH);decide +kernel) rfl (PU rfl))) (fun _ _ _ _ _ _=>bx) (fun _ _ _ _ _ _=>(qp jX (pv 0) (pv 1) rfl))) ag))))) Bh
theorem yJ(T:Txt K mg):kM P w K mg base 2 "common_of" ["wishes","works"] (lG K):=T.Bu.cal (rd:=kO K) Ak (aF rfl) (fun f cdv A outer s H E hr=>
 (aj (aD (bF (N:=["voter","wanted","works"]) (mp:=[none,none,some 1]) rfl ⟨rfl,by decide +kernel,by rfl,rfl,by rfl⟩ (rh (by rfl) T.eV (pv 0)) (fun _ _ _ _ _ _=>(dO rfl (aR (aC (i:=0) (by show Ql (["voter","wanted","works"]:List PH);decide +kernel) rfl (PU rfl)) (aR (aC (i:=1) (by show Ql (["voter","wanted","works"]:List PH);decide +kernel) rfl (PU rfl)) cX)))) (fun _ _ _ _ _ _=>(gy (Ar (aW (ya T) (hr.mono (by decide)) (aa (pv 1) (aa (pv 2) ag)))))) (fun _ _ _ _ _ _=>(pv 0)))))) zR
theorem mv(T:Txt K mg):kM P w K mg base 3 "wanters_of" ["wishes","work"] (gp K):=T.AL.cal (rd:=jN K) yy (aF rfl) (fun f cdv A outer s H E hr=>
 (aj (aD (aW (yJ T) (hr.mono (by decide)) (aa (pv 0) (aa (bj (aa (pv 1) ag)) ag)))))) yk
theorem A8(T:Txt K mg):kM P w K mg base 4 "offer_of" ["purses","wishes","work","price"] (ng K):=T.DB.cal (rd:=nk K) Cf (aF rfl) (fun f cdv A outer s H E hr=>
 (aj (aD (aW (xX T) (hr.mono (by decide)) (aa (bF (N:=["voter","purses"]) (mp:=[none,some 0]) rfl ⟨rfl,by decide +kernel,by rfl,rfl,by rfl⟩ (bY (aW (mv T) (hr.mono (by decide)) (aa (pv 1) (aa (pv 2) ag)))) (fun _ _ _ _ _ _=>(aC (i:=0) (by show Ql (["voter","purses"]:List PH);decide +kernel) rfl (PU rfl))) (fun _ _ _ _ _ _=>bx) (fun _ _ _ _ _ _=>(bh aL (pv 1) (pv 0) (fun _ _=>rfl)))) (aa (pv 3) ag)))))) BJ
theorem yN(T:Txt K mg):kM P w K mg base 5 "offers_of" ["purses","costs","wishes","done"] (kj K):=T.Bz.cal (rd:=km K) g9 (aF rfl) (fun f cdv A outer s H E hr=>
 (ah (aM (i:=4) g9.nd rfl (PU rfl) (bj ag))
   (ah (gF Rt rfl (rh (by rfl) T.eV (aW (yq T) (hr.mono (by decide)) (aa (pv 1) (aa (pv 2) ag)))) (dO rfl (aR (aC (i:=5) g9.nd rfl (PU rfl)) (aR (aC (i:=6) g9.nd rfl (PU rfl)) cX))) (aj (bN (jB Ur Th TC ig (pv 4) (aa (wZ (aI jX (pv 5) (pv 3) rfl) jh (aW (A8 T) (hr.mono (by decide)) (aa (pv 0) (aa (pv 2) (aa (pv 5) (aa (pv 6) ag)))))) ag)))))
   (aj (aD (pv 4)))))) A9
theorem C2(T:Txt K mg):kM P w K mg base 1 "next_of" ["offers"] (pI K):=T.GP.cal (rd:=pP K) i7 (aF rfl) (fun f cdv A outer s H E hr=>
 (ah (aM (i:=1) i7.nd rfl (PU rfl) jh)
   (ah (gF Rt rfl (rh (by rfl) T.eV (pv 0)) (dO rfl (aR (aC (i:=2) i7.nd rfl (PU rfl)) (aR (aC (i:=3) i7.nd rfl (PU rfl)) cX))) (aj (bH (PW.pt (Ed (aI Fz (pv 3) jh (bg _)) (FP (PW.pt (HG (aI DP (pv 1) jh (bg _)) (Ea (aI DC (pv 3) (bh aL (pv 0) (pv 1) (fun _ _=>rfl)) (bg _)))))))) (aj (aM (i:=1) i7.nd rfl (PU rfl) (pv 2))) aZ)))
   (aj (aD (pv 1)))))) DZ
theorem Ac(T:Txt K mg):kM P w K mg base 1 "works_of" ["steps"] (mi K):=T.EL.cal (rd:=mW K) By (aF rfl) (fun f cdv A outer s H E hr=>
 (aj (aD (aU tF (by rfl) T.BF WC (aa (bF (N:=["work","level","paid"]) (mp:=[none,none,none]) rfl ⟨rfl,by decide +kernel,by rfl,rfl,by rfl⟩ (bY (pv 0)) (fun _ _ _ _ _ _=>(dO rfl (aR (aC (i:=0) (by show Ql (["work","level","paid"]:List PH);decide +kernel) rfl (PU rfl)) (aR (aC (i:=1) (by show Ql (["work","level","paid"]:List PH);decide +kernel) rfl (PU rfl)) (aR (aC (i:=2) (by show Ql (["work","level","paid"]:List PH);decide +kernel) rfl (PU rfl)) cX))))) (fun _ _ _ _ _ _=>bx) (fun _ _ _ _ _ _=>(pv 0))) ag))))) Ct
theorem BN(T:Txt K mg):kM P w K mg base 1 "paid_at" ["purses","level"] (pq K):=T.Hq.cal (rd:=pZ K) Ec (aF rfl) (fun f cdv A outer s H E hr=>
 (aj (aD (bF (N:=["purse","level"]) (mp:=[none,some 1]) rfl ⟨rfl,by decide +kernel,by rfl,rfl,by rfl⟩ (bY (pv 0)) (fun _ _ _ _ _ _=>(aC (i:=0) (by show Ql (["purse","level"]:List PH);decide +kernel) rfl (PU rfl))) (fun _ _ _ _ _ _=>bx) (fun _ _ _ _ _ _=>(aU (GV rfl) (by rfl) T.z_min ZI (aa (pv 0) (aa (pv 1) ag)))))))) EO
theorem ua(T:Txt K mg):kM P w K mg base 4 "payments_of" ["purses","wishes","work","level"] (iV K):=T.yl.cal (rd:=iR K) mI (aF rfl) (fun f cdv A outer s H E hr=>
 (ah (aM (i:=4) mI.nd rfl (RQ rfl) (aW (mv T) (hr.mono (by decide)) (aa (pv 1) (aa (pv 2) ag))))
   (aj (aD (bF (N:=["voter","paid","wanters"]) (mp:=[none,none,some 4]) rfl ⟨rfl,by decide +kernel,by rfl,rfl,by rfl⟩ (rh (by rfl) T.eV (aW (BN T) (hr.mono (by decide)) (aa (pv 0) (aa (pv 3) ag)))) (fun _ _ _ _ _ _=>(dO rfl (aR (aC (i:=0) (by show Ql (["voter","paid","wanters"]:List PH);decide +kernel) rfl (PU rfl)) (aR (aC (i:=1) (by show Ql (["voter","paid","wanters"]:List PH);decide +kernel) rfl (PU rfl)) cX)))) (fun _ _ _ _ _ _=>bx) (fun _ _ _ _ _ _=>(wZ (aI jX (pv 0) (pv 2) rfl) (pv 1) ar))))))) vH
theorem lR(T:Txt K mg):kM P w K mg base 6 "step_behind" ["purses","costs","wishes","steps"] (d0 K):=T.yb.cal (rd:=i6 K) dY (aF rfl) (fun f cdv A outer s H E hr=>
 (ah (aM (i:=4) dY.nd rfl (PU rfl) (aW (tS T) (hr.mono (by decide)) (aa (pv 0) (aa (pv 3) ag))))
   (ah (aM (i:=5) dY.nd rfl (PU rfl) (aW (yN T) (hr.mono (by decide)) (aa (pv 4) (aa (pv 1) (aa (pv 2) (aa (aW (Ac T) (hr.mono (by decide)) (aa (pv 3) ag)) ag))))))
   (ah (aM (i:=6) dY.nd rfl (PU rfl) (aW (C2 T) (hr.mono (by decide)) (aa (pv 5) ag)))
   (ah (bH (aI DP (pv 6) jh (bg _)) (aj (aD jh)) aZ)
   (ah (aM (i:=7) dY.nd rfl (PU rfl) (bh aL (pv 5) (pv 6) (fun _ _=>rfl)))
   (aj (aD (fF (aa (pv 6) (aa (pv 7) (aa (aW (ua T) (hr.mono (by decide)) (aa (pv 4) (aa (pv 2) (aa (pv 6) (aa (pv 7) ag))))) ag)))))))))))) wU
theorem EI(T:Txt K mg):kM P w K mg base 7 "choose" ["purses","costs","wishes"] (sj K):=T.Ii.cal (rd:=sh K) n9 (aF rfl) (fun f cdv A outer s H E hr=>
 (ah (aM (i:=3) n9.nd rfl (PU rfl) (bj ag))
   (ah (aM (i:=4) n9.nd rfl (PU rfl) (aW (lR T) (hr.mono (by decide)) (aa (pv 0) (aa (pv 1) (aa (pv 2) (aa (pv 3) ag))))))
   (ah (CZ Rt (aI Fz (pv 4) jh (bg _)) (ah (bN (jB Ur Th TC ig (pv 3) (aa (pv 4) ag)))
   (aj (aM (i:=4) n9.nd rfl (PU rfl) (aW (lR T) (hr.mono (by decide)) (aa (pv 0) (aa (pv 1) (aa (pv 2) (aa (pv 3) ag)))))))))
   (aj (aD (pv 3))))))) Gc
theorem nS(T:Txt K mg):eO sD P w K mg base 1 "Chest" "keep_coins" ["self","left","grains"] (eB K):=T.pB.cal (rd:=eu K) om (aF rfl) (fun f cdv A outer s H E hr=>
 (ah (ic (pv 0) (aA dG (aU (vy rfl) (by rfl) T.z_sum Vl (aa (bF (N:=["part","grains"]) (mp:=[none,some 2]) rfl ⟨rfl,by decide +kernel,by rfl,rfl,by rfl⟩ (bY (pv 1)) (fun _ _ _ _ _ _=>(aC (i:=0) (by show Ql (["part","grains"]:List PH);decide +kernel) rfl (PU rfl))) (fun _ _ _ _ _ _=>bx) (fun _ _ _ _ _ _=>(aA br (pv 0) (pv 1)))) ag)) (pv 2)) vz)
   (aj (gG (pv 0) (Ig rfl (by rfl) T.J6 (by rfl) T.z_zip (aa (bC (pv 0) rfl) (aa (bF (N:=["part","grains"]) (mp:=[none,some 2]) rfl ⟨rfl,by decide +kernel,by rfl,rfl,by rfl⟩ (bY (pv 1)) (fun _ _ _ _ _ _=>(aC (i:=0) (by show Ql (["part","grains"]:List PH);decide +kernel) rfl (PU rfl))) (fun _ _ _ _ _ _=>bx) (fun _ _ _ _ _ _=>(aA dG (pv 0) (pv 1)))) ag))) rfl)))) (ow T.cls)
theorem j6(T:Txt K mg):eO sD P w K mg base 1 "Chest" "wanted_places" ["self","voter"] (dD K):=T.mf.cal (rd:=dH K) kT (aF rfl) (fun f cdv A outer s H E hr=>
 (aj (aD (uU (bF (N:=["place","work","voter","self"]) (mp:=[none,none,some 1,some 0]) rfl ⟨rfl,by decide +kernel,by rfl,rfl,by rfl⟩ (Jf (by rfl) T.eV (bC (pv 0) rfl)) (fun _ _ _ _ _ _=>(dO rfl (aR (aC (i:=0) (by show Ql (["place","work","voter","self"]:List PH);decide +kernel) rfl (PU rfl)) (aR (aC (i:=1) (by show Ql (["place","work","voter","self"]:List PH);decide +kernel) rfl (PU rfl)) cX)))) (fun _ _ _ _ _ _=>(gy (aI (JO hr.units) (fF (aa (pv 2) (aa (pv 1) ag))) (bC (pv 3) rfl) rfl))) (fun _ _ _ _ _ _=>(pv 0))))))) (lI T.cls)
theorem oo(T:Txt K mg):eO sD P w K mg base 1 "Chest" "told_step" ["self","place","paid"] (eU K):=T.rP.cal (rd:=eS K) eT (aF rfl) (fun f cdv A outer s H E hr=>
 (ah (aM (i:=3) eT.nd rfl (PU rfl) (bh aL (dN (D8 rfl) (by rfl) T.HW WT (aa (bC (pv 0) rfl) ag)) (pv 1) (fun _ _=>rfl)))
   (ah (u5 (nY (i:=4) (N:=["voter","part"]) (mp:=[none,none]) eT.nd rfl (PU rfl) rfl ⟨rfl,by decide +kernel,by rfl,rfl,by rfl⟩ (LA (by rfl) T.z_zip (aa (bC (pv 0) rfl) (aa (pv 2) ag))) (fun _ _ _ _ _ _=>(dO rfl (aR (aC (i:=0) (by show Ql (["voter","part"]:List PH);decide +kernel) rfl (PU rfl)) (aR (aC (i:=1) (by show Ql (["voter","part"]:List PH);decide +kernel) rfl (PU rfl)) cX)))) (fun _ _ _ _ _ _=>(gy (aI IZ (pv 1) ar (bg _)))) (fun _ _ _ _ _ _=>(fF (aa (pv 0) (aa (pv 1) ag)))) (by with_unfolding_all rfl)))
   (aj (aD (fF (aa (pv 3) (aa (EW (ve hr) (bC (pv 0) rfl) (pv 3) (fun _ _=>rfl)) (aa (pv 4) ag))))))))) (pE T.cls)
theorem dZ(T:Txt K mg):eO (eC P w base) P w K mg base 1 "Chest" "check_work" ["self","work"] (cM K):=T.pL.calX (rd:=eA K) oq (fun _ _ _ _ h=>h.1) (fun f cdv A outer s H E hr=>
 (aj (bH (Eb (zy (ve hr) (pv 1) (bC (pv 0) rfl))) (aj (c8 T.j5 (aa (dk (.cons ay (.cons (gX (pv 1)) .nil))) ag))) aZ))) (oE T.cls)
theorem iH(T:Txt K mg):eO (eC P w base) P w K mg base 2 "Chest" "withdraw" ["self","work"] (dW K):=T.sP.calX (rd:=fD K) rN (fun _ _ _ _ h=>h.1) (fun f cdv A outer s H E hr=>
 (ah (bN (cU (dZ T) T.bI (hr.mono (by decide)) (pv 0) (aa (pv 1) ag)))
   (ah (PS.nox (bN (Cp (bC (pv 0) rfl) (pv 1) ⟨rfl,rfl,rfl,rfl⟩)))
   (aj (PS.nox (gG (pv 0) (bF (N:=["voter","other","work"]) (mp:=[none,none,some 1]) rfl ⟨rfl,by decide +kernel,by rfl,rfl,by rfl⟩ (bY (bC (pv 0) rfl)) (fun _ _ _ _ _ _=>(dO rfl (aR (aC (i:=0) (by show Ql (["voter","other","work"]:List PH);decide +kernel) rfl (PU rfl)) (aR (aC (i:=1) (by show Ql (["voter","other","work"]:List PH);decide +kernel) rfl (PU rfl)) cX)))) (fun _ _ _ _ _ _=>(gy (aI Fy (pv 1) (pv 2) (bg _)))) (fun _ _ _ _ _ _=>(fF (aa (pv 0) (aa (pv 1) ag))))) rfl)))))) (rq T.cls)
theorem ub(T:Txt K mg):eO sD P w K mg base 8 "Chest" "close" ["self"] (iU K):=T.xQ.cal (rd:=iE K) cn (aF rfl) (fun f cdv A outer s H E hr=>
 (ah (bH (PW.pt (HG (sk (DL (bC (pv 0) rfl))) (Ea (sk (DL (bC (pv 0) rfl)))))) (aj (aD (fF (aa (bj ag) (aa ar ag))))) aZ)
   (ah (aM (i:=1) cn.nd rfl (RQ rfl) (aW (oM T) (hr.mono (by decide)) (aa (aU i3 (by rfl) T.z_len QZ (aa (bC (pv 0) rfl) ag)) (aa (aU i3 (by rfl) T.z_len QZ (aa (bC (pv 0) rfl) ag)) ag))))
   (ah (u5 (nY (i:=2) (N:=["purse","grains"]) (mp:=[none,some 1]) cn.nd rfl (PU rfl) rfl ⟨rfl,by decide +kernel,by rfl,rfl,by rfl⟩ (KI (bC (pv 0) rfl)) (fun _ _ _ _ _ _=>(aC (i:=0) (by show Ql (["purse","grains"]:List PH);decide +kernel) rfl (PU rfl))) (fun _ _ _ _ _ _=>bx) (fun _ _ _ _ _ _=>(aA jq (pv 0) (pv 1))) (by with_unfolding_all rfl)))
   (ah (u5 (nY (i:=3) (N:=["voter","self"]) (mp:=[none,some 0]) cn.nd rfl (PU rfl) rfl ⟨rfl,by decide +kernel,by rfl,rfl,by rfl⟩ (Fu (bC (pv 0) rfl)) (fun _ _ _ _ _ _=>(aC (i:=0) (by show Ql (["voter","self"]:List PH);decide +kernel) rfl (PU rfl))) (fun _ _ _ _ _ _=>bx) (fun _ _ _ _ _ _=>(rj (j6 T) T.bI (hr.mono (by decide)) (pv 1) (aa (pv 0) ag))) (by with_unfolding_all rfl)))
   (ah (aM (i:=4) cn.nd rfl (PU rfl) (aW (EI T) (hr.mono (by decide)) (aa (pv 2) (aa (dN (Aa rfl) (by rfl) T.HW WT (aa (DT UM UY YN Lz (bC (pv 0) rfl)) ag)) (aa (pv 3) ag)))))
   (ah (nY (i:=5) (N:=["work","level","paid","self"]) (mp:=[none,none,none,some 0]) cn.nd rfl (PU rfl) rfl ⟨rfl,by decide +kernel,by rfl,rfl,by rfl⟩ (bY (pv 4)) (fun _ _ _ _ _ _=>(dO rfl (aR (aC (i:=0) (by show Ql (["work","level","paid","self"]:List PH);decide +kernel) rfl (PU rfl)) (aR (aC (i:=1) (by show Ql (["work","level","paid","self"]:List PH);decide +kernel) rfl (PU rfl)) (aR (aC (i:=2) (by show Ql (["work","level","paid","self"]:List PH);decide +kernel) rfl (PU rfl)) cX))))) (fun _ _ _ _ _ _=>bx) (fun _ _ _ _ _ _=>(rj (oo T) T.bI (hr.mono (by decide)) (pv 3) (aa (pv 0) (aa (pv 2) ag)))) (by with_unfolding_all rfl))
   (ah (bN (rj (nS T) T.bI (hr.mono (by decide)) (pv 0) (aa (aW (tS T) (hr.mono (by decide)) (aa (pv 2) (aa (pv 4) ag))) (aa (pv 1) ag))))
   (ah (gF Rt rfl (bY (pv 5)) (dO rfl (aR (aC (i:=6) cn.nd rfl (PU rfl)) (aR (aC (i:=7) cn.nd rfl (PU rfl)) (aR (aC (i:=8) cn.nd rfl (PU rfl)) cX)))) (ah (ic (pv 0) (pv 7) vz)
   (aj (bN (JR (iH T) T.bI (hr.mono (by decide)) (pv 0) (aa (pv 6) ag))))))
   (aj (aD (fF (aa (pv 5) (aa (pv 1) ag)))))))))))))) (u9 T.cls)
theorem yD(T:Txt K mg):kM P w K mg base 1 "paid_text" ["rows"] (kY K):=T.B1.cal (rd:=kJ K) zQ (aF rfl) (fun f cdv A outer s H E hr=>
 (aj (aD (jB RV Sy SV kH ay (aa (bF (N:=["voter","paid"]) (mp:=[none,none]) rfl ⟨rfl,by decide +kernel,by rfl,rfl,by rfl⟩ (bY (pv 0)) (fun _ _ _ _ _ _=>(dO rfl (aR (aC (i:=0) (by show Ql (["voter","paid"]:List PH);decide +kernel) rfl (PU rfl)) (aR (aC (i:=1) (by show Ql (["voter","paid"]:List PH);decide +kernel) rfl (PU rfl)) cX)))) (fun _ _ _ _ _ _=>bx) (fun _ _ _ _ _ _=>(dk (.cons (kE (pv 0)) (.cons ay (.cons (pD (pv 1)) .nil)))))) ag))))) z0
theorem yC(T:Txt K mg):kM P w K mg base 2 "done_text" ["work","cost","rows"] (kr K):=T.BP.cal (rd:=k7 K) rB (aF rfl) (fun f cdv A outer s H E hr=>
 (ah (aM (i:=3) rB.nd rfl (PU rfl) (aW (yD T) (hr.mono (by decide)) (aa (pv 2) ag)))
   (aj (aD (dk (.cons (kE (pv 0)) (.cons ay (.cons (pD (pv 1)) (.cons ay (.cons (kE (pv 3)) .nil)))))))))) Ap
theorem si(T:Txt K mg):kM P w K mg base 3 "closing_text" ["done","grains"] (gI K):=T.wM.cal (rd:=gO K) ma (aF rfl) (fun f cdv A outer s H E hr=>
 (ah (bH (sk (DO (pv 0))) (aj (aD ay)) aZ)
   (ah (aM (i:=2) ma.nd rfl (PU rfl) (jB RV Sy SV kH ay (aa (bF (N:=["work","cost","rows"]) (mp:=[none,none,none]) rfl ⟨rfl,by decide +kernel,by rfl,rfl,by rfl⟩ (bY (pv 0)) (fun _ _ _ _ _ _=>(dO rfl (aR (aC (i:=0) (by show Ql (["work","cost","rows"]:List PH);decide +kernel) rfl (PU rfl)) (aR (aC (i:=1) (by show Ql (["work","cost","rows"]:List PH);decide +kernel) rfl (PU rfl)) (aR (aC (i:=2) (by show Ql (["work","cost","rows"]:List PH);decide +kernel) rfl (PU rfl)) cX))))) (fun _ _ _ _ _ _=>bx) (fun _ _ _ _ _ _=>(aW (yC T) (hr.mono (by decide)) (aa (pv 0) (aa (pv 1) (aa (pv 2) ag)))))) ag)))
   (aj (aD (dk (.cons (kE (pv 2)) (.cons ay (.cons (pD (pv 1)) .nil))))))))) uL
theorem uh(T:Txt K mg):kM P w K mg base 9 "close_chest" ["chest"] (jd K):=T.yw.cal (rd:=iL K) nh (aF rfl) (fun f cdv A outer s H E hr=>
 (ah (aM (i:=1) nh.nd rfl (PU rfl) (nM (ub T) T.bI (hr.mono (by decide)) (pv 0)))
   (aj (aD (aW (si T) (hr.mono (by decide)) (aa (bh Ij (pv 1) ar (fun _ _=>rfl)) (aa (bh Ij (pv 1) ar (fun _ _=>rfl)) ag))))))) w9
theorem xP(T:Txt K mg):kM P w K mg base 1 "work_text" ["work","cost","wanters"] (kx K):=T.CI.cal (rd:=ky K) rK (aF rfl) (fun f cdv A outer s H E hr=>
 (ah (aM (i:=3) rK.nd rfl (PU rfl) (wZ (DO (pv 2)) (jB RV Sy SV kH ay (aa (pv 2) ag)) ay))
   (aj (aD (dk (.cons (kE (pv 0)) (.cons ay (.cons (pD (pv 1)) (.cons ay (.cons (kE (pv 3)) .nil)))))))))) As
theorem vd(T:Txt K mg):kM P w K mg base 2 "works_text" ["works"] (jD K):=T.Ax.cal (rd:=jO K) yp (aF rfl) (fun f cdv A outer s H E hr=>
 (ah (bH (sk (DO (pv 0))) (aj (aD ay)) aZ)
   (aj (aD (jB RV Sy SV kH ay (aa (bF (N:=["work","cost","wanters"]) (mp:=[none,none,none]) rfl ⟨rfl,by decide +kernel,by rfl,rfl,by rfl⟩ (bY (pv 0)) (fun _ _ _ _ _ _=>(dO rfl (aR (aC (i:=0) (by show Ql (["work","cost","wanters"]:List PH);decide +kernel) rfl (PU rfl)) (aR (aC (i:=1) (by show Ql (["work","cost","wanters"]:List PH);decide +kernel) rfl (PU rfl)) (aR (aC (i:=2) (by show Ql (["work","cost","wanters"]:List PH);decide +kernel) rfl (PU rfl)) cX))))) (fun _ _ _ _ _ _=>bx) (fun _ _ _ _ _ _=>(aW (xP T) (hr.mono (by decide)) (aa (pv 0) (aa (pv 1) (aa (pv 2) ag)))))) ag)))))) yM
theorem qH(T:Txt K mg):eO sD P w K mg base 1 "Chest" "wanters" ["self","work"] (gd K):=T.uD.cal (rd:=fY K) r8 (aF rfl) (fun f cdv A outer s H E hr=>
 (aj (aD (uU (bF (N:=["voter","work","self"]) (mp:=[none,some 1,some 0]) rfl ⟨rfl,by decide +kernel,by rfl,rfl,by rfl⟩ (Fu (bC (pv 0) rfl)) (fun _ _ _ _ _ _=>(aC (i:=0) (by show Ql (["voter","work","self"]:List PH);decide +kernel) rfl (PU rfl))) (fun _ _ _ _ _ _=>(gy (aI (JO hr.units) (fF (aa (pv 0) (aa (pv 1) ag))) (bC (pv 2) rfl) rfl))) (fun _ _ _ _ _ _=>(pv 0))))))) (rZ T.cls)
theorem uR(T:Txt K mg):eO sD P w K mg base 2 "Chest" "works" ["self"] (iy K):=T.yd.cal (rd:=ja K) xi (aF rfl) (fun f cdv A outer s H E hr=>
 (aj (aD (uU (bF (N:=["work","cost","self"]) (mp:=[none,none,some 0]) rfl ⟨rfl,by decide +kernel,by rfl,rfl,by rfl⟩ (CW (bC (pv 0) rfl)) (fun _ _ _ _ _ _=>(dO rfl (aR (aC (i:=0) (by show Ql (["work","cost","self"]:List PH);decide +kernel) rfl (PU rfl)) (aR (aC (i:=1) (by show Ql (["work","cost","self"]:List PH);decide +kernel) rfl (PU rfl)) cX)))) (fun _ _ _ _ _ _=>bx) (fun _ _ _ _ _ _=>(fF (aa (pv 0) (aa (pv 1) (aa (rj (qH T) T.bI (hr.mono (by decide)) (pv 2) (aa (pv 0) ag)) ag)))))))))) (xh T.cls)
theorem yu(T:Txt K mg):eO sD P w K mg base 1 "Chest" "pot" ["self"] (kl K):=T.Df.cal (rd:=kQ K) Az (aF rfl) (fun f cdv A outer s H E hr=>
 (aj (aD (bC (pv 0) rfl)))) (An T.cls)
theorem uw(T:Txt K mg):eO sD P w K mg base 1 "Chest" "given" ["self"] (iY K):=T.yi.cal (rd:=i5 K) wx (aF rfl) (fun f cdv A outer s H E hr=>
 (aj (aD (bC (pv 0) rfl)))) (xm T.cls)
theorem uP(T:Txt K mg):eO sD P w K mg base 1 "Chest" "spent" ["self"] (iu K):=T.xY.cal (rd:=iO K) xg (aF rfl) (fun f cdv A outer s H E hr=>
 (aj (aD (bC (pv 0) rfl)))) (xn T.cls)
theorem Cv(T:Txt K mg):xS P w K mg base 10 "say_one" ["chest","deed"] (pQ K):=T.G4.calX (rd:=pV K) Dy (fun _ _ _ _ h=>h.1) (fun f cdv A outer s H E hr=>
 (ah (PS.nox (bH (aI c9 (pv 1) ay (bg _)) (aj (PS.nox (aD (aW (uh T) (hr.mono (by decide)) (aa (pv 0) ag))))) aZ))
   (ah (PS.nox (bH (aI c9 (pv 1) ay (bg _)) (aj (PS.nox (aD (aW (vd T) (hr.mono (by decide)) (aa (nM (uR T) T.bI (hr.mono (by decide)) (pv 0)) ag))))) aZ))
   (ah (PS.nox (bH (aI c9 (pv 1) ay (bg _)) (aj (PS.nox (aD (dN ie (by rfl) T.z_str Tc (aa (nM (yu T) T.bI (hr.mono (by decide)) (pv 0)) ag))))) aZ))
   (ah (PS.nox (bH (aI c9 (pv 1) ay (bg _)) (aj (PS.nox (aD (dN ie (by rfl) T.z_str Tc (aa (nM (uw T) T.bI (hr.mono (by decide)) (pv 0)) ag))))) aZ))
   (ah (PS.nox (bH (aI c9 (pv 1) ay (bg _)) (aj (PS.nox (aD (dN ie (by rfl) T.z_str Tc (aa (nM (uP T) T.bI (hr.mono (by decide)) (pv 0)) ag))))) aZ))
   (aj (c8 T.fC (aa (dk (.cons ay (.cons (gX (pv 1)) .nil))) ag))))))))) Ex
theorem Cu(T:Txt K mg):kM P w K mg base 1 "is_name" ["name"] (pM K):=T.F7.cal (rd:=pU K) EM (aF rfl) (fun f cdv A outer s H E hr=>
 (aj (aD (HQ (Cw z9 z9 ar (aU nU (by rfl) T.z_len QZ (aa (pv 0) ag)) (T.xc.pe (by rfl))) (Iq (aU (wV rfl) (by rfl) T.z_all Wj (aa (bF (N:=["sign"]) (mp:=[none]) rfl ⟨rfl,by decide +kernel,by rfl,rfl,by rfl⟩ (FJ (pv 0)) (fun _ _ _ _ _ _=>(aC (i:=0) (by show Ql (["sign"]:List PH);decide +kernel) rfl (PU rfl))) (fun _ _ _ _ _ _=>bx) (fun _ _ _ _ _ _=>(qp Ja (pv 0) (T.Gi.pe (by rfl)) rfl))) ag))))))) Dx
theorem jg(T:Txt K mg):xS P w K mg base 2 "check_new_name" ["name","names"] (dQ K):=T.r9.calX (rd:=fO K) q0 (fun _ _ _ _ h=>h.1) (fun f cdv A outer s H E hr=>
 (ah (bH (sk (Ar (aW (Cu T) (hr.mono (by decide)) (aa (pv 0) ag)))) (aj (c8 T.j1 (aa (dk (.cons ay (.cons (gX (pv 0)) .nil))) ag))) aZ)
   (aj (bH (Eb (Mt (ve hr) (pv 0) (pv 1))) (aj (c8 T.nZ (aa (dk (.cons ay (.cons (kE (pv 0)) .nil))) ag))) aZ)))) qt
theorem lO(T:Txt K mg):xS P w K mg base 1 "check_place" ["names","most"] (fq K):=T.x9.calX (rd:=iP K) vw (fun _ _ _ _ h=>h.1) (fun f cdv A outer s H E hr=>
 (aj (bH (aI IM (aU i3 (by rfl) T.z_len QZ (aa (pv 0) ag)) (pv 1) (bg _)) (aj (c8 T.sQ (aa (dk (.cons ay (.cons (pD (pv 1)) (.cons ay .nil)))) ag))) aZ))) wY
theorem uF(T:Txt K mg):eO (eC P w base) P w K mg base 3 "Chest" "enrol" ["self","name"] (iS K):=T.yf.calX (rd:=ip K) vn (fun _ _ _ _ h=>h.1) (fun f cdv A outer s H E hr=>
 (ah (bN (eI (jg T) (hr.mono (by decide)) (aa (pv 1) (aa (bC (pv 0) rfl) ag))))
   (ah (bN (eI (lO T) (hr.mono (by decide)) (aa (bC (pv 0) rfl) (aa (T.yI.pe (by rfl)) ag))))
   (aj (PS.nox (Fp (ve hr) (bC (pv 0) rfl) (pv 1) ar rfl)))))) (vD T.cls)
theorem cY(T:Txt K mg):eO (eC P w base) P w K mg base 1 "Chest" "check_voter" ["self","voter"] (cg K):=T.oC.calX (rd:=d4 K) nN (fun _ _ _ _ h=>h.1) (fun f cdv A outer s H E hr=>
 (aj (bH (Eb (zy (ve hr) (pv 1) (bC (pv 0) rfl))) (aj (c8 T.ib (aa (dk (.cons ay (.cons (gX (pv 1)) .nil))) ag))) aZ))) (mR T.cls)
theorem pX(T:Txt K mg):eO (eC P w base) P w K mg base 2 "Chest" "purse_of" ["self","voter"] (fv K):=T.sf.calX (rd:=fL K) qZ (fun _ _ _ _ h=>h.1) (fun f cdv A outer s H E hr=>
 (ah (bN (cU (cY T) T.bI (hr.mono (by decide)) (pv 0) (aa (pv 1) ag)))
   (aj (PS.nox (aD (EW (ve hr) (bC (pv 0) rfl) (pv 1) (fun _ _=>rfl))))))) (rg T.cls)
theorem uB(T:Txt K mg):eO (eC P w base) P w K mg base 2 "Chest" "leave" ["self","name"] (iq K):=T.yr.calX (rd:=iB K) wJ (fun _ _ _ _ h=>h.1) (fun f cdv A outer s H E hr=>
 (ah (bN (cU (cY T) T.bI (hr.mono (by decide)) (pv 0) (aa (pv 1) ag)))
   (ah (PS.nox (ic (pv 0) (Cp (bC (pv 0) rfl) (pv 1) ⟨rfl,rfl,rfl,rfl⟩) vz))
   (aj (PS.nox (gG (pv 0) (bF (N:=["voter","work","name"]) (mp:=[none,none,some 1]) rfl ⟨rfl,by decide +kernel,by rfl,rfl,by rfl⟩ (bY (bC (pv 0) rfl)) (fun _ _ _ _ _ _=>(dO rfl (aR (aC (i:=0) (by show Ql (["voter","work","name"]:List PH);decide +kernel) rfl (PU rfl)) (aR (aC (i:=1) (by show Ql (["voter","work","name"]:List PH);decide +kernel) rfl (PU rfl)) cX)))) (fun _ _ _ _ _ _=>(gy (aI Fy (pv 0) (pv 2) (bg _)))) (fun _ _ _ _ _ _=>(fF (aa (pv 0) (aa (pv 1) ag))))) rfl)))))) (vV T.cls)
theorem lQ(T:Txt K mg):xS P w K mg base 1 "check_coins" ["coins","least"] (fw K):=T.xO.calX (rd:=iG K) vW (fun _ _ _ _ h=>h.1) (fun f cdv A outer s H E hr=>
 (aj (bH (PW.pt (HG (aI DC (pv 0) (pv 1) (bg _)) (Ea (aI IZ (pv 0) (T.nQ.pe (by rfl)) (bg _))))) (aj (c8 T.ij (aa (dk (.cons ay (.cons (pD (pv 1)) (.cons ay (.cons (pD (T.nQ.pe (by rfl))) (.cons ay .nil)))))) ag))) aZ))) vN
theorem uy(T:Txt K mg):eO sD P w K mg base 1 "Chest" "share" ["self","part"] (iZ K):=T.yH.cal (rd:=i4 K) xk (aF rfl) (fun f cdv A outer s H E hr=>
 (ah (ic (pv 0) (aA jq (pv 1) (aU i3 (by rfl) T.z_len QZ (aa (bC (pv 0) rfl) ag))) MW)
   (aj (gG (pv 0) (dN (DR rfl) (by rfl) T.J6 (by decide +kernel) (aa (uU (bF (N:=["voter","purse","part"]) (mp:=[none,none,some 1]) rfl ⟨rfl,by decide +kernel,by rfl,rfl,by rfl⟩ (CW (bC (pv 0) rfl)) (fun _ _ _ _ _ _=>(dO rfl (aR (aC (i:=0) (by show Ql (["voter","purse","part"]:List PH);decide +kernel) rfl (PU rfl)) (aR (aC (i:=1) (by show Ql (["voter","purse","part"]:List PH);decide +kernel) rfl (PU rfl)) cX)))) (fun _ _ _ _ _ _=>bx) (fun _ _ _ _ _ _=>(fF (aa (pv 0) (aa (aA cJ (pv 1) (pv 2)) ag)))))) ag)) rfl)))) (vh T.cls)
theorem xF(T:Txt K mg):eO (eC P w base) P w K mg base 2 "Chest" "give" ["self","coins"] (jF K):=T.Bd.calX (rd:=jP K) ye (fun _ _ _ _ h=>h.1) (fun f cdv A outer s H E hr=>
 (ah (bN (eI (lQ T) (hr.mono (by decide)) (aa (pv 1) (aa ar ag))))
   (ah (PS.nox (ic (pv 0) (pv 1) vz))
   (ah (PS.nox (ic (pv 0) (pv 1) vz))
   (aj (PS.nox (bH (DL (bC (pv 0) rfl)) (aj (PS.nox (bN (rj (uy T) T.bI (hr.mono (by decide)) (pv 0) (aa (aA dG (bC (pv 0) rfl) (aU i3 (by rfl) T.z_len QZ (aa (bC (pv 0) rfl) ag))) ag))))) aZ))))))) (yL T.cls)
theorem xR(T:Txt K mg):kM P w K mg base 1 "is_number" ["word"] (kW K):=T.CG.cal (rd:=kC K) A4 (aF rfl) (fun f cdv A outer s H E hr=>
 (ah (bH (Ar (jB RV YK ZV yF (pv 0) (aa ay ag))) (aj (aD (qp c9 (pv 0) ay (bg _)))) aZ)
   (aj (aD (HQ (Cw z9 z9 ar (aU nU (by rfl) T.z_len QZ (aa (pv 0) ag)) (T.vA.pe (by rfl))) (Iq (aU (wV rfl) (by rfl) T.z_all Wj (aa (bF (N:=["sign"]) (mp:=[none]) rfl ⟨rfl,by decide +kernel,by rfl,rfl,by rfl⟩ (FJ (pv 0)) (fun _ _ _ _ _ _=>(aC (i:=0) (by show Ql (["sign"]:List PH);decide +kernel) rfl (PU rfl))) (fun _ _ _ _ _ _=>bx) (fun _ _ _ _ _ _=>(qp Ja (pv 0) (T.GY.pe (by rfl)) rfl))) ag)))))))) AI
theorem lX(T:Txt K mg):xS P w K mg base 2 "read_number" ["word"] (fe K):=T.yO.calX (rd:=iz K) vg (fun _ _ _ _ h=>h.1) (fun f cdv A outer s H E hr=>
 (ah (bH (sk (Ar (aW (xR T) (hr.mono (by decide)) (aa (pv 0) ag)))) (aj (c8 T.fC (aa (dk (.cons ay (.cons (gX (pv 0)) .nil))) ag))) aZ)
   (aj (PS.nox (aD (dN FW (by rfl) T.z_int Y3 (aa (pv 0) ag))))))) vC
theorem BL(T:Txt K mg):xS P w K mg base 4 "say_two" ["chest","deed","word"] (pR K):=T.He.calX (rd:=pH K) Dt (fun _ _ _ _ h=>h.1) (fun f cdv A outer s H E hr=>
 (ah (bH (aI c9 (pv 1) ay (bg _)) (aj (aD (dN ie (by rfl) T.z_str Tc (aa (cU (pX T) T.bI (hr.mono (by decide)) (pv 0) (aa (pv 2) ag)) ag)))) aZ)
   (ah (bH (aI c9 (pv 1) ay (bg _)) (aj (bN (cU (uF T) T.bI (hr.mono (by decide)) (pv 0) (aa (pv 2) ag)))) (aj (bH (aI c9 (pv 1) ay (bg _)) (aj (bN (cU (uB T) T.bI (hr.mono (by decide)) (pv 0) (aa (pv 2) ag)))) (aj (bH (aI c9 (pv 1) ay (bg _)) (aj (bN (cU (xF T) T.bI (hr.mono (by decide)) (pv 0) (aa (eI (lX T) (hr.mono (by decide)) (aa (pv 2) ag)) ag)))) (aj (bH (aI c9 (pv 1) ay (bg _)) (aj (bN (cU (iH T) T.bI (hr.mono (by decide)) (pv 0) (aa (pv 2) ag)))) (aj (c8 T.fC (aa (dk (.cons ay (.cons (gX (pv 1)) .nil))) ag))))))))))
   (aj (PS.nox (aD ay)))))) Dq
theorem qR(T:Txt K mg):eO (eC P w base) P w K mg base 3 "Chest" "propose" ["self","work","cost"] (gj K):=T.ur.calX (rd:=gg K) so (fun _ _ _ _ h=>h.1) (fun f cdv A outer s H E hr=>
 (ah (bN (eI (jg T) (hr.mono (by decide)) (aa (pv 1) (aa (bC (pv 0) rfl) ag))))
   (ah (bN (eI (lQ T) (hr.mono (by decide)) (aa (pv 2) (aa ar ag))))
   (ah (bN (eI (lO T) (hr.mono (by decide)) (aa (bC (pv 0) rfl) (aa (T.AS.pe (by rfl)) ag))))
   (aj (PS.nox (Fp (ve hr) (bC (pv 0) rfl) (pv 1) (pv 2) rfl))))))) (rR T.cls)
theorem vZ(T:Txt K mg):eO (eC P w base) P w K mg base 2 "Chest" "want" ["self","voter","work"] (jM K):=T.AX.calX (rd:=jR K) yB (fun _ _ _ _ h=>h.1) (fun f cdv A outer s H E hr=>
 (ah (bN (cU (cY T) T.bI (hr.mono (by decide)) (pv 0) (aa (pv 1) ag)))
   (ah (bN (cU (dZ T) T.bI (hr.mono (by decide)) (pv 0) (aa (pv 2) ag)))
   (aj (PS.nox (bH (aI (Kx hr.units) (fF (aa (pv 1) (aa (pv 2) ag))) (bC (pv 0) rfl) rfl) (aj (PS.nox (bN (jB Ur Th TC ig (bC (pv 0) rfl) (aa (fF (aa (pv 1) (aa (pv 2) ag))) ag))))) aZ)))))) (yz T.cls)
theorem sm(T:Txt K mg):eO (eC P w base) P w K mg base 2 "Chest" "unwant" ["self","voter","work"] (gE K):=T.vF.calX (rd:=gJ K) uS (fun _ _ _ _ h=>h.1) (fun f cdv A outer s H E hr=>
 (ah (bN (cU (cY T) T.bI (hr.mono (by decide)) (pv 0) (aa (pv 1) ag)))
   (ah (bN (cU (dZ T) T.bI (hr.mono (by decide)) (pv 0) (aa (pv 2) ag)))
   (aj (PS.nox (gG (pv 0) (bF (N:=["wish","voter","work"]) (mp:=[none,some 1,some 2]) rfl ⟨rfl,by decide +kernel,by rfl,rfl,by rfl⟩ (bY (bC (pv 0) rfl)) (fun _ _ _ _ _ _=>(aC (i:=0) (by show Ql (["wish","voter","work"]:List PH);decide +kernel) rfl (PU rfl))) (fun _ _ _ _ _ _=>(gy (aI (iW hr.units) (pv 0) (fF (aa (pv 1) (aa (pv 2) ag))) (bg _)))) (fun _ _ _ _ _ _=>(pv 0))) rfl)))))) (uC T.cls)
theorem xV(T:Txt K mg):xS P w K mg base 4 "say_three" ["chest","deed","word","last"] (kd K):=T.De.calX (rd:=kR K) A0 (fun _ _ _ _ h=>h.1) (fun f cdv A outer s H E hr=>
 (ah (bH (aI c9 (pv 1) ay (bg _)) (aj (bN (cU (qR T) T.bI (hr.mono (by decide)) (pv 0) (aa (pv 2) (aa (eI (lX T) (hr.mono (by decide)) (aa (pv 3) ag)) ag))))) (aj (bH (aI c9 (pv 1) ay (bg _)) (aj (bN (cU (vZ T) T.bI (hr.mono (by decide)) (pv 0) (aa (pv 2) (aa (pv 3) ag))))) (aj (bH (aI c9 (pv 1) ay (bg _)) (aj (bN (cU (sm T) T.bI (hr.mono (by decide)) (pv 0) (aa (pv 2) (aa (pv 3) ag))))) (aj (c8 T.fC (aa (dk (.cons ay (.cons (gX (pv 1)) .nil))) ag))))))))
   (aj (PS.nox (aD ay))))) Ay
theorem Ag(T:Txt K mg):eO (eC P w base) P w K mg base 11 "Desk" "say" ["self","row"] (jn K):=T.DW.calX (rd:=ml K) tO (fun _ _ _ _ h=>h.1) (fun f cdv A outer s H E hr=>
 (ah (aM (i:=2) tO.nd rfl (PU rfl) (eI (vp T) (hr.mono (by decide)) (aa (pv 1) ag)))
   (ah (bH (aI c9 (aU bT (by rfl) T.z_len QZ (aa (pv 2) ag)) ar (bg _)) (aj (aD (eI (Cv T) (hr.mono (by decide)) (aa (bC (pv 0) rfl) (aa (bh aL (pv 2) ar (fun _ _=>rfl)) ag))))) aZ)
   (ah (bH (aI c9 (aU bT (by rfl) T.z_len QZ (aa (pv 2) ag)) ar (bg _)) (aj (aD (eI (BL T) (hr.mono (by decide)) (aa (bC (pv 0) rfl) (aa (bh aL (pv 2) ar (fun _ _=>rfl)) (aa (bh aL (pv 2) ar (fun _ _=>rfl)) ag)))))) aZ)
   (ah (bH (aI c9 (aU bT (by rfl) T.z_len QZ (aa (pv 2) ag)) ar (bg _)) (aj (aD (eI (xV T) (hr.mono (by decide)) (aa (bC (pv 0) rfl) (aa (bh aL (pv 2) ar (fun _ _=>rfl)) (aa (bh aL (pv 2) ar (fun _ _=>rfl)) (aa (bh aL (pv 2) ar (fun _ _=>rfl)) ag))))))) aZ)
   (aj (c8 T.fC (aa (dk (.cons ay (.cons (gX (pv 1)) .nil))) ag)))))))) (Dd T.cls)
theorem de(T:Txt K mg):kM P w K mg base 12 "_law_said" ["desk","row"] (cP K):=T.B6.cal (rd:=kI K) dB (aF rfl) (fun f cdv A outer s H E hr=>
 (ah (aM (i:=2) dB.nd rfl (PU rfl) jh)
   (ah (aM (i:=3) dB.nd rfl (PU rfl) jh)
   (ah (Ho (i:=4) (j:=3) rfl rfl (fun b=>(Rf:b∉([]:List PK))) rfl dB.nd rfl rfl rfl (by rfl) T.ko.bound (fun E=>(Lw (E:=E) (Ag T) T.rQ (hr.mono (by decide)) (fun b=>(Rf:b∉([]:List PK))) (pv 0) (aa (pv 1) ag))) (fun v=>(aj (aM (i:=2) dB.nd rfl (PU rfl) (pv 4)))))
   (ah (bH (aI DP (pv 2) jh (bg _)) (aj (aD (pv 3))) aZ)
   (ah (aM (i:=5) dB.nd rfl (PU rfl) (bj (aa (aU cN (by rfl) T.cO Si (aa (pv 2) (aa (mO T.fC) ag))) (aa (aU cN (by rfl) T.cO Si (aa (pv 2) (aa (mO T.ib) ag))) (aa (aU cN (by rfl) T.cO Si (aa (pv 2) (aa (Km (by rfl) T.AD (by first|rfl|decide +kernel) rfl) ag))) ag)))))
   (ah (aM (i:=5) dB.nd rfl (PU rfl) (aA c5 (pv 5) (bj (aa (aU cN (by rfl) T.cO Si (aa (pv 2) (aa (mO T.j1) ag))) (aa (aU cN (by rfl) T.cO Si (aa (pv 2) (aa (mO T.nZ) ag))) (aa (aU cN (by rfl) T.cO Si (aa (pv 2) (aa (mO T.j5) ag))) ag))))))
   (aj (aD (aA c5 (pv 5) (bj (aa (aU cN (by rfl) T.cO Si (aa (pv 2) (aa (mO T.ij) ag))) (aa (aU cN (by rfl) T.cO Si (aa (pv 2) (aa (mO T.sQ) ag))) (aa (aU cN (by rfl) T.cO Si (aa (pv 2) (aa (mO T.sJ) ag))) ag)))))))))))))) (zP T.cls)
theorem oU(T:Txt K mg):kM P w K mg base 13 "_law_look" ["desk","names"] (hJ K):=T.Cm.cal (rd:=lh K) qN (aF rfl) (fun f cdv A outer s H E hr=>
 (ah (aM (i:=2) qN.nd rfl (PU rfl) (aA c5 (bF (N:=["name"]) (mp:=[none]) rfl ⟨rfl,by decide +kernel,by rfl,rfl,by rfl⟩ (bY (pv 1)) (fun _ _ _ _ _ _=>(aC (i:=0) (by show Ql (["name"]:List PH);decide +kernel) rfl (PU rfl))) (fun _ _ _ _ _ _=>bx) (fun _ _ _ _ _ _=>(aA bX ay (pv 0)))) (bj (aa ay (aa ay (aa ay (aa ay (aa ay (aa ay (aa ay (aa ay ag)))))))))))
   (aj (aD (bF (N:=["row","desk"]) (mp:=[none,some 0]) rfl ⟨rfl,by decide +kernel,by rfl,rfl,by rfl⟩ (bY (pv 2)) (fun _ _ _ _ _ _=>(aC (i:=0) (by show Ql (["row","desk"]:List PH);decide +kernel) rfl (PU rfl))) (fun _ _ _ _ _ _=>bx) (fun _ _ _ _ _ _=>(aW (de T) (hr.mono (by decide)) (aa (pv 1) (aa (pv 0) ag))))))))) zZ
theorem gS(T:Txt K mg):kM P w K mg base 1 "_law_good_words" ["xs","names"] (dC K):=T.qU.cal (rd:=eR K) cT (aF rfl) (fun f cdv A outer s H E hr=>
 (ah (aM (i:=2) cT.nd rfl (PU rfl) (bh aL (pv 1) (aA br (bh aL (pv 0) ar (fun _ _=>rfl)) (aU bT (by rfl) T.z_len QZ (aa (pv 1) ag))) (fun _ _=>rfl)))
   (ah (aM (i:=3) cT.nd rfl (PU rfl) (bh aL (pv 1) (aA br (bh aL (pv 0) ar (fun _ _=>rfl)) (aU bT (by rfl) T.z_len QZ (aa (pv 1) ag))) (fun _ _=>rfl)))
   (ah (aM (i:=4) cT.nd rfl (PU rfl) (bj (aa (bj (aa ay (aa (pv 2) ag))) (aa (bj (aa ay (aa (pv 2) ag))) (aa (bj (aa ay (aa ay ag))) (aa (bj (aa ay (aa (pv 2) (aa ay ag)))) (aa (bj (aa ay (aa (pv 2) ag))) (aa (bj (aa ay ag)) ag))))))))
   (ah (aM (i:=4) cT.nd rfl (PU rfl) (aA c5 (pv 4) (bj (aa (bj (aa ay (aa (pv 2) (aa (pv 3) ag)))) (aa (bj (aa ay (aa (pv 2) (aa (pv 3) ag)))) (aa (bj (aa ay (aa (pv 2) ag))) (aa (bj (aa ay ag)) (aa (bj (aa ay ag)) (aa (bj (aa ay ag)) ag)))))))))
   (aj (aD (bh aL (aA c5 (pv 4) (bj (aa (bj (aa ay ag)) ag))) (aA br (bh aL (pv 0) ar (fun _ _=>rfl)) ar) (fun _ _=>rfl))))))))) ph
theorem ot(T:Txt K mg):kM P w K mg base 1 "_law_other_word" ["word","x"] (eN K):=T.qD.cal (rd:=eL K) bZ (aF rfl) (fun f cdv A outer s H E hr=>
 (ah (aM (i:=2) bZ.nd rfl (PU rfl) (bj (aa ay (aa ay (aa ay (aa ay (aa ay (aa ay (aa ay ag)))))))))
   (ah (aM (i:=2) bZ.nd rfl (PU rfl) (aA c5 (pv 2) (bj (aa ay (aa ay (aa ay (aa ay (aa ay (aa ay ag)))))))))
   (ah (aM (i:=3) bZ.nd rfl (PU rfl) (aA br (aA dG (pv 1) ar) (aU nU (by rfl) T.z_len QZ (aa (pv 0) ag))))
   (ah (aM (i:=4) bZ.nd rfl (PU rfl) (bj (aa (aA bX (bU jc (pv 0) cK (ck (pv 3))) (bU jc (pv 0) (ck (aA cJ (pv 3) ar)) cK)) (aa (aA bX (aA bX (bU jc (pv 0) cK (ck (pv 3))) (bh kg (pv 0) (pv 3) (fun _ _=>rfl))) (bU jc (pv 0) (ck (pv 3)) cK)) (aa (aA bX (aA bX (bU jc (pv 0) cK (ck (pv 3))) (DT RV VR X8 Di (bh kg (pv 0) (pv 3) (fun _ _=>rfl)))) (bU jc (pv 0) (ck (aA cJ (pv 3) ar)) cK)) ag)))))
   (ah (aM (i:=4) bZ.nd rfl (PU rfl) (aA c5 (pv 4) (bj (aa (bh aL (bj (aa ay (aa ay (aa ay (aa ay (aa ay (aa ay ag))))))) (aA br (aA dG (pv 1) ar) ar) (fun _ _=>rfl)) (aa (aA bX (pv 0) (bh kg ay (aA br (aA dG (pv 1) ar) ar) (fun _ _=>rfl))) ag)))))
   (ah (aM (i:=5) bZ.nd rfl (PU rfl) (bh aL (pv 4) (aA br (pv 1) ar) (fun _ _=>rfl)))
   (ah (bH (aI jX (pv 5) (pv 2) rfl) (aj (aD ay)) aZ)
   (aj (aD (pv 5))))))))))) pC
theorem lV(T:Txt K mg):kM P w K mg base 1 "_law_number" ["x"] (fz K):=T.xW.cal (rd:=jf K) mS (aF rfl) (fun f cdv A outer s H E hr=>
 (ah (aM (i:=1) mS.nd rfl (PU rfl) (bj (aa ay (aa ay (aa ay (aa ay (aa ay (aa ay (aa (aA bX ay (aA ER ay ar)) (aa ay (aa ay (aa ay (aa ay (aa ay (aa ay (aa ay (aa ay ag)))))))))))))))))
   (aj (aD (bh aL (pv 1) (aA br (pv 0) ar) (fun _ _=>rfl)))))) xt
theorem AW(T:Txt K mg):kM P w K mg base 2 "_law_bad" ["xs","names"] (mq K):=T.EB.cal (rd:=mP K) jt (aF rfl) (fun f cdv A outer s H E hr=>
 (ah (aM (i:=2) jt.nd rfl (PU rfl) (bh aL (pv 1) (aA br (bh aL (pv 0) ar (fun _ _=>rfl)) (aU bT (by rfl) T.z_len QZ (aa (pv 1) ag))) (fun _ _=>rfl)))
   (ah (aM (i:=3) jt.nd rfl (PU rfl) (aW (gS T) (hr.mono (by decide)) (aa (pv 0) (aa (pv 1) ag))))
   (ah (aM (i:=4) jt.nd rfl (PU rfl) (aA br (bh aL (pv 0) ar (fun _ _=>rfl)) ar))
   (ah (bH (aI c9 (pv 4) ar (bg _)) (aj (aD (aA c5 (pv 3) (bj (aa (bh aL (bj (aa (pv 2) (aa ay (aa ay ag)))) (aA br (bh aL (pv 0) ar (fun _ _=>rfl)) ar) (fun _ _=>rfl)) ag))))) aZ)
   (ah (bH (aI c9 (pv 4) ar (bg _)) (aj (aD (bU fi (pv 3) cK (ck (aA br (bh aL (pv 0) ar (fun _ _=>rfl)) (aU bT (by rfl) T.z_len QZ (aa (pv 3) ag))))))) aZ)
   (ah (bH (aI c9 (pv 4) ar (bg _)) (aj (aD (bh aL (bj (aa (bj (aa ay (aa (aW (lV T) (hr.mono (by decide)) (aa (bh aL (pv 0) ar (fun _ _=>rfl)) ag)) ag))) (aa (bj (aa ay (aa (pv 2) (aa (aW (lV T) (hr.mono (by decide)) (aa (bh aL (pv 0) ar (fun _ _=>rfl)) ag)) ag)))) ag))) (aA br (bh aL (pv 0) ar (fun _ _=>rfl)) ar) (fun _ _=>rfl)))) aZ)
   (ah (bH (aI c9 (pv 4) ar (bg _)) (aj (aD (aA c5 (bj (aa (aW (ot T) (hr.mono (by decide)) (aa (bh aL (pv 3) ar (fun _ _=>rfl)) (aa (bh aL (pv 0) ar (fun _ _=>rfl)) ag))) ag)) (bU fi (pv 3) (ck ar) cK)))) aZ)
   (ah (bH (aI c9 (pv 4) ar (bg _)) (aj (aD (aA c5 (bj (aa ay ag)) (pv 3)))) aZ)
   (ah (bH (aI c9 (pv 4) ar (bg _)) (aj (aD (aA c5 (pv 3) (bj (aa ay ag))))) aZ)
   (ah (bH (aI c9 (pv 4) ar (bg _)) (aj (aD (aA c5 (bj (aa (aA bX (bh aL (pv 3) ar (fun _ _=>rfl)) (bh kg ay (aA br (bh aL (pv 0) ar (fun _ _=>rfl)) ar) (fun _ _=>rfl))) ag)) (bU fi (pv 3) (ck ar) cK)))) aZ)
   (ah (bH (aI c9 (pv 4) ar (bg _)) (aj (aD (aA c5 (bj (aa (aA bX (bh kg ay (aA br (bh aL (pv 0) ar (fun _ _=>rfl)) ar) (fun _ _=>rfl)) (bh aL (pv 3) ar (fun _ _=>rfl))) ag)) (bU fi (pv 3) (ck ar) cK)))) aZ)
   (aj (aD (aA c5 (aA c5 (bU fi (pv 3) cK (ck ar)) (bj (aa ay ag))) (bU fi (pv 3) (ck ar) cK)))))))))))))))) Bx
theorem MG(T:Txt K mg){f:PK}{cdv:PL}{A:Qg}{outer:List Qq}{s:PN}{H:Hp}{E:XK}(hr:di 13 (A.deeper (Q7 "law" (aq BS) s.heap.objs.size f cdv))):
  xI (cv sD P w K mg base ["script","first","cell","xs","one","other","rows","row","names","number","spins","good","strangers","stranger"] "law" (aq BS) f cdv A outer s H E).nox (dI BS) (Es K):=
 (ah (aM (i:=1) eQ.nd rfl (PU rfl) (aW (rG T) (hr.mono (by decide)) (aa (pv 0) (aa ar ag))))
   (ah (aM (i:=2) eQ.nd rfl (RQ rfl) (aW (rG T) (hr.mono (by decide)) (aa (pv 0) (aa ar ag))))
   (ah (aM (i:=3) eQ.nd rfl (PU rfl) (aW (iC T) (hr.mono (by decide)) (aa (pv 2) (aa ar ag))))
   (ah (aM (i:=4) eQ.nd rfl (PU rfl) (su (jm T) T.rQ (hr.mono (by decide))))
   (ah (aM (i:=5) eQ.nd rfl (PU rfl) (su (jm T) T.rQ (hr.mono (by decide))))
   (ah (aM (i:=6) eQ.nd rfl (PU rfl) (aA c5 (aW (pN T) (hr.mono (by decide)) (aa (pv 3) (aa (pv 2) ag))) (aA ET (bj (aa ay ag)) (aA br (pv 1) ar))))
   (ah (gF Rt rfl (bY (pv 6)) (aC (i:=7) eQ.nd rfl (PU rfl)) (aj (bH (aI (iW hr.units) (aW (de T) (hr.mono (by decide)) (aa (pv 4) (aa (pv 7) ag))) (aW (de T) (hr.mono (by decide)) (aa (pv 5) (aa (pv 7) ag))) (bg _)) (aj (aD lW)) aZ)))
   (ah (aM (i:=8) eQ.nd rfl (RQ rfl) (aA c5 (bF (N:=["k","cell"]) (mp:=[none,some 2]) rfl ⟨rfl,by decide +kernel,by rfl,rfl,by rfl⟩ (d9 (by rfl) T.fH (aa ar ag)) (fun _ _ _ _ _ _=>(aC (i:=0) (by show Ql (["k","cell"]:List PH);decide +kernel) rfl (PU rfl))) (fun _ _ _ _ _ _=>bx) (fun _ _ _ _ _ _=>(aW (eG T) (hr.mono (by decide)) (aa (pv 1) (aa (pv 0) ag))))) (bF (N:=["k","cell"]) (mp:=[none,some 2]) rfl ⟨rfl,by decide +kernel,by rfl,rfl,by rfl⟩ (d9 (by rfl) T.fH (aa ar ag)) (fun _ _ _ _ _ _=>(aC (i:=0) (by show Ql (["k","cell"]:List PH);decide +kernel) rfl (PU rfl))) (fun _ _ _ _ _ _=>bx) (fun _ _ _ _ _ _=>(aW (eG T) (hr.mono (by decide)) (aa (aA dG (pv 1) ar) (aa (pv 0) ag)))))))
   (ah (aM (i:=8) eQ.nd rfl (RQ rfl) (aA c5 (pv 8) (bj (aa (aA bX (bh aL (pv 8) ar (fun _ _=>rfl)) ay) (aa (DT RV VR X8 Di (bh aL (pv 8) ar (fun _ _=>rfl))) (aa (aA bX (bh aL (pv 8) ar (fun _ _=>rfl)) ay) ag))))))
   (ah (gF Rt rfl (bY (bU fi (pv 0) (ck ar) (ck ar))) (aC (i:=9) eQ.nd rfl (PU rfl)) (ah (aM (i:=10) eQ.nd rfl (PU rfl) (aW (iC T) (hr.mono (by decide)) (aa (pv 9) (aa ar ag))))
   (ah (bH (aI (iW hr.units) (aW (de T) (hr.mono (by decide)) (aa (pv 4) (aa (jB RV Sy SV kH ay (aa (aW (AW T) (hr.mono (by decide)) (aa (bU fi (pv 10) cK (ck ar)) (aa (pv 8) ag))) ag)) ag))) (aA c5 (bj (aa lW (aa lW (aa lW ag)))) (aA ET (bj (aa lW ag)) ar)) (bg _)) (aj (aD lW)) aZ)
   (ah (aM (i:=11) eQ.nd rfl (PU rfl) (jB RV Sy SV kH ay (aa (aW (gS T) (hr.mono (by decide)) (aa (bU fi (pv 10) (ck ar) cK) (aa (pv 8) ag))) ag)))
   (aj (bH (PW.pt (Ed (aI c9 (aA br (bh aL (pv 10) ar (fun _ _=>rfl)) ar) ar (bg _)) (Ed (aI Fy (pv 11) ay (bg _)) (FP (aI (iW hr.units) (aW (de T) (hr.mono (by decide)) (aa (pv 4) (aa (pv 11) ag))) (aW (de T) (hr.mono (by decide)) (aa (pv 5) (aa (pv 11) ag))) (bg _)))))) (aj (aD lW)) aZ))))))
   (ah (nY (i:=12) (N:=["k","cell"]) (mp:=[none,some 2]) eQ.nd rfl (PU rfl) rfl ⟨rfl,by decide +kernel,by rfl,rfl,by rfl⟩ (yZ (by rfl) T.fH (aa ar (aa ar ag))) (fun _ _ _ _ _ _=>(aC (i:=0) (by show Ql (["k","cell"]:List PH);decide +kernel) rfl (PU rfl))) (fun _ _ _ _ _ _=>bx) (fun _ _ _ _ _ _=>(aW (eG T) (hr.mono (by decide)) (aa (pv 1) (aa (pv 0) ag)))) (by with_unfolding_all rfl))
   (ah (aM (i:=13) eQ.nd rfl (PU rfl) (bh aL (bF (N:=["name","names"]) (mp:=[none,some 8]) rfl ⟨rfl,by decide +kernel,by rfl,rfl,by rfl⟩ (bY (pv 12)) (fun _ _ _ _ _ _=>(aC (i:=0) (by show Ql (["name","names"]:List PH);decide +kernel) rfl (PU rfl))) (fun _ _ _ _ _ _=>(gy (aI zY (pv 0) (pv 1) rfl))) (fun _ _ _ _ _ _=>(pv 0))) ar (fun _ _=>rfl)))
   (ah (bH (aI (iW hr.units) (aW (de T) (hr.mono (by decide)) (aa (pv 4) (aa (aA bX ay (pv 13)) ag))) (aA c5 (bj (aa lW (aa lW (aa lW ag)))) (aA ET (bj (aa lW ag)) ar)) (bg _)) (aj (aD lW)) aZ)
   (aj (aD (qp (Eg hr.units) (aW (oU T) (hr.mono (by decide)) (aa (pv 4) (aa (pv 8) ag))) (aW (oU T) (hr.mono (by decide)) (aa (pv 5) (aa (pv 8) ag))) (bg _)))))))))))))))))
end
end My
open PySem PySem.W PyProof.Rows
noncomputable def PySem.W.Fast.tw10365943473485292613:Unit:=()
noncomputable def PySem.W.Fast.tw18389008909285801025:Unit:=()
noncomputable def PySem.W.Fast.tw155214049135498221:Unit:=()
noncomputable def PySem.W.Fast.tw17250938596124015584:Unit:=()
noncomputable def PySem.W.Fast.tw3418437522700369505:Unit:=()
noncomputable def PySem.W.Fast.tw15144477335452127676:Unit:=()
noncomputable def PySem.W.Fast.tw23343879414821455:Unit:=()
noncomputable def PySem.W.Fast.tw7327756034531439680:Unit:=()
noncomputable def PySem.W.Fast.tw13940050017561728846:Unit:=()
noncomputable def PySem.W.Fast.tw7538543222223307622:Unit:=()
noncomputable def PySem.W.Fast.tw12665954677270868387:Unit:=()
noncomputable def PySem.W.Fast.tw15340311511117785946:Unit:=()
noncomputable def PySem.W.Fast.tw8474427632535030483:Unit:=()
noncomputable def PySem.W.Fast.tw17663358212325928854:Unit:=()
noncomputable def PySem.W.Fast.tw1340622814463575921:Unit:=()
noncomputable def PySem.W.Fast.tw920361538370062232:Unit:=()
noncomputable def PySem.W.Fast.tw5158871533640794570:Unit:=()
noncomputable def PySem.W.Fast.tw10597624130970412442:Unit:=()
noncomputable def PySem.W.Fast.tw9786912932905620552:Unit:=()
noncomputable def PySem.W.Fast.tw12926565209844412867:Unit:=()
noncomputable def PySem.W.Fast.tw999758045824972768:Unit:=()
noncomputable def PySem.W.Fast.tw10150703090572503262:Unit:=()
noncomputable def PySem.W.Fast.tw16292411114044619423:Unit:=()
noncomputable def PySem.W.Fast.tw4271012926883321635:Unit:=()
noncomputable def PySem.W.Fast.tw948537154716030791:Unit:=()
noncomputable def PySem.W.Fast.tw9089746037996803416:Unit:=()
noncomputable def PySem.W.Fast.tw13618583689780580993:Unit:=()
noncomputable def PySem.W.Fast.tw14436586186009811043:Unit:=()
noncomputable def PySem.W.Fast.tw882156918085856215:Unit:=()
noncomputable def PySem.W.Fast.tw6185754428968232893:Unit:=()
noncomputable def PySem.W.Fast.tw17162976504707393618:Unit:=()
noncomputable def PySem.W.Fast.tw5886823192622646940:Unit:=()
noncomputable def PySem.W.Fast.tw14724407182900165537:Unit:=()
noncomputable def PySem.W.Fast.tw15188295512148778352:Unit:=()
noncomputable def PySem.W.Fast.tw1731069408564611789:Unit:=()
noncomputable def PySem.W.Fast.tw13544548421492769127:Unit:=()
noncomputable def PySem.W.Fast.tw385523041949274228:Unit:=()
noncomputable def PySem.W.Fast.tw10382037601652606159:Unit:=()
noncomputable def PySem.W.Fast.tw11396752259280595468:Unit:=()
noncomputable def PySem.W.Fast.tw10122869983503508435:Unit:=()
noncomputable def PySem.W.Fast.tw17398358514768014673:Unit:=()
noncomputable def PySem.W.Fast.tw7295777909424821838:Unit:=()
noncomputable def PySem.W.Fast.tw8173895519594571339:Unit:=()
noncomputable def PySem.W.Fast.tw11931812357833302564:Unit:=()
noncomputable def PySem.W.Fast.tw4935255776220944684:Unit:=()
noncomputable def PySem.W.Fast.tw10941132608530728038:Unit:=()
noncomputable def PySem.W.Fast.tw2830585211719428704:Unit:=()
noncomputable def PySem.W.Fast.tw8999552178057120748:Unit:=()
noncomputable def PySem.W.Fast.tw10180923759762970969:Unit:=()
noncomputable def PySem.W.Fast.tw12352079809950545023:Unit:=()
noncomputable def PySem.W.Fast.tw11155857256781811574:Unit:=()
noncomputable def PySem.W.Fast.tw10141878767257079593:Unit:=()
noncomputable def PySem.W.Fast.tw3176251844178201162:Unit:=()
noncomputable def PySem.W.Fast.tw7082157437277316779:Unit:=()
noncomputable def PySem.W.Fast.tw15921823173704762353:Unit:=()
noncomputable def PySem.W.Fast.tw17071711486766530801:Unit:=()
noncomputable def PySem.W.Fast.tw8235286277114933937:Unit:=()
noncomputable def PySem.W.Fast.tw13845841956170182499:Unit:=()
noncomputable def PySem.W.Fast.tw6675179397621809584:Unit:=()
noncomputable def PySem.W.Fast.tw12386355166213464861:Unit:=()
noncomputable def PySem.W.Fast.tw11234233424751589182:Unit:=()
noncomputable def PySem.W.Fast.tw661251249997002873:Unit:=()
noncomputable def PySem.W.Fast.tw11921493919289992993:Unit:=()
noncomputable def PySem.W.Fast.tw13093599860884017043:Unit:=()
set_option maxRecDepth 100000 in
set_option maxHeartbeats 0 in
theorem PySem.Challenge.cw_purse_k53_refused_rows_holds : PySem.Challenge.rw_purse_k53_refused_rows.Holds := by
 w_on;o_law;k_head;(case hw=>w_witness2)
 k_fill
 refine L2.IT (l:=PySem.Challenge.rw_purse_k53_refused_rows) (k:=14) rfl rfl ⟨rfl,by decide,by decide⟩ (fun w h Y=>aaI Y) ?F
 case F=>
  intro w mg fa h KX G hmg
  have⟨fC,j5,j1,nZ,sQ,ib,ij,sJ,ko,bI,rQ⟩:L2.eh (L2.yt KX) mg "NoRow"/\L2.eh (L2.yt KX) mg "NoWork"/\L2.eh (L2.yt KX) mg "NoName"/\L2.eh (L2.yt KX) mg "Twice"/\L2.eh (L2.yt KX) mg "Full"/\L2.eh (L2.yt KX) mg "NoVoter"/\L2.eh (L2.yt KX) mg "TooMuch"/\L2.eh (L2.yt KX) mg "NoPaper"/\L2.eh (L2.yt KX) mg "PurseError"/\L2.mF (L2.yt KX) mg "Chest"/\L2.mF (L2.yt KX) mg "Desk":=by
   exists ?_,?_,?_,?_,?_,?_,?_,?_,?_,?_
   iterate 8 (dsimp only[L2.yt];refine' L2.Kr KX G ?a ?l ?n ?l1 ?n1 ?g1 ?g2 ?g3 ?g4 ?g5 ?g6 ?hk ?hi ?hk1 ?hi1;(case a|l|n|l1|n1|g1|g2|g3|g4|g5|g6=>k_is);(case hk|hi|hk1|hi1=>(first|rfl|(with_unfolding_all rfl)|(simp[L2.keysOk,WZ,Yc];done))))
   (dsimp only[L2.yt];refine' L2.Lg KX G ?a ?l ?n ?g1 ?g2 ?g3 ?g4 ?g5 ?g6 ?hk ?hi;(case a|l|n|g1|g2|g3|g4|g5|g6=>k_is);(case hk|hi=>(first|rfl|(with_unfolding_all rfl)|(simp[L2.keysOk,WZ,Yc];done))))
   iterate 2 (dsimp only[L2.yt];refine' L2.Nv KX G ?a ?pg ?hd ?po ?sa ?mk ?kp;(case a|pg|hd|po|sa|mk|kp=>k_is))
  have cls:My.gY (L2.yt KX):=by
   exists j1.some,j1.ek,nZ.some,nZ.ek,ib.some,ib.ek,j5.some,j5.ek,ij.some,ij.ek,sQ.some,sQ.ek,fC.some,fC.ek,?_,?_,?_,?_,?_,?_,?_,?_,?_,?_,?_,?_,?_,?_,?_,?_,?_,?_,?_,?_,?_,?_,?_,?_,?_,?_,?_,?_,?_,?_,?_,?_,?_,?_,?_,?_,?_,?_,?_,?_,?_,?_,?_,?_,?_,?_,?_,?_,?_,?_,?_,?_,?_,?_,?_,?_,?_,?_,?_,?_,?_,?_,?_,?_,?_,?_,?_,?_,?_,?_,bI.cls,?_,?_,?_,?_,?_,?_,rQ.cls
   iterate 7 ((dsimp only[L2.yt];refine' L2.Kz ?a ?b ?e ?c ?t ?s;(case a|b|e|c|t|s=>k_is));(dsimp only[L2.yt];refine' L2.Np ?a ?m ?s;(case a=>k_is);(case m=>(first|rfl|decide +kernel));(case s=>k_is));iterate 8 (dsimp only[L2.yt];refine' L2.Lk ?a ?b ?c ?t ?s ?n;(case a|b|c|t|s=>k_is);(case n=>(first|exact fun _=>rfl|decide))))
   iterate 7 (dsimp only[L2.yt];refine' L2.FU ?a ?n;(case a|n=>k_is))
  have T:My.Txt (L2.yt KX) mg:=by
   exists ?_,?_,?_,?_,?_,?_,?_,?_,?_,?_,?_,?_,?_,?_,?_,?_,?_,?_,?_,?_,?_,?_,?_,?_,?_,?_,?_,?_,?_,?_,?_,?_,?_,?_,?_,?_,?_,?_,?_,?_,?_,?_,?_,?_,?_,?_,?_,?_,?_,?_,?_,?_,?_,?_,?_,?_,?_,?_,?_,?_,?_,?_,?_,?_,?_,?_,?_,?_,?_,bI,rQ,fC,j5,j1,nZ,sQ,ib,ij,ko,sJ,cls,?_,?_,?_,?_,?_,?_,?_,?_,?_,?_,?_,?_,?_,?_,?_,?_,?_,?_,?_,?_
   iterate 69 ((dsimp only[L2.yt];first|(refine' L2.Mo KX G ?a ?l ?c ?k ?b;(case a|l|c|k=>k_is))|(refine' L2.Lq (h:=h) ?a ?a4 ?fn ?l ?c ?k ?b;(case a|a4|fn|l|c|k=>k_is)));(case b=>(first|exact fun _ _ _ _ _ _ us hl=>(match us,hl with|[_],_=>rfl)|exact fun _ _ _ _ _ _ us hl=>(match us,hl with|[_,_],_=>rfl)|exact fun _ _ _ _ _ _ us hl=>(match us,hl with|[_,_,_],_=>rfl)|exact fun _ _ _ _ _ _ us hl=>(match us,hl with|[_,_,_,_],_=>rfl))))
   iterate 14 (refine' L2.KD KX G ?z;(case z=>k_is))
   iterate 2 (refine' L2.LJ KX G ?z;(case z=>k_is))
   iterate 5 (refine' L2.Mp KX G ?z;(case z=>k_is))
  exact L2.bE.law T.f_law hmg My.eQ (L2.aF rfl) (fun base f cdv A outer s H E hr=>My.MG T hr) My.M4
