import PyProof.Rows.All
import Wide.All
import OpenK.AllK
import Wide.FinOn
import Lean
import PyProof.EqAt
import PyProof.EqKinds
import PyProof.TupleCall
import KE.KIsAll
import KE.KTryMore
import PyProof.ExcAttrAll.ValueError
import KE.KIntText
import KE.KItemsList
import KE.KDictOf
import PyProof.AttrMissHeap
import KE.KPairComp
import PyProof.DictWalks
import PyProof.P3In
import PyProof.SameEqv
import KE.KDictList
import KE.KDictIter
import PyProof.Draws
import PyProof.EnumMake
import PyProof.Rows.Range3
import PyProof.ZipIter
import KE.KTurns
import PyProof.FactsAll.zip_1
import PySem.Challenge.RW_purse_k54_whole_text_years
open Option renaming some->ψ,none->χ
open Bool renaming true->ω,false->ξ
def idsOf(s:String):Array (Lean.TSyntax `term):=(((s.drop 1).toString.splitOn " ").map fun x=>⟨Lean.mkIdent x.toName⟩).toArray
set_option hygiene false
local macro_rules | `(tactic| walk_at $s:str) => do
 let x:=s.getString
 let a:=idsOf x
 match x.front with
 |'0'=>`(tactic| first $[| exact $a]*)
 |'1'=>`(tactic| first $[| refine $a ?_]*)
 |'2'=>`(tactic| first $[| refine $a ?_ ?_]*)
 |'3'=>`(tactic| first $[| refine $a ?_ ?_ ?_]*)
 |'4'=>`(tactic| first $[| refine $a ?_ ?_ ?_ ?_]*)
 |'5'=>`(tactic| first $[| refine $a ?_ ?_ ?_ ?_ ?_]*)
 |'9'=>`(tactic| first $[| exact $a T]*)
 |_=>Lean.Macro.throwUnsupported
local macro_rules | `(⇑$x) => `(List $x)
local macro_rules | `("`") => `(by omega)
local macro_rules | `("^") => `(by decide)
local macro_rules | `("~") => `(by intro xs z;cases z)
local macro_rules | `("%") => `(by simp;omega)
local macro_rules | `(nofun) => `(by decide +kernel)
local macro_rules | `(⋯) => `(by simp)
local macro_rules | `(tactic| symm) => `(tactic| walk_at "z")
local macro_rules | `(tactic| nofun) => `(tactic| walk_at "q")
local macro_rules | `(tactic| exists $e,*) => `(tactic| refine ⟨$e,*, ?_⟩)
open PySem renaming Str->QH,Addr->QI,Value->QJ,Shared->QL,wpAny->QM,wpAny_bind->QN,Obj->QP,Expr->QQ,Heap->QS,sizeLine->QT,Stmt->QU,World->QX,Program->Q0,Paired->Q4,starEach->Q5,Around->Q6,wpAny_pure->Q8,Pos->Q9,Env->Ri,PyData->Rp,backTo->Rx,IsPair->Ry,compareOp->Rz,mainGlobals->RD,rawInt->RF,Scope->RG,cellsFrom->RO,wpAny_field->RS,wpAny_mono->RX,NameKind->R4,pyNext->R5,IsZip->R6,Builtin->Sg,binaryOp->Sj,ZipApart->So,sysModules->Sq,FuncData->Su,call_meets->Sy,backToKw->SI,codeAny->SM,DictEntry->SN,keywordEach->SR,getMethod->S7,inplaceOp->S9,wpAny_seqItems->Ta,pushCells->Tw,wpAny_holding->TJ,attributeBase->TQ,sliceBounds->T8,wpAny_passesOwn->Ub,wpAny_call_entry->Up,bootBuiltins->Ut,wpAny_execs_nil->Uz,wpAny_truthy_bool->UH,wpAny_setField_rec->UJ,wpAny_callSpecial?_slot->UQ,assignEach->UR,behindInMarks->UZ,typeLookup->U2,call_meetsIn->U3,reprText->U5,wpAny_pyIter_dict->U6,mem_of_lookup->Vd,wpAny_pyIter_list->Vi,intText?->Vo,wpAny_attempt->Vv,wpAny_getItem_str_slice->VA,wpAny_typeOf->VE,wpAny_Call_Name_kw->VQ,wpAny_pyIter_enum->VR,getattributeRaised->V6,tupleKind_room_in1->V7,typeLookup_type->We,boot_len->Wh,call->Wk,wpAny_pyIter_zip->WJ,evalArgs_none->WV,Within->W3,wpAny_nextOf_list_item->Ya,nsFind->Yx,findBy->YG,intText_digits->Y4
open PySem.W renaming Frag->QK,findIn->RV,nsIn->Sw,kia_one->SE,exmOne->SH,keepIn->SO,clsIn->SQ,fnOf->Tc,emptyDict->Tg,mg_of->Th,instObj->Tq,plainGet->UN,kitOne->U0,codeIn->U8,mroIn->Ve,makesIn->Vh,lookIn->Vn,methodCall_KW->Vw,isFn->VP,hasDictIn->VY,takerIn->Wp,methodObj->WH,plainOver->Xe,plainGet_of->Xp,callWith_K->Xq,subIn->Xt,callWith_K0->Xw,kitx_list->Xy,notCls->Yd,WalkO->Yk,kitx_dict->Yl,cellsFrom_some->Yp,ktu_apart->Yq,typeIn->YU,handedIn->Zp,OpenLaw->ZZ,kitCls->Z1,bind_fn->Z8,codeRec_of->aag,takesIn->aak,exm_one->aao,kitx_str->aaq,findObj_own->aar,InstAt->aaw,ke_ne_ints->aaA,of_hideAll->aaG,specialIn->aaI,InitBack->aaM,kitx_own->aaN,kitx_none->aaP,kitx_tuple->aaX,hideAll_none->aaZ,mg_none_of->aa8,looks_clsIn->aba,any_some->abc,kitx_bool->abd,osa_open->abg,makes_of->abh,kIn_of->abj,get_value->abo,Looks->abp,make_core->abF,method_fn->abH,eq_bytes->abO,ne_bytes->abR,hideAll_get->abT,kitx_float->abW,hideAll_size->ab5,looks_findIn->acf,kitx_int->acs,hideAll->acu,set_plain->acv
open List renaming mem_map->QO,length_map->QR,mem_cons->QW,map_map->QY,getElem?_eq_getElem->QZ,range->Q1,getD->Q3,mem_filter->Ra,map_cons->Rk,getD_eq_getElem?_getD->Rl,mem_cons_of_mem->Rm,mem_append->Rr,mem_singleton->Rv,getElem?_eq_some_iff->Rw,length_cons->RB,nodup_cons->RC,size_toArray->RH,length_take->RJ,sum_cons->RK,not_mem_nil->RM,length_append->RN,lookup->RQ,map_congr_left->RT,getElem?_map->RU,mem_cons_self->RW,mem_range->R1,getElem_mem->R3,all_eq_true->R7,getElem_of_mem->Sa,length_filter_le->Sb,filter_eq_self->Sd,pairwise_iff_getElem->Se,map->Sr,map_append->Sv,lookup_cons->Sz,length_pos_iff->SF,filter_congr->SJ,mem_append_right->SS,take_of_length_le->SU,length_drop->SX,any_cons->S4,length->S8,mem_of_getElem?->Td,map_eq_nil_iff->Ti,getElem?_eq_none->Tp,getElem?_append_left->TB,length_singleton->TH,map_id'->TR,take_length->TX,map_nil->TZ,filter_cons->T1,ext_getElem->T5,of_mem_zip->T7,take_add_one->Uh,getElem_map->Ui,filter_map->Uj,getElem?_append_right->Uk,find?_cons->Uq,nodup_nil->Uu,mem_of_mem_take->UA,range_succ->UI,all_map->UK,sum_append->UO,append_nil->UP,forIn_cons->UU,forIn_nil->U4,length_range->Vf,getElem_take->Vl,map_fst_zip->VD,length_eq_zero_iff->VF,map_inj_right->VH,filter_sublist->VI,cons_append->VN,replicate->VS,any_eq_true->VV,filter_cons_of_neg->V5,filter_cons_of_pos->Wb,mem_of_mem_eraseIdx->Wc,take_append_drop->Wq,length_nil->WB,getElem?_set_ne->WS,map_take->WU,filter_append->W2,filterMap_cons->W7,nodup_append->Xa,getElem?_set_self->Xc,mem_of_mem_drop->Xk,drop_zero->Xn,set_cons_zero->Xs,filter_filter->Xu,map_snd_zip->Xx,length_zip->XA,length_zipWith->XF,range'->XJ,length_erase_of_mem->XN,mem_map_of_mem->XS,drop_of_length_le->XW,zipIdx_cons->X9,mem_range'_1->Yi,append_assoc->YC,eraseIdxIfInBounds_toArray->YM,map_drop->YN,any_map->YQ,getElem_zip->YT,eraseIdx_cons_zero->YW,mem_append_left->YZ,getElem_cons_drop->Y1,eraseIdx_cons_succ->Y2,filter_nil->Y6,mem_filterMap->Zv,sum_nil->Zz,zipIdx_nil->ZD,filter->ZF,all_cons->ZL,nodup_range->ZS
open Nat renaming le_trans->QV,le_refl->Q2,ne_of_lt->Rn,lt_of_lt_of_le->Rq,zero_le->RL,ne_of_gt->Sf,lt_irrefl->Sn,le_succ->SA,mul_le_mul_right->SV,lcm->S1,le_of_lt->Tj,le_add_right->Tn,toDigits->TK,le_of_eq->Uo,lt_trans->Uy,isDigit_of_mem_toDigits->Vk,lt_succ_of_lt->Vr,lt_trichotomy->VJ,lt_succ_self->VW,le_antisymm->Wt,log2_lt->Wv,lt_of_le_of_lt->WM,le_of_succ_le->WX,eq_zero_or_pos->WZ,min_le_left->W8,pow_succ->Xf,strongRecOn->Xj,one_mul->XC,toDigits_eq_if->XE,lcm_pos->XU,lt_or_ge->X0,min_eq_right->Yf,succ_ne_self->Yh,add_mul->Yj,le_succ_of_le->Yr,dvd_lcm_left->Yv,le_total->Yy,min_eq_left->YB,pow_le_pow_right->YF,mul_le_mul_left->YL,le_of_not_lt->YV,dvd_refl->Zw,succ_pos->Zx,le_of_dvd->ZR,sub_zero->ZX,le_of_ble_eq_true->ZY,lt_asymm->Z0
open PySem.Str renaming join->Q7,empty->Rh,length_append->Ru,cps_append->TN,length->UC,ext'->UY,ofString->Vc,append_empty->abV,empty_append->ab2
open Ne renaming symm->Rb
open PySem.Heap renaming lt_size->Rc,get?_push_of_some->Rj,get?_push_size->Rt,size_push->Sh,SameBut->SG,get?_update_other->Tv,get?_none_of_le->VB,size_update->Ze,get?_update_self->ZH
open PySem.Value renaming ref->Rf,none->R0,int->SK,bool->Tb,str->Tt,type->V8,float->WE,builtin->Zr,isInt->ZK,bytes->ZU,isStrOf->ZV
open PySem.Txt renaming split->Rg,slice->RP,slice_le->ab4
open PySem.Paired renaming length->Ro,nil->Xd,snoc->Yw
open Bool renaming false_ne_true->RA,and_eq_true->RI,eq_iff_iff->RZ,false_eq_true->Tr,false_and->TL,bne_true->TM,bne_false->UG,and_false->Wl,false_or->XM,or_eq_true->YD
open Option.some renaming inj->RE,injEq->Yc
open PyProof.Rows renaming envOfC->RY,kindOf->Si,AllBare->SW,IntsAre->Tu,callWith_type1->TC,boot_max->Zl,same_iff->Zt,boot_list->Zy,boot_sorted->ZJ,boot_str->ZN,boot_isinstance->Z2,boot_min->aal,iadd_int->aas,boot_int->aaC,callWith_builtin1->aaO,boot_sum->abE,boot_all->abZ,isub_int->acq
open PySem.SeqAt renaming noMix->R8,noMixAll->To,shaped->Us,EqAt->Yo,canLay_of_shaped->Y5
open False renaming elim->R9
open PySem.NameKind renaming cell->Sk,free->SD
open Int renaming le_refl->Sl,le_of_lt->S0,lt_or_le->S3,eq_ofNat_of_zero_le->S5,lt_of_le_of_lt->Te,sub_self->T4,le_trans->Ue,lt_of_lt_of_le->Ug,mul_comm->Ul,add_mul->UD,mul_nonneg->UL,mul_le_mul_of_nonneg_right->UM,natCast_add->US,mul_add->UT,dvd_trans->Vb,mul_one->Vt,dvd_sub->VL,toNat->VO,dvd_mul_left->VU,emod_nonneg->VX,toNat_of_nonneg->V3,zero_add->V9,mul_le_mul_of_nonneg_left->Wo,toNat_natCast->Ws,sub_zero->Wz,mul_ediv_add_emod->WD,emod_lt_of_pos->WT,min_eq_left->WW,min_eq_right->W5,dvd_add->XD,ediv_mul_le->Ym,le_of_eq->Yz,natAbs_natCast->YK,mul_ediv_cancel->Y3,mul_sub->Y8,zero_ediv->Y9,ediv_nonneg->Zn,mul_pos->ZC,dvd_zero->ZW
open Sum renaming inr->Ss,inl->Ua
open True renaming intro->Sx
open PySem.NumText renaming digitsVal->SY,AllDigits->VG,toDigits_digitsVal->XG
open PySem.Builtin.Str renaming occurrences->S2,strKind->TV,strSliceIndices->Ur,strSub->aaS,subAt->abz
open PySem.Builtin.SmallTypes renaming nextOf->S6,ownedTupleIsFree->V1,ownedTupleHandOut->XR
open PySem.StrLaws renaming join_split->Tf,split_free->Vg,partsBetween_eq->X8,found_one->YS,glued_eq_join->YY,At->Zs,joinTotal->Z9,sliced_plain->aah,ChainG->aaF,reprText_len->aa1,partsFrom->aa7,subAt_one->abi,occ_tight->abw,partsFrom_ne->abD,strSliceIndices_plain->abK,subAt_eq->abP,sub_whole->ab1,strSub_toList->acn
open Char renaming toNat->Ts,ofNat->Uw,isDigit->VT,ext->W6
open PySem.PyData renaming canLay0->Tz,str->Uc,depth->UE,eqv->U7,canLayAll0->Va,depthAll->Vy,strOk->WG
open PySem.F renaming slot_zip_next->TF,entry_zip_next->Vq,slot_str_split->Vs,plainAttrs_list->Vx,slot_dict_values->Vz,args_zip_next_1->V2,plainAttrs_dict->V4,entry_str_split->Ww,args_str_split_2->WK,plainAttrs_str->WN,slot_zip_getattribute->WY,slot_list_getattribute->Xm,slot_list_pop->Xr,slot_list_remove->Xz,slot_str_join->XI,slot_dict_items->XQ,slot_list_append->Ye,slot_dict_itemiterator_iter->Yn,kt_called_dict->Yt,excBase_ValueError->YA,entry_dict_init->YI,args_dict_values_1->YJ,slot_dict_pop->YR,slot_dict_delitem->Za,slot_list_index->Zb,type_dict_values->Zc,kt_typeCall_dict_1->Zg,slot_str_startswith->Zi,entry_dict_values->Zj,args_dict_init_2->ZI,slot_dict_keyiterator_next->ZM,type_str_split->Z3,args_dict_itemiterator_iter_1->aaa,args_dict_items_1->aai,type_list_append->aaj,type_str_startswith->aam,type_dict_items->aat,args_dict_delitem_2->aav,typeCall_zip_2->aaD,args_dict_keyiterator_next_1->aaH,args_object_init_2->aaU,type_list_remove->aaV,args_zip_getattribute_2->aaW,type_str_join->aa0,args_dict_pop_2->aa3,type_list_index->aa4,entry_zip_new->aa9,entry_dict_delitem->abe,entry_dict_items->abl,typeCall_enumerate_1->abu,args_object_init_3->abv,called_zip->abA,newCall_zip_2->abJ,type_list_pop->abQ,entry_dict_keyiterator_next->abX,slot_dict_itemiterator_next->ab7,args_dict_pop_3->ab8,newCall_enumerate_1->aca,called_enumerate->acg,type_dict_pop->ach,entry_dict_pop->acm,slot_dict_getitem->acw,args_list_getattribute_2->acz,entry_enumerate_new->acA
open List.cons renaming inj->TU,injEq->Zm
open PySem.Obj renaming mapFields->TY,mapSeq->Vj,data_mapFields->Xb,isFreed_of_fields->ZO
open PySem.Data renaming cell->Ud,fields->UW,seq->Wy
open PySem.Around renaming under_plainId->Um,under->Wm
open ForInStep renaming yield->Uv
open Eq renaming trans->Ux
open Array renaming getElem?_eq_some_iff->UB,length_toList->Vm,toList_append->VC,toArray_toList->Wg,getElem?_toList->Wu,ext'->WC,getD_eq_getD_getElem?->WI,all_toList->XB,getElem_mem->XH,toList_inj->YO,mem_toList_iff->Zq,forIn_toList->ZG
open PySem.Calls renaming callWith_builtin->UX,spliced_nil->Wr,spliced_cons->W0,evalArgs_plain->Xg,Name_function_global->XT
open List.Nodup renaming sublist->U1
open List.Sublist renaming map->U9
open Classical renaming axiomOfChoice->Vp
open PySem.Spec renaming same->Vu
open Or renaming inl->VM,inr->VZ
open List.Pairwise renaming filter->V0,map->Xh,imp->Xo,of_map->Xv,cons->Zo,imp₂->aaK,nil->ab9,imp_of_mem->acy
open PySem.Builtin.Dict renaming updateFrom->Wa,selfAndRest->YH,pairItems->Zu,addKeywords->ZE
open PySem.Code renaming isFrame->Wf,frames->ZQ
open PySem.Heap.DictOf renaming new->Wj
open UInt32 renaming toNat_inj->Wn
open PySem.PassesOwn renaming never->Wx
open PySem.W.KIN renaming signs_num->WO,call_text->abq
open PySem.Builtin.List renaming listTooLong->WQ
open Option renaming isSome_map->W4,none->Zd,getD_none->Zh,isSome_some->ZA,isNone_none->ZT
open PySem.Builtin.Int renaming intBits->W9
open Function renaming comp_apply->Xi
open Prod renaming ext->Xl,fst->Zf
open PySem.SeqAt.EqAt renaming str_int->XO,int_str->Yu,str_bool->aae,bool_none->aap,none_int->aau,int_none->aaJ,str_str->aaQ,bool_str->aaR,none_str->aa5,none_bool->abf,str_none->abB,int_int->abC,int_bool->abI,bool_bool->acb,bool_int->acj,same->acB
open PySem.W.WData renaming int->XZ
open PySem.MeetsIn renaming of_wp->Yb
open PySem.EntryCells renaming newEntry->Yg
open PySem.Walks renaming list->YE
open Sum.inr renaming inj->YX
open PySem.W.WShape renaming has->Y7
open Prod.mk renaming inj->Zk,injEq->aaB
open And renaming comm->ZP
open PySem.W.OpenLaw renaming pre->Z4
open PySem.EqNone renaming ne_none_int->Z5,ne_none_bool->Z6,eq_none_str->aab,eq_none_bool->aad,ne_bool_none->aan,eq_bool_none->aaT,eq_none_int->abm,ne_str_none->abn,ne_int_none->abG,eq_str_none->abL,eq_int_none->ab0,ne_none_str->acd,eq_none_none->aci,ne_none_none->acr
open Sum.inl renaming inj->Z7
open PySem.P renaming add_list->aac,str_of_int->abx
open PyProof renaming noPylong_of_log2->aaf
open PySem.Heap.IsSliceOf renaming new->aax
open PySem.EqMixed renaming ne_int_str->aay,eq_str_bool->aaz,ne_str_int->aaE,ne_bool_str->aa2,ne_str_bool->abk,eq_int_str->aby,eq_str_int->ab6,eq_bool_str->acp
open PySem.Heap.SameBut renaming update->aaL,refl->abU
open PySem.Builtin.Range renaming rangeSize->aaY
open PySem.IsRange renaming new->aa6
open PySem.Builtin.Dict_items renaming ownsTuple->abb
open PySem.IsL renaming update->abr
open PySem.DictEntry renaming refKey->abt
open PySem.Heap.Ns renaming new->abM
open PySem.W.Looks renaming here->abN,ld->ack
open PySem.MeetsSeq renaming list_pop_at->abS
open PySem.Within renaming cons->abY
open PySem.AutoSeq1 renaming list_extend_list_list_0->ab3
open PySem.Heap.IsList renaming push->ace
open PySem.Heap.Ns1 renaming of_empty->aco
open List.Perm renaming eq_of_pairwise->acx
set_option Elab.async false
set_option compiler.extract_closed false
set_option linter.all false
set_option maxRecDepth 100000
namespace L2
open PySem PySem.Spec PyProof.Rows
abbrev Key:=Sum Int QH
def wH:Key->QJ->Bool
 |.inl k,v=>ZK k v
 |.inr x,v=>ZV x v
def P1(w:QX):Key->Int
 |.inl k=>hashInt k
 |.inr x=>hashStr w x
theorem cu:∀{k:Key}{v:QJ},wH k v=ω->(∃i t,k=Ua i/\v=SK i t)\/(∃x t,k=Ss x/\v=Tt x t)
 |.inl i,v,h=>by
  obtain⟨t,e⟩:=Value.isInt_shape (k:=i) (v:=v) h
  exact .inl ⟨i,t,rfl,e⟩
 |.inr x,v,h=>by
  obtain⟨t,e⟩:=Value.isStrOf_shape (x:=x) (v:=v) h
  exact .inr ⟨x,t,rfl,e⟩
theorem E8(i:Int)(t:Tok):wH (.inl i) (.int i t)=ω:=by simp[wH,ZK]
theorem FY(x:QH)(t:Tok):wH (.inr x) (.str x t)=ω:=by simp[wH,ZV]
theorem Nu(a b:Int):decide ((Ua a:Key)=Ua b)=(a==b):=by
 by_cases e:a=b
 .subst e;simp
 .have h:¬(Ua a:Key)=Ua b:=fun q=>e (Z7 q)
  rw[decide_eq_false h]
  exact(beq_eq_false_iff_ne.mpr e).symm
theorem Mh(a b:QH):decide ((Ss a:Key)=Ss b)=decide (a=b):=by
 by_cases e:a=b
 .subst e;simp
 .have h:¬(Ss a:Key)=Ss b:=fun q=>e (YX q)
  rw[decide_eq_false h,decide_eq_false e]
theorem Na(a:Int)(b:QH):decide ((Ua a:Key)=Ss b)=ξ:=decide_eq_false (fun q=>nomatch q)
theorem LL(a:QH)(b:Int):decide ((Ss a:Key)=Ua b)=ξ:=decide_eq_false (fun q=>nomatch q)
noncomputable def aN(prog:Q0)(w:QX):PySem.KeyKind prog w Key where
 is:=wH
 hash:=P1 w
 inj:=fun v a b ha f=>by
  rcases cu ha with⟨i,t,rfl,rfl⟩|⟨x,t,rfl,rfl⟩
  .rcases cu f with⟨j,u,rfl,e⟩|⟨y,u,rfl,e⟩
   .injection e with c _;rw[c]
   .exact nomatch e
  .rcases cu f with⟨j,u,rfl,e⟩|⟨y,u,rfl,e⟩
   .exact nomatch e
   .injection e with c _;rw[c]
 byValue:=fun k v h=>by
  rcases cu h with⟨i,t,rfl,rfl⟩|⟨x,t,rfl,rfl⟩<;>rfl
 pyHash:=fun d h=>by
  rcases cu d with⟨i,t,rfl,rfl⟩|⟨x,t,rfl,rfl⟩
  .exact wpAny_pyHash_int h
  .exact wpAny_pyHash_str h
 eqBool:=fun g d h=>by
  rcases cu g with⟨i,t,rfl,rfl⟩|⟨x,t,rfl,rfl⟩
  .rcases cu d with⟨j,u,rfl,rfl⟩|⟨y,u,rfl,rfl⟩
   .rw[Nu]at h;exact wpAny_eqBool_int h
   .rw[Na]at h;exact Yu i t y u _ _ _ _ h
  .rcases cu d with⟨j,u,rfl,rfl⟩|⟨y,u,rfl,rfl⟩
   .rw[LL]at h;exact XO x t j u _ _ _ _ h
   .rw[Mh]at h;exact wpAny_eqBool_str h
 «strs»:=fun k x t v h=>by
  rcases cu h with⟨i,u,rfl,e⟩|⟨y,u,rfl,e⟩
  .exact nomatch e
  .injection e with c _
   subst c
   cases v<;>rfl
theorem BB(prog:Q0)(w:QX)(i:Int)(t:Tok):(aN prog w).is (.inl i) (.int i t)=ω:=E8 i t
theorem A5(prog:Q0)(w:QX)(x:QH)(t:Tok):(aN prog w).is (.inr x) (.str x t)=ω:=FY x t
inductive V where
 |non|bl (b:Bool)|int (i:Int)|str (x:QH)|byt (b:Array UInt8)|flt (b:UInt64)|ref (a:QI)|ty (n:String)
 deriving DecidableEq
noncomputable def RelV:V->QJ->Prop
 |.non,u=>u=R0
 |.bl b,u=>u=Tb b
 |.int i,u=>∃t,u=SK i t
 |.str x,u=>∃t,u=Tt x t
 |.byt b,u=>∃t,u=ZU b t
 |.flt b,u=>∃t,u=WE b t
 |.ref a,u=>u=Rf a
 |.ty n,u=>u=V8 n
abbrev bA:⇑V->⇑QJ->Prop:=Q4 RelV
theorem bA.length{xs:⇑V}{us:⇑QJ}(r:bA xs us):xs.length=us.length:=Ro r
theorem bA.get:∀{xs:⇑V}{us:⇑QJ}{i:Nat}{x:V},bA xs us->xs[i]?=ψ x->∃u,us[i]?=ψ u/\RelV x u
 |_,_,_,_,.nil,e=>by simp at e
 |_,_,0,_,.cons r _,e=>by simp at e;subst e;exact⟨_,rfl,r⟩
 |_,_,i+1,x,.cons _ t,e=>by
  obtain⟨u,h1,a⟩:=bA.get (i:=i) (x:=x) t (by simpa using e)
  exact⟨u,by simpa using h1,a⟩
theorem bA.set{x:V}{u:QJ}(r:RelV x u):∀{xs:⇑V}{us:⇑QJ}(i:Nat),bA xs us->bA (xs.set i x) (us.set i u)
 |_,_,_,.nil=>.nil
 |_,_,0,.cons _ t=>.cons r t
 |_,_,i+1,.cons q t=>.cons q (bA.set r i t)
theorem bA.append:∀{xs ys:⇑V}{us ws:⇑QJ},bA xs us->bA ys ws->bA (xs++ys) (us++ws)
 |_,_,_,_,.nil,s=>s
 |_,_,_,_,.cons r t,s=>.cons r (bA.append t s)
theorem bA.take:∀{xs:⇑V}{us:⇑QJ}(n:Nat),bA xs us->bA (xs.take n) (us.take n)
 |_,_,0,_=>.nil
 |_,_,_+1,.nil=>.nil
 |_,_,n+1,.cons r t=>.cons r (bA.take n t)
theorem bA.drop:∀{xs:⇑V}{us:⇑QJ}(n:Nat),bA xs us->bA (xs.drop n) (us.drop n)
 |_,_,0,r=>r
 |_,_,_+1,.nil=>.nil
 |_,_,n+1,.cons _ t=>bA.drop n t
def lB:Option V->Option QJ->Prop
 |some v,ψ u=>RelV v u
 |none,none=>True
 |_,_=>False
def KV{a:Type}:⇑(a×V)->⇑(a×QJ)->Prop:=Q4 fun (p:a×V) (q:a×QJ)=>p.1=q.1/\RelV p.2 q.2
def kV:Key->V
 |.inl i=>.int i
 |.inr x=>.str x
inductive HO where
 |lst (xs:⇑V)
 |tup (xs:⇑V)
 |dK (kvs:⇑(Key×V))|dT (kvs:⇑(⇑Key×V))
 |set (S:Int->Bool) (n:Nat)
 |ins (C dx:QI) (fs:⇑(QH×V))
 |own (x:QI)
 |xd (fs:⇑(QH×V))
 |met (f x:QI)
 |rng (lo hi:Int)
 |frz (o:QP) (u:HO)
 |tbl (ps:Array QJ)
 |ext (φ:QS->Prop)
abbrev Hp:=QI->Option HO
def upd(H:Hp)(a:QI)(o:HO):Hp:=fun b=>if b=a then some o else H b
theorem ak{H:Hp}{a:QI}{o:HO}:upd H a o a=ψ o:=by unfold upd;rw[if_pos rfl]
theorem aj{H:Hp}{a b:QI}{o:HO}(h:b≠a):upd H a o b=H b:=by unfold upd;rw[if_neg h]
theorem Ol{H:Hp}{a b:QI}{o u:HO}(h:H a=ψ o)(h':H b=ψ u)(d:o≠u):a≠b:=by
 intro e;subst e;rw[h]at h';exact d (RE h')
theorem aP{H:Hp}{a b:QI}{o:HO}(h:H a=ψ o)(h':H b=χ):a≠b:=by
 intro e;subst e;rw[h]at h';cases h'
section
variable (P:Q0)(w:QX)
noncomputable def cg(H:Hp)(h:QS)(a:QI):HO->Prop
 |.lst xs=>xs.length<=QT/\∃(b:⇑QJ)(n:Nat),bA xs b/\h.get? a=ψ {cls:=.type "list",data:=.seq b.toArray n}
 |.tup xs=>xs.length<=QT/\∃b:⇑QJ,bA xs b/\IsTup h a b.toArray
 |.dK kvs=>kvs.length<=QT/\(a==Sq)=ξ/\∃d,KV kvs d/\h.DictOf (aN P w) a d
 |.dT kvs=>kvs.length<=QT/\(a==Sq)=ξ/\∃xs:⇑(⇑Key×QI×QJ),
   Q4 (fun (p:⇑Key×V) (q:⇑Key×QI×QJ)=>p.1=q.1/\H q.2.1=ψ (.tup (p.1.map kV))/\RelV p.2 q.2.2) kvs xs/\
   ∃o es i,h.get? a=ψ o/\o.ExactDict/\o.data=.dict es i/\es.toList=xs.map (entryOfKey (tupleKind (aN P w)))/\(xs.map (·.1)).Nodup
 |.set S n=>h.SetOf (intKind P w) a S n
 |.ins C dx fs=>H dx=ψ (.own a)/\fs.length<=1000/\dx≠a/\h.get? a=ψ (Tq C dx)/\
   ∃c,h.Ns1 dx c/\(∀f,lB (fs.lookup f) (c f))/\W3 c (fs.map (·.1))
 |.own _=>∃o,h.get? a=ψ o
 |.xd fs=>∃c,h.Ns1 a c/\∀f,lB (fs.lookup f) (c f)
 |.rng lo hi=>∃t u v,h.get? a=ψ {cls:=.type "range",data:=.fields #[.int lo t,.int hi u,.int 1 v]}
 |.frz o u=>h.get? a=ψ o/\cg H h a u
 |.tbl ps=>h.get? a=ψ {cls:=.none,data:=.fields ps}
 |.met f x=>h.get? a=ψ (WH (.ref f) (.ref x))
 |.ext φ=>φ h/\(∃o,h.get? a=ψ o)/\∀e g:QS,φ e->(∀o,e.get? a=ψ o->g.get? a=ψ o)->φ g
def mE(H:Hp)(h:QS):Prop:=∀a o,H a=ψ o->cg P w H h a o
end
section
variable {P:Q0}{w:QX}{H H':Hp}{h h':QS}{a:QI}{o:HO}
theorem cg.lt(x:cg P w H h a o):a<h.objs.size:=by
 cases o with
 |lst xs=>obtain⟨_,_,_,_,e⟩:=x;exact Rc e
 |tup xs=>obtain⟨_,_,_,p⟩:=x;exact p.lt
 |dK kvs=>obtain⟨_,_,_,_,o,_,_,e,_⟩:=x;exact Rc e
 |dT kvs=>obtain⟨_,_,_,_,o,_,_,e,_⟩:=x;exact Rc e
 |set S n=>obtain⟨o,_,_,_,e,_⟩:=x;exact Rc e
 |ins C dx fs=>obtain⟨_,_,_,e,_⟩:=x;exact Rc e
 |own y=>obtain⟨_,e⟩:=x;exact Rc e
 |xd fs=>obtain⟨_,⟨_,_,_,e,_⟩,_⟩:=x;exact Rc e
 |rng lo hi=>obtain⟨_,_,_,e⟩:=x;exact Rc e
 |frz ob u=>obtain⟨e,_⟩:=x;exact Rc e
 |tbl ps=>exact Rc (show h.get? a=ψ _ from x)
 |met f y=>exact Rc (show h.get? a=ψ _ from x)
 |ext φ=>obtain⟨_,⟨_,e⟩,_⟩:=x;exact Rc e
theorem Paired.mapP{α e:Type}{F G:α->e->Prop}:∀{c:⇑α}{d:⇑e},Q4 F c d->(∀a b,F a b->G a b)->Q4 G c d
 |_,_,.nil,_=>.nil
 |_,_,.cons r t,f=>.cons (f _ _ r) (Paired.mapP t f)
theorem cg.stay(x:cg P w H h a o)(k:∀b u,(b=a\/H b=ψ (.own a))->h.get? b=ψ u->h'.get? b=ψ u)
  (j:∀b,H b=ψ (.own a)->H' b=ψ (.own a)) (l:∀b xs,H b=ψ (.tup xs)->H' b=ψ (.tup xs)):cg P w H' h' a o:=by
 induction o with
 |lst xs=>obtain⟨z,i,n,r,e⟩:=x;exact⟨z,i,n,r,k _ _ (.inl rfl) e⟩
 |tup xs=>obtain⟨z,i,r,ob,e,c⟩:=x;exact⟨z,i,r,ob,k _ _ (.inl rfl) e,c⟩
 |dK kvs=>obtain⟨z,y,vs,r,ob,es,g,e,c⟩:=x;exact⟨z,y,vs,r,ob,es,g,k _ _ (.inl rfl) e,c⟩
 |dT kvs=>
  obtain⟨z,y,xs,r,ob,es,g,e,c⟩:=x
  exact⟨z,y,xs,Paired.mapP r fun p q z=>⟨z.1,l _ _ z.2.1,z.2.2⟩,ob,es,g,k _ _ (.inl rfl) e,c⟩
 |set S n=>obtain⟨ob,es,g,t,e,c⟩:=x;exact⟨ob,es,g,t,k _ _ (.inl rfl) e,c⟩
 |ins C dx fs=>
  obtain⟨d,z,ne,e,mA,⟨od,es,g,m,c⟩,r⟩:=x
  exact⟨j _ d,z,ne,k _ _ (.inl rfl) e,mA,⟨od,es,g,k _ _ (.inr d) m,c⟩,r⟩
 |own y=>obtain⟨ob,e⟩:=x;exact⟨ob,k _ _ (.inl rfl) e⟩
 |xd fs=>obtain⟨mA,⟨od,es,g,e,c⟩,r⟩:=x;exact⟨mA,⟨od,es,g,k _ _ (.inl rfl) e,c⟩,r⟩
 |rng lo hi=>obtain⟨t,u,v,e⟩:=x;exact⟨t,u,v,k _ _ (.inl rfl) e⟩
 |frz ob u s=>obtain⟨e,q⟩:=x;exact⟨k _ _ (.inl rfl) e,s q⟩
 |tbl ps=>
  have e:h.get? a=ψ {cls:=.none,data:=.fields ps}:=x
  show h'.get? a=ψ {cls:=.none,data:=.fields ps}
  exact k a _ (.inl rfl) e
 |met f y=>
  have e:h.get? a=ψ (WH (.ref f) (.ref y)):=x
  show h'.get? a=ψ (WH (.ref f) (.ref y))
  exact k a _ (.inl rfl) e
 |ext φ=>obtain⟨p,⟨o,e⟩,st⟩:=x;exact⟨st _ _ p fun o q=>k _ _ (.inl rfl) q,⟨o,k _ _ (.inl rfl) e⟩,st⟩
theorem mE.lt(x:mE P w H h)(e:H a=ψ o):a<h.objs.size:=(x a o e).lt
theorem mE.fresh(x:mE P w H h)(e:h.objs.size<=a):H a=none:=by
 cases q:H a with
 |none=>rfl
 |some u=>exact absurd (Rq (x.lt q) e) (Sn _)
theorem mE.kept(x:mE P w H h)(k:∀b u,h.get? b=ψ u->h'.get? b=ψ u):mE P w H h':=fun a o e=>
 (x a o e).stay (fun b u _ q=>k b u q) (fun _ q=>q) fun _ _ q=>q
theorem mE.laid(x:mE P w H h)(k:∀b u,h.get? b=ψ u->h'.get? b=ψ u)(hp:h.objs.size<=a)(new:cg P w (upd H a o) h' a o):mE P w (upd H a o) h':=fun b u e=>by
 have hn:=x.fresh hp
 by_cases d:b=a
 .subst d;rw[ak]at e;cases e;exact new
 .rw[aj d]at e
  exact(x b u e).stay (fun c v _ q=>k c v q) (fun c q=>by rw[aj (aP q hn)];exact q) fun c xs q=>by rw[aj (aP q hn)];exact q
end
def Rd(H:Hp)(a:QI)(u:HO):Prop:=H a=ψ u\/∃o,H a=ψ (.frz o u)
theorem Rd.ok{P:Q0}{w:QX}{H:Hp}{h:QS}{a:QI}{u:HO}(r:Rd H a u)(x:mE P w H h):cg P w H h a u:=by
 rcases r with r|⟨o,r⟩
 .exact x a u r
 .obtain⟨_,q⟩:=x a _ r
  exact q
def OZ:Option HO->Prop
 |some (.lst _)=>True
 |some (.dK _)=>True
 |some (.dT _)=>True
 |some (.set _ _)=>True
 |some (.ins _ _ _)=>True
 |some (.ext _)=>True
 |_=>False
section
variable {P:Q0}{w:QX}{H:Hp}{h h':QS}{x e:QI}{o':HO}
theorem mE.write(ok:mE P w H h)(g:OZ (H x))(he:e=x\/H e=ψ (.own x))(k:∀b u,b≠e->h.get? b=ψ u->h'.get? b=ψ u)(l:∃u,h'.get? e=ψ u)
  (new:cg P w (upd H x o') h' x o'):mE P w (upd H x o') h':=fun b u q=>by
 have d:∀c y,H c=ψ (.own y)->c≠x:=fun c y r z=>by subst z;rw[r]at g;exact g
 have f:∀c xs,H c=ψ (.tup xs)->c≠x:=fun c xs r z=>by subst z;rw[r]at g;exact g
 by_cases i:b=x
 .subst i;rw[ak]at q;cases q;exact new
 .rw[aj i]at q
  by_cases a:b=e
  .have m:H b=ψ (.own x):=by
    rcases he with z|z
    .exact absurd (a.trans z) i
    .rw[a];exact z
   rw[q]at m;cases m
   obtain⟨v,n⟩:=l
   exact⟨v,by rw[a];exact n⟩
  .refine(ok b u q).stay (fun c v j r=>k c v ?_ r) (fun c r=>by rw[aj (d c b r)];exact r) fun c xs r=>by rw[aj (f c xs r)];exact r
   rcases j with rfl|j
   .exact a
   .rintro rfl
    rcases he with z|z
    .exact d c b j z
    .rw[j]at z;cases z;exact i rfl
end
structure Un(fs ex:⇑QI)(H H':Hp)(h h':QS):Prop where
 keep:∀b o,h.get? b=ψ o->H b=χ->b∉fs->b∉ex->h'.get? b=ψ o
 slot:∀b o,h.get? b=ψ o->H b=χ->b∈fs->b∉ex->∃sl,h'.get? b=ψ {o with slots:=sl}
 free:∀b o,h.get? b=ψ o->H b=χ->b∉ex->H' b=χ
 there:∀b o,h.get? b=ψ o->b∉ex->∃o',h'.get? b=ψ o'
 tups:∀b xs,H b=ψ (.tup xs)->H' b=ψ (.tup xs)
 frzs:∀b o u,H b=ψ (.frz o u)->H' b=ψ (.frz o u)
 tbls:∀b ps,H b=ψ (.tbl ps)->∃more,H' b=ψ (.tbl (ps++more))
section
variable {fs fs' ex ex':⇑QI}{H H1 H2:Hp}{h h1 h2 h':QS}{a x e:QI}{o:HO}
theorem Un.any(u:Un fs ex H H1 h h1){b:QI}{ob:QP}(q:h.get? b=ψ ob)(n:H b=χ)(hx:b∉ex):∃sl,h1.get? b=ψ {ob with slots:=sl}:=by
 by_cases a:b∈fs
 .exact u.slot b ob q n a hx
 .exact⟨ob.slots,u.keep b ob q n a hx⟩
theorem Un.kept(k:∀b u,h.get? b=ψ u->h'.get? b=ψ u):Un fs ex H H h h':=
 ⟨fun b ob q _ _ _=>k b ob q,fun b ob q _ _ _=>⟨ob.slots,k b ob q⟩,fun _ _ _ n _=>n,fun b ob q _=>⟨ob,k b ob q⟩,fun _ _ q=>q,fun _ _ _ q=>q,fun _ ps q=>⟨#[],by rw[q];simp⟩⟩
theorem Un.refl:Un fs ex H H h h:=Un.kept fun _ _ q=>q
theorem Un.laid(k:∀b u,h.get? b=ψ u->h'.get? b=ψ u)(hp:h.objs.size<=a)(hn:H a=χ):Un fs ex H (upd H a o) h h' where
 keep:=fun b u q _ _ _=>k b u q
 slot:=fun b u q _ _ _=>⟨u.slots,k b u q⟩
 free:=fun b u q n _=>by rw[aj (Rn (Rq (Rc q) hp))];exact n
 there:=fun b u q _=>⟨u,k b u q⟩
 tups:=fun b xs q=>by rw[aj (aP q hn)];exact q
 frzs:=fun b u xs q=>by rw[aj (aP q hn)];exact q
 tbls:=fun b ps q=>⟨#[],by rw[aj (aP q hn),q];simp⟩
theorem Un.write(c:OZ (H x))(he:e=x\/H e=ψ (.own x))(k:∀b u,b≠e->h.get? b=ψ u->h'.get? b=ψ u)(d:∃u,h'.get? e=ψ u):Un fs ex H (upd H x o) h h':=by
 have f:∀b,H b=χ->b≠x:=fun b n z=>by subst z;rw[n]at c;exact c
 have g:∀b,H b=χ->b≠e:=fun b n z=>by
  subst z
  rcases he with r|r
  .exact f b n r
  .rw[n]at r;cases r
 have hm:∀b u,H b=ψ u->¬OZ (ψ u)->b≠x:=fun b u q nm z=>by subst z;rw[q]at c;exact nm c
 refine⟨fun b u q n _ _=>k b u (g b n) q,fun b u q n _ _=>⟨u.slots,k b u (g b n) q⟩,fun b u q n _=>by rw[aj (f b n)];exact n,fun b u q _=>?_,
  fun b xs q=>by rw[aj (hm b _ q fun z=>z)];exact q,fun b u xs q=>by rw[aj (hm b _ q fun z=>z)];exact q,fun b ps q=>⟨#[],by rw[aj (hm b _ q fun z=>z),q];simp⟩⟩
 by_cases a:b=e
 .subst a;exact d
 .exact⟨u,k b u a q⟩
theorem Un.mono(u:Un fs ex H H1 h h1)(a:∀b∈fs,b∈fs')(hx:∀b∈ex,b∈ex'):Un fs' ex' H H1 h h1:=
 ⟨fun b ob q n c he=>u.keep b ob q n (fun z=>c (a b z)) fun z=>he (hx b z),fun _ _ q n _ he=>u.any q n fun z=>he (hx _ z),fun b ob q n he=>u.free b ob q n fun z=>he (hx b z),fun b ob q he=>u.there b ob q fun z=>he (hx b z),u.tups,u.frzs,u.tbls⟩
end
def PN(h:QS)(H:Hp):⇑QI:=(Q1 h.objs.size).filter fun a=>(H a).isSome
def Ak(h:QS)(H:Hp):QS:=acu h (PN h H)
theorem E2(h:QS)(H:Hp):(Ak h H).objs.size=h.objs.size:=ab5 _ _
theorem GY{h:QS}{H:Hp}{b:QI}{o:QP}(e:h.get? b=ψ o)(n:H b=χ):(Ak h H).get? b=ψ o:=
 abT _ e fun hm=>by
  have q:(H b).isSome=ω:=(Ra.mp hm).2
  rw[n]at q;simp at q
theorem Jt{h:QS}{H:Hp}{b:QI}{o:QP}(e:(Ak h H).get? b=ψ o):h.get? b=ψ o/\H b=none:=by
 have a:h.get? b=ψ o:=aaG (PN h H) e
 exists a
 cases q:H b with
 |none=>rfl
 |some x=>
  have hm:b∈PN h H:=Ra.mpr ⟨R1.mpr (Rc a),by simp[q]⟩
  have z:(Ak h H).get? b=none:=aaZ (PN h H) hm
  rw[z]at e;cases e
structure Mod(K:QK)(mg:QH->Option QJ)(base:QS):Prop where
 kin:K.In base
 glob:base.Ns RD mg
 blt:∃mb,base.Ns builtinsNs mb/\∀x:QH,x≠"__name__"->mb x=Ut x
 nolimit:base.NoLimit
structure Cx where
 prog:Q0
 w:QX
 K:QK
 mg:QH->Option QJ
 base:QS
 A:Q6
 N:⇑QH
 s₀:QL
 H₀:Hp
 env:Ri
 outer:⇑Ri
 stack:⇑Ri
 ex:⇑QI
 fn:QH->Bool
 calm:Bool
 pn:⇑(QI×QP)
 xe:QJ->QL->Prop
def zN(l:⇑Ri):⇑QI:=l.filterMap (·.frame)
abbrev Cx.fs(X:Cx):⇑QI:=zN X.outer
def NH(a:RG)(x:QH):Prop:=a.names.lookup x=ψ .local\/a.names.lookup x=ψ .cell\/a.names.lookup x=ψ .free
def Loc(a:RG)(x:QH):Prop:=a.names.lookup x=ψ .local\/a.names.lookup x=ψ .cell
def Look(env:Ri)(h:QS)(m:QH->Option QJ)(x:QH)(u:QJ):Prop:=
 (env.kindOf x=ψ .local/\m x=ψ u)\/((env.kindOf x=ψ .cell\/env.kindOf x=ψ .free)/\∃c,env.cells.lookup x=ψ c/\h.IsCell c (ψ u))
structure Cx.Ok(X:Cx):Prop where
 mod:Mod X.K X.mg X.base
 kind:X.env.scope.kind=.function
 glob:X.env.globals=RD
 blt:X.env.builtins=builtinsNs
 above:X.s₀.heap.objs.size<=X.env.locals
 inj:∀x y c,X.env.cells.lookup x=ψ c->X.env.cells.lookup y=ψ c->x=y
 has:∀x,(X.env.kindOf x=ψ .cell\/X.env.kindOf x=ψ .free)->∃c,X.env.cells.lookup x=ψ c
 cab:∀x c,X.fn x=ω->X.env.cells.lookup x=ψ c->X.s₀.heap.objs.size<=c
 hd:X.calm=ω->X.A.handled=χ
 frames:X.A.frames=ψ X.stack
 stk:X.stack=X.outer\/(X.stack=X.env::X.outer/\X.env.frame=ψ X.env.locals)
 exf:∀b∈X.ex,b≠X.env.locals/\∀x c,X.env.cells.lookup x=ψ c->c≠b
 bs:∀b o,X.base.get? b=ψ o->X.s₀.heap.get? b=ψ o/\X.H₀ b=χ
 bsz:X.base.objs.size<=X.s₀.heap.objs.size
 noex:∀b o,X.base.get? b=ψ o->b∉X.ex
 exfs:∀b∈X.ex,b∉X.fs
 funs:X.s₀.heap.FunFrames X.base X.outer
 frf:∀b∈X.fs,X.H₀ b=χ
structure Inv(X:Cx)(pins:⇑(QI×QP))(σ:⇑(Option V))(H:Hp)(s:QL):Prop where
 ok:X.Ok
 os:s.os=X.s₀.os
 bare:SW s.gens
 base:Un X.fs X.ex X.H₀ H X.s₀.heap s.heap
 loc:∃m,s.heap.Ns X.env.locals m/\∀(i:Nat)(x:QH)(v:V),X.N[i]?=ψ x->σ[i]?=ψ (ψ v)->NH X.env.scope x->∃u,RelV v u/\Look X.env s.heap m x u
 cell:∀x c,X.env.cells.lookup x=ψ c->∃v,s.heap.IsCell c v
 free:H X.env.locals=χ
 freeC:∀x c,X.env.cells.lookup x=ψ c->H c=χ
 pin:∀p∈X.pn++pins,s.heap.get? p.1=ψ p.2/\H p.1=χ/\p.1≠X.env.locals/\p.1∉X.fs/\∀v,p.2.data≠.cell v
 hok:mE X.prog X.w H s.heap
 len:σ.length=X.N.length
section
variable {X:Cx}{pins:⇑(QI×QP)}{σ:⇑(Option V)}{H H':Hp}{s:QL}{h':QS}
theorem Cx.Ok.nofr(ok:X.Ok){b:QI}{o:QP}(e:X.base.get? b=ψ o):b∉X.fs:=fun a=>by
 have:=(ok.funs.mem a).1
 rw[e]at this;cases this
theorem Inv.bs(I:Inv X pins σ H s):∀b o,X.base.get? b=ψ o->s.heap.get? b=ψ o/\H b=none:=fun b o e=>
 ⟨I.base.keep b o (I.ok.bs b o e).1 (I.ok.bs b o e).2 (I.ok.nofr e) (I.ok.noex b o e),I.base.free b o (I.ok.bs b o e).1 (I.ok.bs b o e).2 (I.ok.noex b o e)⟩
theorem Inv.bk(I:Inv X pins σ H s):∀b o,X.base.get? b=ψ o->s.heap.get? b=ψ o:=fun b o e=>(I.bs b o e).1
theorem Inv.mod(I:Inv X pins σ H s):Mod X.K X.mg X.base:=I.ok.mod
theorem Inv.kIn(I:Inv X pins σ H s):X.K.In s.heap:=I.ok.mod.kin.keeps I.bk
theorem Inv.lt(I:Inv X pins σ H s):X.env.locals<s.heap.objs.size:=let ⟨_,hn,_⟩:=I.loc;hn.lt
theorem Inv.sz(I:Inv X pins σ H s):X.s₀.heap.objs.size<=s.heap.objs.size:=QV I.ok.above (Tj I.lt)
theorem Inv.nofs(I:Inv X pins σ H s){a:QI}(h:s.heap.objs.size<=a):a∉X.fs:=fun b=>by
 obtain⟨_,o,c,_⟩:=I.ok.funs.mem b
 exact absurd (Rq (Rc c) (QV I.sz h)) (Sn _)
theorem Inv.cne(I:Inv X pins σ H s):∀x c,X.env.cells.lookup x=ψ c->c≠X.env.locals:=fun x c e z=>by
 obtain⟨v,o,d,hd⟩:=I.cell x c e
 obtain⟨m,⟨o',es,f,a,b,_⟩,_⟩:=I.loc
 rw[z,a]at d;cases d;rw[b]at hd;cases hd
theorem Inv.funs(I:Inv X pins σ H s):s.heap.FunFrames X.base X.outer:=by
 have all:∀(l:⇑Ri),(∀b∈zN l,b∈X.fs)->X.s₀.heap.FunFrames X.base l->s.heap.FunFrames X.base l:=by
  intro l
  induction l with
  |nil=>intro _ _;trivial
  |cons env r g=>
   intro f h
   obtain⟨i,⟨L,o,a,hn,j,hd⟩,hr⟩:=h
   have c:L∈X.fs:=f L (by unfold zN;rw[W7,a];exact RW)
   obtain⟨sl,e⟩:=I.base.slot L o j (I.ok.frf L c) c fun z=>I.ok.exfs L z c
   exact⟨i,⟨L,_,a,hn,e,hd⟩,g (fun b d=>f b (by unfold zN;rw[W7,a];exact Rm _ d)) hr⟩
 exact all X.outer (fun _ d=>d) I.ok.funs
theorem Inv.stack(I:Inv X pins σ H s):s.heap.FunFrames X.base X.stack:=by
 rcases I.ok.stk with e|⟨e,a⟩
 .rw[e];exact I.funs
 .rw[e]
  obtain⟨m,hn,_⟩:=I.loc
  refine .cons (by rw[I.ok.kind];decide) a hn ?_ I.funs
  exact VB (QV I.ok.bsz I.ok.above)
theorem Inv.stkSub(I:Inv X pins σ H s):∀b∈zN X.stack,b∈X.env.locals::X.fs:=fun b a=>by
 rcases I.ok.stk with e|⟨e,c⟩
 .rw[e]at a;exact Rm _ a
 .rw[e]at a
  unfold zN at a
  rw[W7,c]at a
  exact a
theorem Inv.stkFree(I:Inv X pins σ H s):∀b∈zN X.stack,H b=none:=fun b a=>by
 rcases QW.mp (I.stkSub b a)with e|a
 .rw[e];exact I.free
 .obtain⟨_,o,c,_⟩:=I.ok.funs.mem a
  exact I.base.free b o c (I.ok.frf b a) fun z=>I.ok.exfs b z a
theorem Inv.step{g':Array GenState}{t':Nat}{d':Drawn}{ch:⇑QI}(I:Inv X pins σ H s)
  (f:∀b∈ch,(b∈X.ex\/X.s₀.heap.objs.size<=b)/\b≠X.env.locals/\(∀x c,X.env.cells.lookup x=ψ c->c≠b)/\∀p∈X.pn++pins,p.1≠b)
  (keep:∀b o,b≠X.env.locals->b∉X.fs->b∉ch->s.heap.get? b=ψ o->H b=χ->h'.get? b=ψ o)
  (slot:∀b o,b≠X.env.locals->b∈X.fs->b∉ch->s.heap.get? b=ψ o->H b=χ->∃sl,h'.get? b=ψ {o with slots:=sl}) (free:∀b o,b∉ch->s.heap.get? b=ψ o->H b=χ->H' b=χ)
  (there:∀b o,b∉ch->s.heap.get? b=ψ o->∃o',h'.get? b=ψ o')
  (tups:∀b xs,H b=ψ (.tup xs)->H' b=ψ (.tup xs)) (frzs:∀b o u,H b=ψ (.frz o u)->H' b=ψ (.frz o u)) (tbls:∀b ps,H b=ψ (.tbl ps)->∃more,H' b=ψ (.tbl (ps++more)))
  (ns:∀m,s.heap.Ns X.env.locals m->h'.Ns X.env.locals m) (hok:mE X.prog X.w H' h') (G:SW g'):
  Inv X pins σ H' {s with heap:=h',gens:=g',drawn:=d',toks:=t'}:=by
 have B:∀b o,X.s₀.heap.get? b=ψ o->b≠X.env.locals:=fun b o e=>Rn (Rq (Rc e) I.ok.above)
 have j:∀b o,X.s₀.heap.get? b=ψ o->b∉X.ex->b∉ch:=fun b o e a y=>by
  rcases(f b y).1 with z|z
  .exact a z
  .exact absurd (Rq (Rc e) z) (Sn _)
 have g:∀x c,X.env.cells.lookup x=ψ c->∀v,s.heap.IsCell c v->h'.IsCell c v:=fun x c e v ⟨o,A,hd⟩=>by
  have h:c∉ch:=fun z=>(f c z).2.2.1 x c e rfl
  by_cases E:c∈X.fs
  .obtain⟨sl,q⟩:=slot c o (I.cne x c e) E h A (I.freeC x c e)
   exact⟨_,q,hd⟩
  .exact⟨o,keep c o (I.cne x c e) E h A (I.freeC x c e),hd⟩
 refine⟨I.ok,I.os,G,⟨fun b o e n y a=>?_,fun b o e n y a=>?_,fun b o e n a=>?_,fun b o e a=>?_,fun b xs e=>tups b xs (I.base.tups b xs e),fun b o xs e=>frzs b o xs (I.base.frzs b o xs e),fun b ps e=>?_⟩,?_,fun x c e=>?_,?_,fun x c e=>?_,fun p hp=>?_,hok,I.len⟩
 .exact keep b o (B b o e) y (j b o e a) (I.base.keep b o e n y a) (I.base.free b o e n a)
 .obtain⟨sl,t⟩:=I.base.slot b o e n y a
  obtain⟨D,C⟩:=slot b _ (B b o e) y (j b o e a) t (I.base.free b o e n a)
  exact⟨D,C⟩
 .obtain⟨o',t⟩:=I.base.there b o e a
  exact free b o' (j b o e a) t (I.base.free b o e n a)
 .obtain⟨o',t⟩:=I.base.there b o e a
  exact there b o' (j b o e a) t
 .obtain⟨J,t⟩:=I.base.tbls b ps e
  obtain⟨K,C⟩:=tbls b _ t
  exact⟨J++K,by rw[C,Array.append_assoc]⟩
 .obtain⟨m,hn,L⟩:=I.loc
  refine⟨m,ns m hn,fun i x v t C M=>?_⟩
  obtain⟨u,r,l⟩:=L i x v t C M
  exists u,r
  rcases l with l|⟨k,c,e,z⟩
  .exact .inl l
  .exact .inr ⟨k,c,e,g x c e _ z⟩
 .obtain⟨v,z⟩:=I.cell x c e
  exact⟨v,g x c e v z⟩
 .obtain⟨m,⟨o,_,_,A,_⟩,_⟩:=I.loc
  exact free _ o (fun z=>(f _ z).2.1 rfl) A I.free
 .obtain⟨v,o,A,hd⟩:=I.cell x c e
  exact free c o (fun z=>(f c z).2.2.1 x c e rfl) A (I.freeC x c e)
 .obtain⟨e,n,ne,F,d⟩:=I.pin p hp
  have h:p.1∉ch:=fun z=>(f p.1 z).2.2.2 p hp rfl
  exact⟨keep p.1 p.2 ne F h e n,free p.1 p.2 h e n,ne,F,d⟩
theorem Inv.un{t':Nat}(I:Inv X pins σ H s)(u:Un X.fs [] H H' s.heap h')(hok:mE X.prog X.w H' h'):Inv X pins σ H' {s with heap:=h',toks:=t'}:=by
 obtain⟨m,⟨o,es,j,g,r⟩,_⟩:=id I.loc
 obtain⟨sl,h⟩:=u.any g I.free ⋯
 exact I.step (g':=s.gens) (d':=s.drawn) (ch:=[]) (fun _ z=>nomatch z) (fun b o _ c _ e n=>u.keep b o e n c ⋯) (fun b o _ c _ e n=>u.slot b o e n c ⋯) (fun b o _ e n=>u.free b o e n ⋯) (fun b o _ e=>u.there b o e ⋯) u.tups u.frzs u.tbls (fun k hm=>by
  obtain⟨o',d,f,a,i⟩:=hm
  rw[g]at a;cases a
  exact⟨_,d,f,h,i⟩) hok I.bare
theorem Inv.call{g':Array GenState}{t':Nat}{d':Drawn}{ch:⇑QI}(I:Inv X pins σ H s)(u:Un (zN X.stack) ch H H' s.heap h')(hok:mE X.prog X.w H' h')(k:SW g')
  (d:∀b∈ch,(b∈X.ex\/X.s₀.heap.objs.size<=b)/\b≠X.env.locals/\(∀x c,X.env.cells.lookup x=ψ c->c≠b)/\∀p∈X.pn++pins,p.1≠b):
  Inv X pins σ H' {s with heap:=h',gens:=g',drawn:=d',toks:=t'}:=by
 obtain⟨m,⟨o,es,t,j,r⟩,_⟩:=id I.loc
 obtain⟨sl,g⟩:=u.any j I.free fun z=>(d _ z).2.1 rfl
 exact I.step (ch:=ch) d (fun b o g l a e n=>u.keep b o e n (fun z=>(QW.mp (I.stkSub b z)).elim g l) a) (fun b o _ _ a e n=>u.any e n a) (fun b o a e n=>u.free b o e n a) (fun b o a e=>u.there b o e a) u.tups u.frzs u.tbls (fun v hm=>by
  obtain⟨o',h,i,f,q⟩:=hm
  rw[j]at f;cases f
  exact⟨_,h,i,g,q⟩) hok k
theorem Inv.turned{t':Nat}{it:QI}(I:Inv X pins σ H s)(k:∀b o,b≠it->s.heap.get? b=ψ o->h'.get? b=ψ o)(hn:H it=χ)(f:it≠X.env.locals)
  (h1:it∈X.ex\/X.s₀.heap.objs.size<=it) (g:∀x c,X.env.cells.lookup x=ψ c->c≠it) (h:∀p∈X.pn++pins,p.1≠it):Inv X pins σ H {s with heap:=h',toks:=t'}:=by
 have d:∀b u,H b=ψ u->b≠it:=fun b u e z=>by rw[z,hn]at e;cases e
 refine I.step (g':=s.gens) (d':=s.drawn) (ch:=[it]) (fun b i=>?_) (fun b o _ _ a e _=>k b o (fun z=>a (by simp[z])) e) (fun b o _ _ a e _=>⟨o.slots,k b o (fun z=>a (by simp[z])) e⟩) (fun _ _ _ _ n=>n)
  (fun b o a e=>⟨o,k b o (fun z=>a (by simp[z])) e⟩) (fun _ _ e=>e) (fun _ _ _ e=>e) (fun b ps e=>⟨#[],by rw[e];simp⟩) (fun m hm=>?_) (fun b u e=>?_) I.bare
 .have e:b=it:=by simpa using i
  subst e
  exact⟨h1,f,g,h⟩
 .obtain⟨o,es,j,l,r⟩:=hm
  exact⟨o,es,j,k _ o (Rb f) l,r⟩
 .refine(I.hok b u e).stay (fun c v a q=>k c v ?_ q) (fun _ q=>q) fun _ _ q=>q
  rcases a with z|z
  .rw[z];exact d b u e
  .exact d c _ z
theorem Inv.tok(I:Inv X pins σ H s)(t:Nat):Inv X pins σ H {s with toks:=t}:=I.un (h':=s.heap) (t':=t) Un.refl I.hok
theorem Inv.kept{t':Nat}(I:Inv X pins σ H s)(k:∀b u,s.heap.get? b=ψ u->h'.get? b=ψ u):Inv X pins σ H {s with heap:=h',toks:=t'}:=I.un (Un.kept k) (I.hok.kept k)
theorem Inv.laid{a:QI}{o:HO}{t':Nat}(I:Inv X pins σ H s)(k:∀b u,s.heap.get? b=ψ u->h'.get? b=ψ u)(hp:s.heap.objs.size<=a)(new:cg X.prog X.w (upd H a o) h' a o):
  Inv X pins σ (upd H a o) {s with heap:=h',toks:=t'}:=I.un (Un.laid k hp (I.hok.fresh hp)) (I.hok.laid k hp new)
theorem Inv.write{x e:QI}{o:HO}{t':Nat}(I:Inv X pins σ H s)(c:OZ (H x))(he:e=x\/H e=ψ (.own x))(k:∀b u,b≠e->s.heap.get? b=ψ u->h'.get? b=ψ u)(a:∃u,h'.get? e=ψ u)
  (new:cg X.prog X.w (upd H x o) h' x o):Inv X pins σ (upd H x o) {s with heap:=h',toks:=t'}:=I.un (Un.write c he k a) (I.hok.write c he k a new)
theorem Inv.pins_of{a:⇑(QI×QP)}(I:Inv X pins σ H s)(h:∀p∈a,s.heap.get? p.1=ψ p.2/\H p.1=χ/\p.1≠X.env.locals/\p.1∉X.fs/\∀v,p.2.data≠.cell v):Inv X a σ H s:=
 ⟨I.ok,I.os,I.bare,I.base,I.loc,I.cell,I.free,I.freeC,fun p hp=>(Rr.mp hp).elim (fun z=>I.pin p (YZ _ z)) (h p),I.hok,I.len⟩
theorem vN{N:⇑QH}(c:N.Nodup){i j:Nat}{x:QH}(a:N[i]?=ψ x)(b:N[j]?=ψ x):i=j:=by
 obtain⟨f,d⟩:=Rw.mp a
 obtain⟨g,e⟩:=Rw.mp b
 exact(List.getElem_inj c).mp (d.trans e.symm)
theorem yn{M:Model}{A:Q6}{E:QJ->QL->Prop}{i:Nat}{x:QH}{v:V}{u:QJ}{Q:Unit->QL->Prop}(I:Inv X pins σ H s)(hN:X.N.Nodup)(hi:X.N[i]?=ψ x)(hx:Loc X.env.scope x)(r:RelV v u)
  (h:∀Y,Inv X pins (σ.set i (ψ v)) H Y->(∃a,SG a s.heap Y.heap/\(a=X.env.locals\/X.env.cells.lookup x=ψ a))->Q () Y) (hf:X.fn x=ω\/X.env.scope.names.lookup x=ψ .local:=by first|exact .inl rfl|exact .inr rfl|assumption):QM M A (storeName X.env x u) Q E s:=by
 obtain⟨m,hn,hl⟩:=id I.loc
 have L:(X.env.scope.kind==.class || (X.env.scope.kind==.module&&X.env.locals != X.env.globals))=ξ:=by rw[I.ok.kind];rfl
 have D:i<σ.length:=by rw[I.len];exact(Rw.mp hi).1
 have cne:=I.cne
 have g:∀{a:QI}{h':QS},(∃o,s.heap.get? a=ψ o/\H a=χ)->SG a s.heap h'->mE X.prog X.w H h':=fun {a h'} ha f b ob e=>by
  obtain⟨_,_,B⟩:=ha
  refine(I.hok b ob e).stay (fun c T t q=>(f.2 c ?_).trans q) (fun _ q=>q) fun _ _ q=>q
  rintro rfl
  rcases t with rfl|t
  .rw[B]at e;cases e
  .rw[B]at t;cases t
 rcases hx with F|F
 .refine wpAny_storeName_local F hn (fun h' Z f=>?_) L
  obtain⟨oL,_,_,α,_⟩:=id hn
  refine h _ ⟨I.ok,I.os,I.bare,⟨fun b o e n G hx=>?_,fun b o e n G hx=>?_,I.base.free,fun b o e hx=>?_,I.base.tups,I.base.frzs,I.base.tbls⟩,⟨_,Z,fun j y v' l C e3=>?_⟩,fun y c e=>?_,I.free,I.freeC,fun p hp=>?_,g ⟨oL,α,I.free⟩ f,by simpa using I.len⟩ ⟨_,f,.inl rfl⟩
  .exact(f.2 b (Rn (Rq (Rc e) I.ok.above))).trans (I.base.keep b o e n G hx)
  .obtain⟨sl,l⟩:=I.base.slot b o e n G hx
   exact⟨sl,(f.2 b (Rn (Rq (Rc e) I.ok.above))).trans l⟩
  .obtain⟨o',l⟩:=I.base.there b o e hx
   exact⟨o',(f.2 b (Rn (Rq (Rc e) I.ok.above))).trans l⟩
  .by_cases J:j=i
   .subst J
    rw[hi]at l;cases l
    rw[Xc D]at C
    cases C
    exact⟨u,r,.inl ⟨F,⋯⟩⟩
   .rw[WS (Rb J)]at C
    obtain⟨u',r',q⟩:=hl j y v' l C e3
    exists u',r'
    rcases q with⟨k,e⟩|⟨k,c,e,z⟩
    .refine .inl ⟨k,?_⟩
     have:y≠x:=fun e=>J (vN hN l (e▸hi))
     simp[this,e]
    .exact .inr ⟨k,c,e,z.sameBut f (cne y c e)⟩
  .obtain⟨T,z⟩:=I.cell y c e
   exact⟨T,z.sameBut f (cne y c e)⟩
  .obtain⟨e,n,U,nf,d⟩:=I.pin p hp
   exact⟨(f.2 p.1 U).trans e,n,U,nf,d⟩
 .have K:X.fn x=ω:=by
   rcases hf with z|z
   .exact z
   .rw[z]at F;cases F
  obtain⟨c,t⟩:=I.ok.has x (.inl F)
  obtain⟨T,z⟩:=I.cell x c t
  refine wpAny_storeName_cell I.ok.kind F t z (fun h' O f=>?_)
  obtain⟨oc,P,R⟩:=id z
  refine h {s with heap:=h'} ⟨I.ok,I.os,I.bare,⟨fun b o e n G hx=>?_,fun b o e n G hx=>?_,I.base.free,fun b o e hx=>?_,I.base.tups,I.base.frzs,I.base.tbls⟩,⟨m,hn.sameBut f (Rb (cne x c t)),fun j y v' l C e3=>?_⟩,fun y W e=>?_,I.free,I.freeC,fun p hp=>?_,g ⟨oc,P,I.freeC x c t⟩ f,by simpa using I.len⟩ ⟨c,f,.inr t⟩
  .exact(f.2 b (Rn (Rq (Rc e) (I.ok.cab x c K t)))).trans (I.base.keep b o e n G hx)
  .obtain⟨sl,l⟩:=I.base.slot b o e n G hx
   exact⟨sl,(f.2 b (Rn (Rq (Rc e) (I.ok.cab x c K t)))).trans l⟩
  .obtain⟨o',l⟩:=I.base.there b o e hx
   exact⟨o',(f.2 b (Rn (Rq (Rc e) (I.ok.cab x c K t)))).trans l⟩
  .by_cases J:j=i
   .subst J
    rw[hi]at l;cases l
    rw[Xc D]at C
    cases C
    exact⟨u,r,.inr ⟨.inl F,c,t,O⟩⟩
   .rw[WS (Rb J)]at C
    obtain⟨u',r',q⟩:=hl j y v' l C e3
    exists u',r'
    rcases q with q|⟨k,W,e,z'⟩
    .exact .inl q
    .refine .inr ⟨k,W,e,z'.sameBut f ?_⟩
     rintro rfl
     exact J (vN hN l (I.ok.inj _ _ _ e t▸hi))
  .by_cases S:W=c
   .subst S;exact⟨_,O⟩
   .obtain⟨w2,z2⟩:=I.cell y W e
    exact⟨w2,z2.sameBut f S⟩
  .obtain⟨e,n,U,nf,d⟩:=I.pin p hp
   refine⟨(f.2 p.1 ?_).trans e,n,U,nf,d⟩
   intro q
   rw[q,P]at e
   have q':oc=p.2:=RE e
   exact d T (by rw[<-q'];exact R)
theorem oS{M:Model}{A:Q6}{E:QJ->QL->Prop}{i:Nat}{x:QH}{v:V}{u:QJ}{Q:Unit->QL->Prop}(I:Inv X pins σ H s)(b:X.N.Nodup)(hi:X.N[i]?=ψ x)(hx:Loc X.env.scope x)(r:RelV v u)
  (h:∀a,Inv X pins (σ.set i (ψ v)) H a->Q () a) (c:X.fn x=ω\/X.env.scope.names.lookup x=ψ .local:=by first|exact .inl rfl|exact .inr rfl|assumption):QM M A (storeName X.env x u) Q E s:=
 yn I b hi hx r (fun a I' _=>h a I') c
theorem Inv.call'{a:QL}{ch:⇑QI}(I:Inv X pins σ H s)(f:a.os=s.os)(u:Un (zN X.stack) ch H H' s.heap a.heap)(hok:mE X.prog X.w H' a.heap)(g:SW a.gens)
  (d:∀b∈ch,(b∈X.ex\/X.s₀.heap.objs.size<=b)/\b≠X.env.locals/\(∀x c,X.env.cells.lookup x=ψ c->c≠b)/\∀p∈X.pn++pins,p.1≠b):Inv X pins σ H' a:=by
 obtain⟨h',g',d',t',o'⟩:=a
 have e:o'=s.os:=f
 subst e
 exact I.call (g':=g') (t':=t') (d':=d') u hok g d
end
abbrev XK:=QJ->Option QI->Hp->Prop
abbrev St:=⇑(Option V)
abbrev VK:=V->Hp->Prop
abbrev TE:=St->Hp->VK->Prop
abbrev TT:=St->Hp->(Bool->Hp->Prop)->Prop
abbrev TA:=St->Hp->(⇑V->Hp->Prop)->Prop
structure Ends where
 nx:St->Hp->Prop
 rt:VK
 bk:St->Hp->Prop:=fun _ _=>False
 ct:St->Hp->Prop:=fun _ _=>False
abbrev TS:=Ends->St->Hp->Prop
def EP(X:Cx)(a:⇑(QI×QP))(c:St)(Q:VK)(u:QJ)(d:QL):Prop:=∃v b,Inv X a c b d/\RelV v u/\Q v b
def TP(X:Cx)(a:⇑(QI×QP))(d:St)(Q:Bool->Hp->Prop)(b:Bool)(e:QL):Prop:=∃c,Inv X a d c e/\Q b c
def AP(X:Cx)(a:⇑(QI×QP))(d:St)(Q:⇑V->Hp->Prop)(us:⇑QJ)(e:QL):Prop:=∃b c,Inv X a d c e/\bA b us/\Q b c
noncomputable def SP(X:Cx)(b:⇑(QI×QP))(D:Ends)(f:Flow)(d:QL):Prop:=
 match f with
 |.next=>∃a c,Inv X b a c d/\D.nx a c
 |.brk=>∃a c,Inv X b a c d/\D.bk a c
 |.cont=>∃a c,Inv X b a c d/\D.ct a c
 |.ret u=>∃v a c,Inv X b a c d/\RelV v u/\D.rt v c
def PE(X:Cx)(e:QQ)(t:TE):Prop:=
 ∀(a:⇑(QI×QP))(s:QL)(b:St)(H:Hp)(Q:VK),Inv X a b H s->t b H Q->QM (model X.prog X.w) X.A (eval e X.env) (EP X a b Q) X.xe s
def PT(X:Cx)(e:QQ)(t:TT):Prop:=
 ∀(a:⇑(QI×QP))(s:QL)(b:St)(H:Hp)(Q:Bool->Hp->Prop),Inv X a b H s->t b H Q->QM (model X.prog X.w) X.A (isTrue e X.env (eval e X.env)) (TP X a b Q) X.xe s
def PW(X:Cx)(e:QQ)(t:TT):Prop:=
 ∀(b:Sem QJ)(a:⇑(QI×QP))(s:QL)(c:St)(H:Hp)(Q:Bool->Hp->Prop),Inv X a c H s->t c H Q->QM (model X.prog X.w) X.A (isTrue e X.env b) (TP X a c Q) X.xe s
theorem PW.pt{X:Cx}{e:QQ}{t:TT}(h:PW X e t):PT X e t:=h _
noncomputable def PA(X:Cx)(es:⇑QQ)(t:TA):Prop:=
 ∀(b:Q9)(a:⇑(QI×QP))(s:QL)(c:St)(H:Hp)(Q:⇑V->Hp->Prop),Inv X a c H s->t c H Q->QM (model X.prog X.w) X.A (spliced (Rx b (Q5 es X.env))) (AP X a c Q) X.xe s
def PS(X:Cx)(st:QU)(t:TS):Prop:=
 ∀(a:⇑(QI×QP))(s:QL)(b:St)(H:Hp)(D:Ends),Inv X a b H s->t D b H->QM (model X.prog X.w) X.A (exec st X.env) (SP X a D) X.xe s
def vt(X:Cx)(st:⇑QU)(t:TS):Prop:=
 ∀(a:⇑(QI×QP))(s:QL)(b:St)(H:Hp)(D:Ends),Inv X a b H s->t D b H->QM (model X.prog X.w) X.A (execs st X.env) (SP X a D) X.xe s
theorem cf{α:Type}{t:Sem α}{Q b:α->QL->Prop}{M:Model}{A:Q6}{E:QJ->QL->Prop}{s:QL}(h:QM M A t Q E s)(c:∀a s,Q a s->b a s):QM M A t b E s:=RX h c fun _ _ x=>x
section
variable {X:Cx}
theorem bin{a b:QQ}{l m:TE}(ha:PE X a l)(n:PE X b m){c:⇑(QI×QP)}{s:QL}{d:St}{H:Hp}{R:V->V->Hp->Prop}(I:Inv X c d H s)(h:l d H fun x k=>m d k fun y e=>R x y e)
  {α:Type}{Q:α->QL->Prop}{f:QJ->QJ->Sem α}
  (o:∀v u j x y e,Inv X c d e j->RelV x v->RelV y u->R x y e->QM (model X.prog X.w) X.A (f v u) Q X.xe j):
  QM (model X.prog X.w) X.A (eval a X.env) (fun v g=>QM (model X.prog X.w) X.A (eval b X.env) (fun u i=>QM (model X.prog X.w) X.A (f v u) Q X.xe i) X.xe g) X.xe s:=by
 refine cf (ha c s d H _ I h) fun v p ⟨x,k,I1,q,r⟩=>?_
 refine cf (n c p d k _ I1 r) fun u j ⟨y,e,I2,t,z⟩=>?_
 exact o v u j x y e I2 q t z
def aa(i:Nat):TE:=fun a H Q=>∃v,a[i]?=ψ (ψ v)/\Q v H
def tC(v:V):TE:=fun _ H Q=>Q v H
theorem Nz{i:Nat}{x:QH}{g:Q9}(n:X.N[i]?=ψ x)(o:NH X.env.scope x)(hd:(x==("__debug__":QH))=ξ:=by decide)(j:(x==("__classdict__":QH))=ξ:=by decide):PE X (.Name x g) (aa i):=by
 intro f s p H Q I h
 obtain⟨v,e,h⟩:=h
 obtain⟨m,hn,q⟩:=I.loc
 obtain⟨u,r,l⟩:=q i x v n e o
 have b:EP X f p Q u s:=⟨v,H,I,r,h⟩
 rcases l with⟨d,hm⟩|⟨d,c,k,a⟩
 .exact wpAny_Name (wpAny_loadName_local I.ok.kind d hn hm b) hd
 .rcases d with d|d
  .exact wpAny_Name (wpAny_loadName_cell I.ok.kind d k a b) hd
  .exact wpAny_Name (wpAny_loadName_free I.ok.kind d k a b j) hd
theorem Mi{i j a}:PE X (.Constant (.int i) j a) (tC (.int i)):=fun _ _ _ H _ I h=>wpAny_Constant_int ⟨.int i,H,I.tok _,⟨_,rfl⟩,h⟩
theorem O0{b j a}:PE X (.Constant (.bool b) j a) (tC (.bl b)):=fun _ _ _ H _ I h=>Constant_bool ⟨.bl b,H,I,rfl,h⟩
theorem MG{j a}:PE X (.Constant .none j a) (tC .non):=fun _ _ _ H _ I h=>Constant_none ⟨.non,H,I,rfl,h⟩
theorem Ni{x j a}:PE X (.Constant (.str x) j a) (tC (.str x)):=fun _ _ _ H _ I h=>Calls.Constant_str ⟨.str x,H,I.tok _,⟨_,rfl⟩,h⟩
def Gl(X:Cx)(x:QH):Prop:=X.env.kindOf x=ψ .globalImplicit
theorem pT{E:QJ->QL->Prop}{a:⇑(QI×QP)}{s:QL}{c:St}{H:Hp}{x:QH}{u:QJ}{b:Q9}{Q:QJ->QL->Prop}(I:Inv X a c H s)(d:Gl X x)(hm:X.mg x=ψ u)(h:Q u s)
  (hd:(x==("__debug__":QH))=ξ:=by decide):QM (model X.prog X.w) X.A (eval (.Name x b) X.env) Q E s:=
 XT I.ok.kind d (Calls.loadGlobal_global (by rw[I.ok.glob];exact I.mod.glob.keeps I.bk) hm h) hd
theorem iE{E:QJ->QL->Prop}{a:⇑(QI×QP)}{s:QL}{c:St}{H:Hp}{x:QH}{u:QJ}{b:Q9}{Q:QJ->QL->Prop}(I:Inv X a c H s)(d:Gl X x)(hm:X.mg x=χ)(e:Ut x=ψ u)(h:Q u s)
  (hn:x≠"__name__":=by decide) (hd:(x==("__debug__":QH))=ξ:=by decide):QM (model X.prog X.w) X.A (eval (.Name x b) X.env) Q E s:=by
 obtain⟨i,f,g⟩:=I.mod.blt
 exact XT I.ok.kind d (Calls.loadGlobal_builtin (by rw[I.ok.glob];exact I.mod.glob.keeps I.bk) hm (by rw[I.ok.blt];exact f.keeps I.bk) ((g x hn).trans e) h) hd
theorem Ec{x:QH}{v:V}{u:QJ}{a:Q9}(b:Gl X x)(hm:X.mg x=ψ u)(r:RelV v u)(hd:(x==("__debug__":QH))=ξ:=by decide):PE X (.Name x a) (tC v):=
 fun _ _ _ H _ I h=>pT I b hm ⟨v,H,I,r,h⟩ hd
theorem JH{x:QH}{v:V}{u:QJ}{a:Q9}(b:Gl X x)(hm:X.mg x=χ)(c:Ut x=ψ u)(r:RelV v u)(hn:x≠"__name__":=by decide)(hd:(x==("__debug__":QH))=ξ:=by decide):PE X (.Name x a) (tC v):=
 fun _ _ _ H _ I h=>iE I b hm c ⟨v,H,I,r,h⟩ hn hd
variable {a b:QQ}{ta tb:TE}{pos:Q9}
noncomputable def PC(X:Cx)(g:CmpOp)(a b:QQ)(t:TE):Prop:=
 ∀(c:⇑(QI×QP))(s:QL)(f:St)(H:Hp)(Q:VK),Inv X c f H s->t f H Q->
  QM (model X.prog X.w) X.A (eval a X.env) (fun v d=>QM (model X.prog X.w) X.A (eval b X.env) (fun u e=>QM (model X.prog X.w) X.A (Rz g v u) (EP X c f Q) X.xe e) X.xe d) X.xe s
def tB(t:TE):TT:=fun a H Q=>t a H fun x b=>∃c,x=.bl c/\Q c b
theorem LK{g:CmpOp}{t:TE}(h:PC X g a b t)(i:UZ g b=ξ:=by first|exact e _ "^" "^"|rfl):PT X (.Compare a [g] [b] pos) (tB t):=by
 intro f s j H Q I hw
 refine wpAny_isTrue_Compare1 (cf (h f s j H _ I hw) fun v o i=>cf i fun u p k=>cf k fun c r ⟨x,l,I1,m,n⟩=>?_) i
 obtain⟨d,rfl,q⟩:=n
 cases m
 exact UH ⟨l,I1,q⟩
theorem M9{e:QQ}{t:TE}(h:PE X e t)(he:∀a,isTrue e X.env a=(do let v <-a;standAt e.pos;holding [v] (truthy v)):=by intro _;rfl):PT X e (tB t):=by
 intro b s c H Q I hw
 refine isTrue_plain (cf (h b s c H _ I hw) fun v j ⟨x,f,I1,g,i⟩=>?_) (he _)
 obtain⟨d,rfl,q⟩:=i
 cases g
 exact UH ⟨f,I1,q⟩
variable {tA tB':TT}{rest:⇑QQ}
def kr(t u:TT):TT:=fun a H Q=>t a H fun c b=>if c=ω then u a b Q else Q false b
def tE(t u:TT):TT:=fun a H Q=>t a H fun c b=>if c=ω then Q true b else u a b Q
def rp(t:TT):TT:=fun a H Q=>t a H fun c b=>Q (!c) b
theorem Jp(ha:PT X a tA):PW X (.BoolOp .And [a] pos) tA:=by
 intro f b s d H Q I h
 refine isTrue_and (cf (ha b s d H Q I h) fun c g e=>?_)
 cases c with
 |true=>exact isTrue_and_nil e
 |false=>exact e
theorem MN(ha:PT X a tA):PW X (.BoolOp .Or [a] pos) tA:=by
 intro f b s d H Q I h
 refine isTrue_or (cf (ha b s d H Q I h) fun c g e=>?_)
 cases c with
 |false=>exact isTrue_or_nil e
 |true=>exact e
theorem M7(ha:PT X a tA)(i:PW X (.BoolOp .And (b::rest) pos) tB'):PW X (.BoolOp .And (a::b::rest) pos) (kr tA tB'):=by
 intro j d s e H Q I h
 refine isTrue_and (cf (ha d s e H _ I h) fun c k ⟨f,I1,g⟩=>?_)
 cases c with
 |true=>exact i j d k e f Q I1 g
 |false=>exact⟨f,I1,g⟩
theorem OW(ha:PT X a tA)(i:PW X (.BoolOp .Or (b::rest) pos) tB'):PW X (.BoolOp .Or (a::b::rest) pos) (tE tA tB'):=by
 intro j d s e H Q I h
 refine isTrue_or (cf (ha d s e H _ I h) fun c k ⟨f,I1,g⟩=>?_)
 cases c with
 |true=>exact⟨f,I1,g⟩
 |false=>exact i j d k e f Q I1 g
theorem MC(ha:PT X a tA):PT X (.UnaryOp .Not a pos) (rp tA):=by
 intro b s d H Q I h
 exact isTrue_not (ha b s d H (fun c e=>Q (!c) e) I h)
def yp(ta tb:TE):TE:=fun a H Q=>ta a H fun x b=>∃c,x=.bl c/\if c=ω then tb a b Q else Q (.bl false) b
theorem Mq{c}{t:TE}(h:PE X a t):PE X (.BoolOp c [a] pos) t:=fun b s d H Q I hw=>BoolOp_one (h b s d H Q I hw)
theorem Nj(ha:PE X a ta)(i:PE X (.BoolOp .And (b::rest) pos) tb):PE X (.BoolOp .And (a::b::rest) pos) (yp ta tb):=by
 intro d s f H Q I h
 refine BoolOp_and (cf (ha d s f H _ I h) fun v j ⟨x,g,I1,k,e⟩=>?_)
 obtain⟨c,rfl,e⟩:=e
 cases k
 refine UH ?_
 cases c with
 |true=>exact i d j f g Q I1 e
 |false=>exact⟨.bl false,g,I1,rfl,e⟩
def Oz(t:TT)(ta tb:TE):TE:=fun a H Q=>t a H fun c b=>if c=ω then ta a b Q else tb a b Q
theorem HD{c:QQ}(k:PT X c tA)(ha:PE X a ta)(l:PE X b tb):PE X (.IfExp c a b pos) (Oz tA ta tb):=by
 intro e s f H Q I h
 refine wpAny_IfExp (cf (k e s f H _ I h) fun d g ⟨i,I1,j⟩=>?_)
 cases d with
 |true=>exact ha e g f i Q I1 j
 |false=>exact l e g f i Q I1 j
end
def aD(K:QK)(H:Hp)(a:QI)(xs:⇑V):Prop:=
 Rd H a (.lst xs)\/
  ∃(o:QP)(b:Array QJ)(n:Nat),K.lookup a=ψ o/\o.cls=.type "list"/\o.dict=χ/\o.data=.seq b n/\b.size<=QT/\bA xs b.toList
def d5(K:QK)(H:Hp)(a:QI)(xs:⇑V):Prop:=
 Rd H a (.tup xs)\/
  ∃(o:QP)(b:Array QJ)(n:Nat),K.lookup a=ψ o/\o.cls=.type "tuple"/\o.data=.seq b n/\b.size<=QT/\bA xs b.toList
def P4:QJ->Option V
 |.none=>some .non
 |.bool b=>some (.bl b)
 |.int i _=>some (.int i)
 |.str x _=>some (.str x)
 |.bytes b _=>some (.byt b)
 |.float b _=>some (.flt b)
 |.ref a=>some (.ref a)
 |.type n=>some (.ty n)
 |_=>none
theorem RelV.abs{x:V}{u:QJ}(r:RelV x u):P4 u=ψ x:=by
 cases x with
 |non=>cases r;rfl
 |bl _=>cases r;rfl
 |int _=>obtain⟨t,rfl⟩:=r;rfl
 |str _=>obtain⟨t,rfl⟩:=r;rfl
 |byt _=>obtain⟨t,rfl⟩:=r;rfl
 |flt _=>obtain⟨t,rfl⟩:=r;rfl
 |ref _=>cases r;rfl
 |ty _=>cases r;rfl
theorem RelV.inj{x y:V}{u:QJ}(r:RelV x u)(q:RelV y u):x=y:=RE (r.abs.symm.trans q.abs)
theorem bA.inj:∀{xs ys:⇑V}{us:⇑QJ},bA xs us->bA ys us->xs=ys
 |_,_,_,.nil,.nil=>rfl
 |_,_,_,.cons r t,.cons r' t'=>by rw[r.inj r',bA.inj t t']
section
variable {X:Cx}{pins:⇑(QI×QP)}{σ:St}{H:Hp}{s:QL}{a:QI}{xs ys:⇑V}
theorem aD.of{K:QK}(h:H a=ψ (.lst xs)):aD K H a xs:=.inl (.inl h)
theorem d5.of{K:QK}(h:H a=ψ (.tup xs)):d5 K H a xs:=.inl (.inl h)
theorem Inv.list(I:Inv X pins σ H s)(h:aD X.K H a xs):∃its:⇑QJ,bA xs its/\PlainL s.heap a its.toArray/\xs.length<=QT:=by
 rcases h with h|⟨o,its,n,b,c,hd,d,hz,r⟩
 .obtain⟨z,its,n,r,e⟩:=h.ok I.hok
  exact⟨its,r,⟨_,n,e,rfl,rfl,rfl⟩,z⟩
 .exists its.toList,r,⟨o,n,I.kIn a o b,c,hd,by simpa using d⟩
  have e:=r.length
  simp only[Vm]at e
  omega
theorem Inv.tuple(I:Inv X pins σ H s)(h:d5 X.K H a xs):∃its:⇑QJ,bA xs its/\IsTup s.heap a its.toArray/\xs.length<=QT:=by
 rcases h with h|⟨o,its,n,b,c,d,hz,r⟩
 .obtain⟨z,its,r,p⟩:=h.ok I.hok
  exact⟨its,r,p,z⟩
 .exists its.toList,r,⟨o,I.kIn a o b,c,n,by simpa using d⟩
  have e:=r.length
  simp only[Vm]at e
  omega
theorem Inv.list_inj(I:Inv X pins σ H s)(h:aD X.K H a xs)(h':aD X.K H a ys):xs=ys:=by
 obtain⟨c,r,⟨o,n,e,_,_,d⟩,_⟩:=I.list h
 obtain⟨b,i,⟨o',j,f,_,_,g⟩,_⟩:=I.list h'
 rw[e]at f;cases f
 rw[d]at g
 injection g with d1 _
 have:c=b:=by simpa using congrArg Array.toList d1
 subst this
 exact r.inj i
end
abbrev Cx.wish(X:Cx)(E:QJ->QL->Prop):Cx:={X with xe:=E}
abbrev Cx.nox(X:Cx):Cx:=X.wish fun _ _=>False
theorem Cx.Ok.wish{X:Cx}(ok:X.Ok)(E:QJ->QL->Prop):(X.wish E).Ok:=
 ⟨ok.mod,ok.kind,ok.glob,ok.blt,ok.above,ok.inj,ok.has,ok.cab,ok.hd,ok.frames,ok.stk,ok.exf,ok.bs,ok.bsz,ok.noex,ok.exfs,ok.funs,ok.frf⟩
theorem Cx.Ok.unwish{X:Cx}{E:QJ->QL->Prop}(ok:(X.wish E).Ok):X.Ok:=
 ⟨ok.mod,ok.kind,ok.glob,ok.blt,ok.above,ok.inj,ok.has,ok.cab,ok.hd,ok.frames,ok.stk,ok.exf,ok.bs,ok.bsz,ok.noex,ok.exfs,ok.funs,ok.frf⟩
section
variable {X:Cx}{pins:⇑(QI×QP)}{σ:St}{H:Hp}{s:QL}{E:QJ->QL->Prop}
theorem Inv.wish(I:Inv X pins σ H s)(E:QJ->QL->Prop):Inv (X.wish E) pins σ H s:=⟨I.ok.wish E,I.os,I.bare,I.base,I.loc,I.cell,I.free,I.freeC,I.pin,I.hok,I.len⟩
theorem Inv.unwish(I:Inv (X.wish E) pins σ H s):Inv X pins σ H s:=⟨I.ok.unwish,I.os,I.bare,I.base,I.loc,I.cell,I.free,I.freeC,I.pin,I.hok,I.len⟩
theorem SP.unwish{D:Ends}{f:Flow}{b:QL}(h:SP (X.wish E) pins D f b):SP X pins D f b:=by
 cases f with
 |next=>obtain⟨a,H',I,q⟩:=h;exact⟨a,H',I.unwish,q⟩
 |brk=>obtain⟨a,H',I,q⟩:=h;exact⟨a,H',I.unwish,q⟩
 |cont=>obtain⟨a,H',I,q⟩:=h;exact⟨a,H',I.unwish,q⟩
 |ret u=>obtain⟨v,a,H',I,r,q⟩:=h;exact⟨v,a,H',I.unwish,r,q⟩
theorem vt.nox{st:⇑QU}{t:TS}(h:vt X.nox st t):vt X st t:=fun pins s σ H D I hw=>
 RX (h pins s σ H D (I.wish _) hw) (fun _ _ q=>q.unwish) fun _ _ z=>R9 z
end
section
variable {X:Cx}{st:QU}{rest:⇑QU}{t u:TS}{e:QQ}{te:TE}{pos:Q9}
def aQ:TS:=fun D a H=>D.nx a H
def ax(t u:TS):TS:=fun D a H=>t {D with nx:=u D} a H
theorem KW:vt X [] aQ:=fun _ _ a H _ I h=>Uz ⟨a,H,I,h⟩
theorem bh(c:PS X st t)(d:vt X rest u):vt X (st::rest) (ax t u):=by
 intro a s e H D I h
 refine wpAny_execs_cons (cf (c a s e H {D with nx:=u D} I h) fun f g q=>?_)
 cases f with
 |next=>
  obtain⟨b,i,I',q⟩:=q
  exact d a g b i D I' q
 |ret v=>exact q
 |brk=>exact q
 |cont=>exact q
theorem c6(b:PS X st t):vt X [st] t:=by
 intro a s c H D I h
 refine wpAny_execs_cons (cf (b a s c H D I h) fun f d q=>?_)
 cases f with
 |next=>exact Uz q
 |ret v=>exact q
 |brk=>exact q
 |cont=>exact q
theorem Inv.quiet{pins:⇑(QI×QP)}{σ:St}{H:Hp}{s:QL}(I:Inv X pins σ H s):interactive X.env=ξ:=by simp[interactive,I.ok.kind]
def bI(te:TE):TS:=fun D a H=>te a H fun _ b=>D.nx a b
theorem KO(he:PE X e te)(c:swapsWith e none pos.line X.env=pure false:=by rfl):PS X (.Expr e pos) (bI te):=by
 intro a s b H D I h
 exact wpAny_Expr_any (cf (he a s b H _ I h) fun v g ⟨x,d,I1,i,f⟩=>⟨b,d,I1,f⟩) I.quiet c
def aS(te:TE):TS:=fun D a H=>te a H D.rt
theorem LM(he:PE X e te):PS X (.Return (ψ e) pos) (aS te):=by
 intro a s b H D I h
 exact wpAny_Return_some (cf (he a s b H _ I h) fun v g ⟨x,c,I1,d,f⟩=>⟨x,b,c,I1,d,f⟩)
def bj(c:TT)(t u:TS):TS:=fun D a H=>c a H fun b d=>if b=ω then t D a d else u D a d
theorem O7{c:QQ}{a b:⇑QU}{g:TT}(l:PT X c g)(ha:vt X a t)(m:vt X b u):PS X (.If c a b pos) (bj g t u):=by
 intro e s f H D I h
 refine wpAny_If (cf (l e s f H _ I h) fun d i ⟨j,I1,k⟩=>?_)
 cases d with
 |true=>exact ha e i f j D I1 k
 |false=>exact m e i f j D I1 k
end
abbrev TG:=V->St->Hp->(St->Hp->Prop)->Prop
abbrev MA:=⇑V->St->Hp->(St->Hp->Prop)->Prop
noncomputable def PG(X:Cx)(target:QQ)(t:TG):Prop:=
 ∀(a:⇑(QI×QP))(s:QL)(c:St)(H:Hp)(v:V)(u:QJ)(Q:St->Hp->Prop),Inv X a c H s->RelV v u->t v c H Q->
  QM (model X.prog X.w) X.A (assign target X.env u) (fun _ e=>∃b d,Inv X a b d e/\Q b d) X.xe s
noncomputable def NV(X:Cx)(ts:⇑QQ)(t:MA):Prop:=
 ∀(a:⇑(QI×QP))(s:QL)(c:St)(H:Hp)(d:⇑V)(e:⇑QJ)(Q:St->Hp->Prop),Inv X a c H s->bA d e->t d c H Q->
  QM (model X.prog X.w) X.A (assignInOrder ((UR ts X.env).map (·.2)) e) (fun _ g=>∃b f,Inv X a b f g/\Q b f) X.xe s
abbrev Qk:=V->V->Hp->VK->Prop
noncomputable def Qv(X:Cx)(c:Operator)(t:Qk):Prop:=
 ∀(a:⇑(QI×QP))(s:QL)(b:St)(H:Hp)(x y:V)(v u:QJ)(Q:VK),Inv X a b H s->RelV x v->RelV y u->t x y H Q->
  QM (model X.prog X.w) X.A (S9 c v u) (EP X a b Q) X.xe s
section
variable {X:Cx}{pos:Q9}
def af(i:Nat):TG:=fun v a H Q=>Q (a.set i (ψ v)) H
theorem KS{i:Nat}{x:QH}(b:X.N.Nodup)(hi:X.N[i]?=ψ x)(hx:Loc X.env.scope x)(c:X.fn x=ω\/X.env.scope.names.lookup x=ψ .local:=by first|exact .inl rfl|exact .inr rfl|assumption):PG X (.Name x pos) (af i):=by
 intro a s d H v u Q I r h
 exact wpAny_assign_Name (oS I b hi hx r (fun e I'=>⟨_,H,I',h⟩) c)
def dJ:MA:=fun a b H Q=>a=[]/\Q b H
def aR(t:TG)(u:MA):MA:=fun b c H Q=>∃v r,b=v::r/\t v c H fun a d=>u r a d Q
theorem JY:NV X [] dJ:=by
 intro a s b H c d Q I r h
 obtain⟨e,h⟩:=h
 subst e
 cases r
 exact assignInOrder_nil ⟨b,H,I,h⟩
theorem GB{e:QQ}{es:⇑QQ}{t:TG}{u:MA}(c:PG X e t)(d:NV X es u)
  (f:(UR (e::es) X.env).map (·.2)=assign e X.env::(UR es X.env).map (·.2):=by rfl):NV X (e::es) (aR t u):=by
 intro a s g H n o Q I r h
 obtain⟨v,p,i,h⟩:=h
 subst i
 cases r with
 |cons r j=>
  rw[f]
  refine assignInOrder_cons (cf (c a s g H _ _ _ I r h) fun _ k ⟨b,l,I1,m⟩=>?_)
  exact d a k b l _ _ Q I1 j m
def dN(K:QK)(n:Nat)(t:MA):TG:=fun v b H Q=>∃a xs,v=.ref a/\d5 K H a xs/\xs.length=n/\t xs b H Q
theorem LG{es:⇑QQ}{k:Nat}{t:MA}{n:Nat}(i:X.calm=ω)(h:NV X es t)
  (hn:(UR es X.env).length=n:=by rfl) (d:(UR es X.env).findIdx? (·.1)=none:=by rfl):PG X (.Tuple es k pos) (dN X.K n t):=by
 intro c s f H v u Q I r hw
 obtain⟨a,xs,j,l,m,hw⟩:=hw
 subst j
 cases r
 obtain⟨p,g,q,y⟩:=I.tuple l
 refine assign_Tuple_tuple (I.ok.hd i) q (by simp[hn,<-m,g.length]) d fun w x=>?_
 have I1:Inv X c f H {s with heap:=w}:=I.kept (t':=s.toks) fun b o e=>x b o (Rn (Rc e)) e
 exact h c _ f H xs _ Q I1 (by simpa using g) hw
def aV(b:TE)(g:TG):TS:=fun D a H=>b a H fun x c=>g x a c D.nx
theorem Ji{i:Nat}{x:QH}{e:QQ}{c:TE}{a:Q9}(d:X.N.Nodup)(hi:X.N[i]?=ψ x)(hx:Loc X.env.scope x)(he:PE X e c)(f:swapsWith e (ψ (.Name x a)) pos.line X.env=pure false:=by rfl)(g:X.fn x=ω\/X.env.scope.names.lookup x=ψ .local:=by first|exact .inl rfl|exact .inr rfl|assumption):
  PS X (.Assign [.Name x a] e pos) (aV c (af i)):=by
 intro b s j H D I h
 refine wpAny_Assign_Name (cf (he b s j H _ I h) fun v n ⟨y,k,I1,l,m⟩=>?_) f
 exact oS I1 d hi hx l (fun o I2=>⟨_,k,I2,m⟩) g
def DC(i:Nat)(b:TE)(c:Qk):TS:=fun D a H=>∃x,a[i]?=ψ (ψ x)/\b a H fun y d=>c x y d fun z e=>D.nx (a.set i (ψ z)) e
theorem NF{i:Nat}{x:QH}{e:QQ}{p:TE}{n:Operator}{q:Qk}{f:Q9}(C:X.N.Nodup)(hi:X.N[i]?=ψ x)(hx:Loc X.env.scope x)(he:PE X e p)(E:Qv X n q)(F:X.fn x=ω\/X.env.scope.names.lookup x=ψ .local:=by first|exact .inl rfl|exact .inr rfl|assumption):
  PS X (.AugAssign (.Name x f) n e pos) (DC i p q):=by
 intro a s t H D I h
 obtain⟨v,G,h⟩:=h
 obtain⟨m,hn,J⟩:=I.loc
 have o:NH X.env.scope x:=by rcases hx with k|k;exact .inl k;exact .inr (.inl k)
 obtain⟨u,r,l⟩:=J i x v hi G o
 refine wpAny_AugAssign_Name ?_
 have B:QM (model X.prog X.w) X.A (eval e X.env) (fun w g=>QM (model X.prog X.w) X.A (S9 n u w) (fun r j=>QM (model X.prog X.w) X.A (storeName X.env x r) (fun _=>SP X a D .next) X.xe j) X.xe g) X.xe s:=by
  refine cf (he a s t H _ I h) fun w K ⟨y,L,I1,M,O⟩=>?_
  refine cf (E a K t L v y u w _ I1 r M O) fun z T ⟨U,P,I2,Q,R⟩=>?_
  exact oS I2 C hi hx Q (fun V I3=>⟨_,P,I3,R⟩) F
 rcases l with⟨b,hm⟩|⟨b,c,S,d⟩
 .exact wpAny_loadName_local I.ok.kind b hn hm B
 .rcases b with b|b
  .exact wpAny_loadName_cell I.ok.kind b S d B
  .rcases hx with k|k
   .have:X.env.scope.names.lookup x=ψ .free:=b
    rw[k]at this;cases this
   .have:X.env.scope.names.lookup x=ψ .free:=b
    rw[k]at this;cases this
end
section
variable {X:Cx}{pos:Q9}
noncomputable def DX(c:TT)(h:TS):TS:=fun D a H=>∃W:Nat->St->Hp->Prop,(∃m,W m a H)/\∀m a H,W m a H->
 c a H fun b e=>if b=ω then ∃N:St->Hp->Prop,(∀d f,N d f->∃g,g<m/\W g d f)/\h {D with nx:=N,ct:=N,bk:=D.nx} a e else D.nx a e
theorem BH{c:QQ}{g:⇑QU}{r:TT}{t:TS}(u:PassesOwn (model X.prog X.w) X.A X.env X.xe)(C:PT X c r)(E:vt X g t):PS X (.While c g [] pos) (DX r t):=by
 intro a s F H D I h
 obtain⟨W,⟨G,J⟩,i⟩:=h
 refine wpAny_While (codeAny_whileLoop (fun n K=>∃j x,Inv X a j x K/\W n j x) ?_ G ⟨F,H,I,J⟩)
 rintro n L ⟨e,y,I1,M⟩
 refine Ub u (cf (C a L e y _ I1 (i n e y M)) fun b O ⟨z,I2,l⟩=>?_)
 cases b with
 |true=>
  obtain⟨N,B,l⟩:=l
  rw[if_pos rfl]
  refine Ub u (cf (E a O e z _ I2 l) fun f P m=>?_)
  cases f with
  |next=>
   obtain⟨d,k,I3,o⟩:=m
   obtain⟨p,hm,q⟩:=B d k o
   exact⟨p,hm,d,k,I3,q⟩
  |cont=>
   obtain⟨d,k,I3,o⟩:=m
   obtain⟨p,hm,q⟩:=B d k o
   exact⟨p,hm,d,k,I3,q⟩
  |brk=>exact m
  |ret v=>exact m
 |false=>
  rw[if_neg RA]
  exact Uz ⟨e,z,I2,l⟩
end
structure It where
 go:Nat->Hp->Prop
 yld:Nat->Hp->V->Hp->Prop
 stop:Nat->Hp->Prop
def qf(X:Cx)(a:⇑(QI×QP))(H:Hp)(b:QI):Prop:=
 H b=χ/\b≠X.env.locals/\b∉X.fs/\(b∈X.ex\/X.s₀.heap.objs.size<=b)/\(∀x c,X.env.cells.lookup x=ψ c->c≠b)/\∀p∈X.pn++a,p.1≠b
theorem Inv.fpOk{X:Cx}{pins:⇑(QI×QP)}{σ:St}{H H':Hp}{s:QL}{b:QI}(I:Inv X pins σ H s)(a:s.heap.objs.size<=b)(hn:H' b=χ):qf X pins H' b:=by
 refine⟨hn,Sf (Rq I.lt a),I.nofs a,.inr (QV I.sz a),fun x c e z=>?_,fun p hp z=>?_⟩
 .obtain⟨v,q⟩:=I.cell x c e
  exact absurd (Rq q.lt (by rw[z];exact a)) (Sn _)
 .exact absurd (Rq (Rc (I.pin p hp).1) (by rw[z];exact a)) (Sn _)
structure Turn(P:Q0)(w:QX)(K:QK)(tg:QQ)(J:It)(fp:⇑QI)(it:QI)(tn:Nat->QS->Prop):Prop where
 mem:it∈fp
 obj:∀i h,tn i h->∀b∈fp,∃o,h.get? b=ψ o/\∀v,o.data≠.cell v
 keep:∀i h h',tn i h->(∀b∈fp,∀o,h.get? b=ψ o->h'.get? b=ψ o)->tn i h'
 item:∀(X:Cx),X.prog=P->X.w=w->X.K=K->X.calm=ω->∀(i:Nat)(pins:⇑(QI×QP))(s:QL)(σ:St)(H:Hp)(E:QJ->QL->Prop),Inv X pins σ H s->(∀b∈fp,qf X pins H b)->tn i s.heap->J.go i H->
  QM (model P w) X.A (R5 (.ref it)) (fun r s1=>∃u,r=ψ u/\
   QM (model P w) X.A (letOwnedTupleGo tg (.ref it) u) (fun _ s2=>∃x H',Inv X pins σ H' s2/\RelV x u/\J.yld i H x H'/\tn (i+1) s2.heap/\∀b∈fp,H' b=χ) E s1) E s
 done:∀(X:Cx),X.prog=P->X.w=w->X.K=K->X.calm=ω->∀(i:Nat)(pins:⇑(QI×QP))(s:QL)(σ:St)(H:Hp)(E:QJ->QL->Prop),Inv X pins σ H s->(∀b∈fp,qf X pins H b)->tn i s.heap->J.stop i H->
  QM (model P w) X.A (R5 (.ref it)) (fun r s1=>r=χ/\Inv X pins σ H s1) E s
 self:∀(A:Q6)(i:Nat)(s:QL)(Q:QJ->QL->Prop)(E:QJ->QL->Prop),tn i s.heap->Q (.ref it) s->QM (model P w) A (pyIter (.ref it)) Q E s
abbrev TI:=St->Hp->(It->Hp->Prop)->Prop
noncomputable def Qw(X:Cx)(a:⇑(QI×QP))(i:St)(j:QQ)(R:It->Hp->Prop)(c:QJ)(e:QL):Prop:=
 ∃(f:QI)(g:⇑QI)(h:Nat->QS->Prop)(J:It)(d:Hp),c=.ref f/\Inv X a i d e/\Turn X.prog X.w X.K j J g f h/\h 0 e.heap/\(∀b∈g,qf X a d b)/\R J d
noncomputable def PI(X:Cx)(c iter:QQ)(d:TI):Prop:=
 ∀(a:⇑(QI×QP))(s:QL)(b:St)(H:Hp)(R:It->Hp->Prop),Inv X a b H s->d b H R->
  QM (model X.prog X.w) X.A (eval iter X.env) (fun v e=>QM (model X.prog X.w) X.A (pyIter v) (Qw X a b c R) X.xe e) X.xe s
theorem B5{M:Model}{A:Q6}{E:QJ->QL->Prop}{s:QL}{b:QQ}{it:QI}{u:QJ}{o:QP}{n:String}{vs:Array QJ}{Q:Unit->QL->Prop}(c:s.heap.get? it=ψ o)(d:o.cls=.type n)(hd:o.data=.fields vs)
  (hn:["enumerate","zip","dict_itemiterator","dict_reverseitemiterator","odict_iterator","itertools.zip_longest","itertools.pairwise"].contains n=ξ) (a:Q () s):QM M A (letOwnedTupleGo b (.ref it) u) Q E s:=by
 unfold letOwnedTupleGo
 cases b<;>first
  |exact Q8 a
  |(cases u<;>first
    |exact Q8 a
    | (refine QN (wpAny_load c ?_)
       rw[d,hd]
       show QM M A (if(["enumerate","zip","dict_itemiterator","dict_reverseitemiterator","odict_iterator","itertools.zip_longest","itertools.pairwise"].contains n&&vs[0]?==ψ (RF _))=ω then _ else _) Q E s
       rw[if_neg (by intro h;rw[hn,TL]at h;cases h)]
       exact Q8 a))
def Fz(K:QK)(a:QI):It:=
 ⟨fun i H=>∃xs x,aD K H a xs/\xs[i]?=ψ x,fun i H x b=>b=H/\∀xs,aD K H a xs->xs[i]?=ψ x,fun i H=>∃xs,aD K H a xs/\xs.length<=i⟩
def Gv(lo:Int)(n:Nat):It:=⟨fun i _=>i<n,fun i H x a=>a=H/\x=.int (lo+i),fun i _=>n<=i⟩
theorem Fk{P:Q0}{w:QX}{K:QK}{N:QQ}(a it:QI):Turn P w K N (Fz K a) [it] it (fun i h=>h.IsListIter it a i) where
 mem:=⋯
 obj:=fun i h st b g=>by
  have e:b=it:=by simpa using g
  subst e
  obtain⟨o,e,c,d⟩:=st
  exact⟨o,e,fun v z=>by rw[d]at z;cases z⟩
 keep:=fun i h l st k=>st.at fun o e=>k it ⋯ o e
 item:=by
  intro X q hw r L i f s M H E I m st t
  subst q hw r
  obtain⟨xs,x,n,y⟩:=t
  obtain⟨A,B,p,O⟩:=I.list n
  obtain⟨u,Q,R⟩:=B.get y
  obtain⟨C,D,S,F,G,J⟩:=m it ⋯
  refine wpAny_pyNext_list_item st p.isList (x:=u) (by simpa using Q) fun l j T=>?_
  have I1:Inv X f M H {s with heap:=l}:=I.turned (t':=s.toks) (fun b o g e=>(T.2 b g).trans e) C D F G J
  obtain⟨o,e,c,d⟩:=id j
  exact⟨u,rfl,B5 (s:={s with heap:=l}) e c d "^" ⟨x,H,I1,R,⟨rfl,fun ys U=>by rw[I.list_inj U n];exact y⟩,j,fun b g=>(m b g).1⟩⟩
 done:=by
  intro X q hw r L i f s M H E I m st t
  subst q hw r
  obtain⟨xs,n,y⟩:=t
  obtain⟨A,B,p,O⟩:=I.list n
  obtain⟨C,D,S,F,G,J⟩:=m it ⋯
  have W:=B.length
  exact wpAny_pyNext_list_end (I.ok.hd L) st p.isList "%" fun l V=>⟨rfl,I.turned (t':=s.toks) (fun b o g e=>V b o g e) C D F G J⟩
 self:=fun _ _ _ _ _ st h=>wpAny_pyIter_listiter st h
theorem DF{P:Q0}{w:QX}{K:QK}{C:QQ}(it:QI)(lo:Int)(n:Nat):Turn P w K C (Gv lo n) [it] it (fun i h=>IsRangeIter h it (lo+(i:Nat)*1) ((n:Int)-(i:Nat)) 1) where
 mem:=⋯
 obj:=fun i h st b c=>by
  have e:b=it:=by simpa using c
  subst e
  exact⟨_,st,fun v z=>by
   have D:UW _=Ud v:=z
   cases D⟩
 keep:=fun i h f st k=>k it ⋯ _ st
 item:=by
  intro X j hw l m i a s A H E I g st p
  subst j hw l
  obtain⟨q,r,F,u,x,y⟩:=g it ⋯
  have W:=Walks.range (prog:=X.prog) (w:=X.w) (I.ok.hd m) it lo 1 n
  refine W.item i s _ _ p st fun v f B G d J=>?_
  obtain⟨t,rfl⟩:=G
  have I1:Inv X a A H {s with heap:=f,toks:=B}:=I.turned (fun b o c e=>J b o (by simpa using c) e) q r u x y
  refine⟨_,rfl,B5 (s:={s with heap:=f,toks:=B}) (n:="range_iterator") d rfl rfl "^" ⟨.int (lo+i),H,I1,⟨t,?_⟩,⟨rfl,rfl⟩,d,fun b c=>(g b c).1⟩⟩
  rw[Vt]
 done:=by
  intro X j hw l m i a s A H E I g st p
  subst j hw l
  obtain⟨q,r,F,u,x,y⟩:=g it ⋯
  exact wpAny_pyNext_range_end (I.ok.hd m) st (by have:n<=i:=p;omega) fun f L=>⟨rfl,I.turned (t':=s.toks) (fun b o c e=>L b o c e) q r u x y⟩
 self:=fun _ _ _ _ _ st h=>wpAny_pyIter_rangeiter st h
section
variable {X:Cx}{tg:QQ}
def bL(K:QK)(c:TE):TI:=fun d H R=>c d H fun x b=>∃a,x=.ref a/\(∃xs,aD K b a xs)/\R (Fz K a) b
theorem K5{l:QQ}{f:TE}(g:PE X l f):PI X tg l (bL X.K f):=by
 intro c s i H R I h
 refine cf (g c s i H _ I h) fun v d ⟨x,j,I1,k,m⟩=>?_
 obtain⟨a,e,⟨xs,n⟩,q⟩:=m
 subst e
 cases k
 obtain⟨r,u,p,w⟩:=I1.list n
 refine Vi p.isList ?_
 refine⟨d.heap.objs.size,[d.heap.objs.size],_,_,j,rfl,I1.kept (t':=d.toks) fun b o e=>Rj _ e,Fk a _,⟨_,Rt _ rfl,rfl,rfl⟩,fun b t=>?_,q⟩
 have e:b=d.heap.objs.size:=by simpa using t
 subst e
 exact I1.fpOk (Q2 _) (I1.hok.fresh (Q2 _))
theorem AX{a:⇑(QI×QP)}{c:St}{H:Hp}{s:QL}{R:It->Hp->Prop}{E:QJ->QL->Prop}{lo hi:Int}{t u v:Tok}{d:Nat}(I:Inv X a c H s)(f:-(2 ^ 62)<=lo)(g:lo<2 ^ 62)(h:-(2 ^ 62)<=hi)(i:hi<2 ^ 62)
  (q:R (Gv lo (hi-lo).toNat) H):QM (model X.prog X.w) X.A (pyIter (.ref s.heap.objs.size)) (Qw X a c tg R) E {s with heap:=s.heap.push {cls:=.type "range",data:=.fields #[.int lo t,.int hi u,.int 1 v]},toks:=d}:=by
 refine wpAny_pyIter_range (aa6 ..) (small_one f g h i) ?_
 have I1:Inv X a c H {s with heap:=s.heap.push {cls:=.type "range",data:=.fields #[.int lo t,.int hi u,.int 1 v]},toks:=d}:=I.kept fun b o e=>Rj _ e
 refine⟨(s.heap.push {cls:=.type "range",data:=.fields #[.int lo t,.int hi u,.int 1 v]}).objs.size,[(s.heap.push {cls:=.type "range",data:=.fields #[.int lo t,.int hi u,.int 1 v]}).objs.size],_,_,H,rfl,
  I1.kept (t':=d) fun b o e=>Rj _ e,DF _ lo (hi-lo).toNat,?_,fun b j=>?_,q⟩
 .have k:lo+((0:Nat):Int)*1=lo:=⋯
  have l:(((hi-lo).toNat:Nat):Int)-((0:Nat):Int)=aaY lo hi 1:=by rw[rangeSize_one];split<;>omega
  show IsRangeIter _ _ (lo+((0:Nat):Int)*1) ((((hi-lo).toNat:Nat):Int)-((0:Nat):Int)) 1
  rw[k,l]
  exact Rt _ rfl
 .have e:b=(s.heap.push {cls:=.type "range",data:=.fields #[.int lo t,.int hi u,.int 1 v]}).objs.size:=by simpa using j
  subst e
  exact I1.fpOk (Q2 _) (I1.hok.fresh (Q2 _))
def sN(a:TA):TI:=fun b H R=>a b H fun c d=>∃j:Int,c=[.int j]/\-(2 ^ 62)<=j/\j<2 ^ 62/\R (Gv 0 j.toNat) d
def Hv(a:TA):TI:=fun b H R=>a b H fun c d=>∃i j:Int,c=[.int i,.int j]/\(-(2 ^ 62)<=i/\i<2 ^ 62/\-(2 ^ 62)<=j/\j<2 ^ 62)/\R (Gv i (j-i).toNat) d
theorem FQ{a:QQ}{f:TA}{p b:Q9}(g:Gl X "range")(hm:X.mg "range"=χ)(ha:PA X [a] f)(i:Q5 [a] X.env=[(false,eval a X.env)]:=by rfl):PI X tg (.Call (.Name "range" p) [a] [] b) (sN f):=by
 intro c s k H R I h
 refine Call_ (iE I g hm boot_range (TC (cf (ha b c s k H _ I h) fun o u ⟨v,w,I1,l,d⟩=>?_) i rfl))
 obtain⟨j,e,d,m,q⟩:=d
 subst e
 cases l with
 |cons r n=>
  cases n
  obtain⟨t,rfl⟩:=r
  exact call_range_1 (AX I1 "`" "`" d m (by simpa using q))
theorem F7{a b:QQ}{l:TA}{p c:Q9}(m:Gl X "range")(hm:X.mg "range"=χ)(ha:PA X [a,b] l)(n:Q5 [a,b] X.env=[(false,eval a X.env),(false,eval b X.env)]:=by rfl)(d:Q5 [b] X.env=[(false,eval b X.env)]:=by rfl):
  PI X tg (.Call (.Name "range" p) [a,b] [] c) (Hv l):=by
 intro f s o H R I h
 refine Call_ (iE I m hm boot_range (TC (cf (ha c f s o H _ I h) fun z A ⟨B,C,I1,u,g⟩=>?_) (by rw[n,d]) (by rw[d];rfl)))
 obtain⟨i,j,e,⟨g,v,w,x⟩,q⟩:=g
 subst e
 cases u with
 |cons r k=>
  cases k with
  |cons y k=>
   cases k
   obtain⟨t,rfl⟩:=r
   obtain⟨D,rfl⟩:=y
   exact call_range_2 (AX I1 g v w x q)
noncomputable def kb(f:TI)(g:TG)(h:TS):TS:=fun D a H=>f a H fun J j=>∃W:Nat->Nat->St->Hp->Prop,(∃m,W 0 m a j)/\∀i m a H,W i m a H->
 (J.stop i H/\D.nx a H)\/(J.go i H/\∃N:St->Hp->Prop,(∀b c,N b c->∃e,e<m/\W (i+1) e b c)/\∀x c,J.yld i H x c->g x a c fun d k=>h {D with nx:=N,ct:=N,bk:=D.nx} d k)
def uB(fp:⇑QI)(h:QS):⇑(QI×QP):=fp.filterMap fun b=>(h.get? b).map fun o=>(b,o)
theorem jM{fp:⇑QI}{h:QS}{b:QI}{o:QP}(a:b∈fp)(e:h.get? b=ψ o):(b,o)∈uB fp h:=Zv.mpr ⟨b,a,by rw[e];rfl⟩
theorem EO{fp:⇑QI}{h:QS}{p:QI×QP}(a:p∈uB fp h):p.1∈fp/\h.get? p.1=ψ p.2:=by
 obtain⟨b,c,e⟩:=Zv.mp a
 cases q:h.get? b with
 |none=>rw[q]at e;cases e
 |some o=>
  rw[q]at e
  have d:(b,o)=p:=RE e
  subst d
  exact⟨c,q⟩
theorem Inv.pinned{pins:⇑(QI×QP)}{σ:St}{H:Hp}{s:QL}{fp:⇑QI}(I:Inv X pins σ H s)(f:∀b∈fp,qf X pins H b)(g:∀b∈fp,∃o,s.heap.get? b=ψ o/\∀v,o.data≠.cell v):Inv X (pins++uB fp s.heap) σ H s:=
 I.pins_of fun p hp=>(Rr.mp hp).elim (fun z=>I.pin p (SS _ z)) fun z=>by
  obtain⟨a,e⟩:=EO z
  obtain⟨h,f1,f2,_⟩:=f p.1 a
  obtain⟨o,c,d⟩:=g p.1 a
  rw[e]at c;cases c
  exact⟨e,h,f1,f2,d⟩
theorem Inv.unpinned{pins pl:⇑(QI×QP)}{σ:St}{H:Hp}{s:QL}(I:Inv X (pins++pl) σ H s):Inv X pins σ H s:=I.pins_of fun p hp=>I.pin p (SS _ (YZ _ hp))
theorem MQ{iter:QQ}{y:⇑QU}{Y:TI}{g:TG}{Z:TS}{O:Q9}(C:PassesOwn (model X.prog X.w) X.A X.env X.xe)(hc:X.calm=ω)(hi:PI X tg iter Y)(hg:PG X tg g)(j:vt X y Z)
  (hs:∀x,foldedSetIterable iter X.env x=pure x:=by intro _;rfl):PS X (.For tg iter y [] O) (kb Y g Z):=by
 intro a s σ H D I h
 refine wpAny_For (cf (hi a s σ H _ I h) fun v s1 h1=>cf h1 fun α s2 h2=>?_) hs
 obtain⟨it,E,tn,J,H2,e,I2,T,P,f2,W,⟨m0,w0⟩,F⟩:=h2
 subst e
 have k:∀{t:Hp},(∀b∈E,t b=χ)->∀b∈E,qf X a t b:=fun hn b j=>⟨hn b j,(f2 b j).2⟩
 refine codeAny_forLoop_any (fun n s'=>∃i l t,Inv X a l t s'/\tn i s'.heap/\(∀b∈E,t b=χ)/\W i n l t) ?_ m0 ⟨0,σ,H2,I2,P,fun b j=>(f2 b j).1,w0⟩
 rintro n s3 ⟨i,p,M,I3,G,K,w3⟩
 rcases F i n p M w3 with⟨stop,qn⟩|⟨go,N,hN,step⟩
 .refine Ub C (cf (T.done X rfl rfl rfl hc i a s3 p M X.xe I3 (k K) G stop) fun r s4 ⟨Q,I4⟩=>?_)
  subst Q
  exact Uz ⟨p,M,I4,qn⟩
 .refine Ub C (cf (T.item X rfl rfl rfl hc i a s3 p M X.xe I3 (k K) G go) fun r s4 ⟨u,Q,h4⟩=>?_)
  subst Q
  refine Ub C (cf h4 fun _ s5 ⟨x,H5,I5,r5,y5,B,R⟩=>?_)
  have S:=I5.pinned (k R) (T.obj _ _ B)
  refine Ub C (cf (hg _ s5 p H5 x u _ S r5 (step x H5 y5)) fun _ s6 ⟨U,H6,I6,q6⟩=>?_)
  refine Ub C (cf (j _ s6 U H6 _ I6 q6) fun f V z=>?_)
  have again:∀{c:St}{q:Hp},Inv X (a++uB E s5.heap) c q V->N c q->∃m,m<n/\∃i l t,Inv X a l t V/\tn i V.heap/\(∀b∈E,t b=χ)/\W i m l t:=fun {c q} I7 L=>by
   obtain⟨m',hm,w7⟩:=hN c q L
   refine⟨m',hm,i+1,c,q,I7.unpinned,T.keep _ _ _ B fun b j o e=>(I7.pin (b,o) (SS _ (SS _ (jM j e)))).1,fun b j=>?_,w7⟩
   obtain⟨o,e,d⟩:=T.obj _ _ B b j
   exact(I7.pin (b,o) (SS _ (SS _ (jM j e)))).2.1
  cases f with
  |next=>obtain⟨c,q,I7,L⟩:=z;exact again I7 L
  |cont=>obtain⟨c,q,I7,L⟩:=z;exact again I7 L
  |brk=>obtain⟨c,q,I7,z⟩:=z;exact⟨c,q,I7.unpinned,z⟩
  |ret v=>obtain⟨x7,c,q,I7,r7,z⟩:=z;exact⟨x7,c,q,I7.unpinned,r7,z⟩
end
theorem HZ{K:QK}{a:QI}{xs:⇑V}{g:TG}{k:TS}{D:Ends}{b:St}{H:Hp}(c:Nat->St->Hp->Prop)(n:c 0 b H)(o:∀i b H,i<=xs.length->c i b H->aD K H a xs)
  (r:∀i x b H,xs[i]?=ψ x->c i b H->g x b H fun d j=>k {D with nx:=c (i+1),ct:=c (i+1),bk:=D.nx} d j) (hd:∀b H,c xs.length b H->D.nx b H):
  ∃W:Nat->Nat->St->Hp->Prop,(∃m,W 0 m b H)/\∀i m b H,W i m b H->
   ((Fz K a).stop i H/\D.nx b H)\/((Fz K a).go i H/\∃N:St->Hp->Prop,(∀f H',N f H'->∃l,l<m/\W (i+1) l f H')/\∀x H',(Fz K a).yld i H x H'->g x b H' fun d j=>k {D with nx:=N,ct:=N,bk:=D.nx} d j):=by
 exists fun i m b H=>m=xs.length-i/\i<=xs.length/\c i b H,⟨xs.length,⋯,RL _,n⟩
 rintro i m b H ⟨rfl,hi,p⟩
 have q:=o i b H hi p
 by_cases h:i<xs.length
 .refine .inr ⟨⟨xs,xs[i],q,by simp[h]⟩,c (i+1),fun f H' s=>⟨xs.length-(i+1),by omega,rfl,h,s⟩,fun x H' y=>?_⟩
  obtain⟨e,y⟩:=y
  subst e
  exact r i x b _ (y xs q) p
 .have e:i=xs.length:=by omega
  subst e
  exact .inl ⟨⟨xs,q,Q2 _⟩,hd b H p⟩
theorem rD{lo:Int}{n:Nat}{g:TG}{j:TS}{D:Ends}{a:St}{H:Hp}(b:Nat->St->Hp->Prop)(l:b 0 a H)
  (o:∀i a H,i<n->b i a H->g (.int (lo+i)) a H fun c h=>j {D with nx:=b (i+1),ct:=b (i+1),bk:=D.nx} c h) (hd:∀a H,b n a H->D.nx a H):
  ∃W:Nat->Nat->St->Hp->Prop,(∃m,W 0 m a H)/\∀i m a H,W i m a H->
   ((Gv lo n).stop i H/\D.nx a H)\/((Gv lo n).go i H/\∃N:St->Hp->Prop,(∀d H',N d H'->∃k,k<m/\W (i+1) k d H')/\∀x H',(Gv lo n).yld i H x H'->g x a H' fun c h=>j {D with nx:=N,ct:=N,bk:=D.nx} c h):=by
 exists fun i m a H=>m=n-i/\i<=n/\b i a H,⟨n,⋯,RL _,l⟩
 rintro i m a H ⟨rfl,hi,p⟩
 by_cases f:i<n
 .refine .inr ⟨f,b (i+1),fun d H' q=>⟨n-(i+1),by omega,rfl,f,q⟩,fun x H' y=>?_⟩
  obtain⟨e,y⟩:=y
  subst e y
  exact o i a _ f p
 .have e:i=n:=by omega
  subst e
  exact .inl ⟨Q2 _,hd a H p⟩
abbrev R2:=V->V->Hp->VK->Prop
noncomputable def fA(X:Cx)(f:QJ->QJ->Sem QJ)(r:R2):Prop:=
 ∀(a:⇑(QI×QP))(s:QL)(b:St)(H:Hp)(x y:V)(v u:QJ)(Q:VK),Inv X a b H s->RelV x v->RelV y u->r x y H Q->
  QM (model X.prog X.w) X.A (f v u) (EP X a b Q) X.xe s
noncomputable def Ql(X:Cx)(f:QJ->Sem QJ)(r:V->Hp->VK->Prop):Prop:=
 ∀(a:⇑(QI×QP))(s:QL)(b:St)(H:Hp)(x:V)(v:QJ)(Q:VK),Inv X a b H s->RelV x v->r x H Q->
  QM (model X.prog X.w) X.A (f v) (EP X a b Q) X.xe s
noncomputable def eB(X:Cx)(f:QJ)(r:⇑V->Hp->VK->Prop):Prop:=
 ∀(a:⇑(QI×QP))(s:QL)(b:St)(H:Hp)(xs:⇑V)(c:⇑QJ)(Q:VK),Inv X a b H s->bA xs c->r xs H Q->
  QM (model X.prog X.w) X.A (call f c) (EP X a b Q) X.xe s
def az(r:R2)(b c:TE):TE:=fun a H Q=>b a H fun x d=>c a d fun y e=>r x y e Q
def O2(r:V->Hp->VK->Prop)(a:TE):TE:=fun b H Q=>a b H fun x c=>r x c Q
def rI(C:Int->Int->Prop)(g:Int->Int->V):R2:=fun x y H Q=>∃i j,x=.int i/\y=.int j/\C i j/\Q (g i j) H
def CI(g:Int->Int->V):R2:=fun x y H Q=>∃i j,x=.int i/\y=.int j/\Q (g i j) H
def rU(g:Int->V):V->Hp->VK->Prop:=fun x H Q=>∃i,x=.int i/\Q (g i) H
section
variable {X:Cx}{a b c:QQ}{ta tb tc:TE}{pos:Q9}
theorem Mf(ha:PE X a ta)(l:PE X b tb){c:⇑(QI×QP)}{s:QL}{d:St}{H:Hp}{R:V->V->Hp->Prop}(I:Inv X c d H s)
  (h:ta d H fun x k=>tb d k fun y e=>R x y e) {Q:QJ->QL->Prop}{f:QJ->QJ->Sem QJ}
  (m:∀v u j x y e,Inv X c d e j->RelV x v->RelV y u->R x y e->QM (model X.prog X.w) X.A (f v u) Q X.xe j):
  QM (model X.prog X.w) X.A (eval a X.env) (fun v g=>QM (model X.prog X.w) X.A (eval b X.env) (fun u i=>QM (model X.prog X.w) X.A (f v u) Q X.xe i) X.xe g) X.xe s:=by
 refine cf (ha c s d H _ I h) fun v n ⟨x,k,I1,o,p⟩=>?_
 refine cf (l c n d k _ I1 p) fun u j ⟨y,e,I2,q,r⟩=>?_
 exact m v u j x y e I2 o q r
theorem OM{d:Operator}{r:R2}(e:fA X (Sj d) r)(ha:PE X a ta)(f:PE X b tb):PE X (.BinOp a d b pos) (az r ta tb):=by
 intro c s g H Q I h
 exact wpAny_BinOp (Mf ha f I h fun v u i x y j I2 k l q=>e c i g j x y v u Q I2 k l q)
theorem Po{c:UnaryOp}{r:V->Hp->VK->Prop}(e:Ql X (unaryOp c) r)(ha:PE X a ta):PE X (.UnaryOp c a pos) (O2 r ta):=by
 intro b s d H Q I h
 exact UnaryOp_ (cf (ha b s d H _ I h) fun v f ⟨x,g,I1,i,j⟩=>e b f d g x v Q I1 i j)
theorem OO{f:QJ->QJ->Sem QJ}{C:Int->Int->Prop}{g:Int->Int->Int}
  (rule:∀(i j:Int)(t u:Tok)(s:QL)(Q:QJ->QL->Prop)(E:QJ->QL->Prop),C i j->Q (.int (g i j) s.toks) {s with toks:=s.toks+1}->QM (model X.prog X.w) X.A (f (.int i t) (.int j u)) Q E s):
  fA X f (rI C fun i j=>.int (g i j)):=by
 intro a s k H x y v u Q I b c h
 obtain⟨i,j,rfl,rfl,d,q⟩:=h
 obtain⟨t,rfl⟩:=b
 obtain⟨e,rfl⟩:=c
 exact rule i j t e s _ _ d ⟨.int (g i j),H,I.tok _,⟨_,rfl⟩,q⟩
theorem Jz{f:QJ->QJ->Sem QJ}{g:Int->Int->Int}
  (rule:∀(i j:Int)(t u:Tok)(s:QL)(Q:QJ->QL->Prop)(E:QJ->QL->Prop),Q (.int (g i j) s.toks) {s with toks:=s.toks+1}->QM (model X.prog X.w) X.A (f (.int i t) (.int j u)) Q E s):
  fA X f (CI fun i j=>.int (g i j)):=by
 intro a s e H x y v u Q I b c h
 obtain⟨i,j,rfl,rfl,q⟩:=h
 obtain⟨t,rfl⟩:=b
 obtain⟨d,rfl⟩:=c
 exact rule i j t d s _ _ ⟨.int (g i j),H,I.tok _,⟨_,rfl⟩,q⟩
theorem Kg{f:QJ->QJ->Sem QJ}{g:Int->Int->Bool}
  (rule:∀(i j:Int)(t u:Tok)(s:QL)(Q:QJ->QL->Prop)(E:QJ->QL->Prop),Q (.bool (g i j)) s->QM (model X.prog X.w) X.A (f (.int i t) (.int j u)) Q E s):
  fA X f (CI fun i j=>.bl (g i j)):=by
 intro a s e H x y v u Q I b c h
 obtain⟨i,j,rfl,rfl,q⟩:=h
 obtain⟨t,rfl⟩:=b
 obtain⟨d,rfl⟩:=c
 exact rule i j t d s _ _ ⟨.bl (g i j),H,I,rfl,q⟩
def PR(i j:Int):Prop:=0<=j/\j<=1000000/\i.natAbs<2 ^ 64
def JD(i j:Int):Prop:=(-(2 ^ 64)<i/\i<2 ^ 64)\/(-(2 ^ 64)<j/\j<2 ^ 64)
theorem JD.ok{i j:Int}(h:JD i j):IntMulOk i j:=by
 rcases h with⟨h1,a⟩|⟨h1,a⟩
 .exact .of_left (intBits_le_64 h1 a)
 .exact .of_right (intBits_le_64 h1 a)
theorem MY:fA X (Sj .Add) (CI fun i j=>.int (i+j)):=Jz fun _ _ _ _ _ _ _ q=>add_int q
theorem Np:fA X (Sj .Sub) (CI fun i j=>.int (i-j)):=Jz fun _ _ _ _ _ _ _ q=>sub_int q
theorem M5:fA X (Sj .Mod) (rI (fun _ j=>0<j) fun i j=>.int (i%j)):=OO fun i j _ _ _ _ _ a q=>by
 have b:(0:Int)<j:=a
 exact mod_int' "`" (by rw[Int.fmod_eq_emod_of_nonneg i "`"];exact q)
theorem Kv:fA X (S9 .Add) (CI fun i j=>.int (i+j)):=Jz fun _ _ _ _ _ _ _ q=>iadd_int q
theorem Kk:fA X (S9 .Sub) (CI fun i j=>.int (i-j)):=Jz fun _ _ _ _ _ _ _ q=>isub_int q
theorem QC{f:QJ->Sem QJ}{g:Int->Int}
  (rule:∀(i:Int)(t:Tok)(s:QL)(Q:QJ->QL->Prop)(E:QJ->QL->Prop),Q (.int (g i) s.toks) {s with toks:=s.toks+1}->QM (model X.prog X.w) X.A (f (.int i t)) Q E s):
  Ql X f (rU fun i=>.int (g i)):=by
 intro a s c H x v Q I b h
 obtain⟨i,rfl,q⟩:=h
 obtain⟨t,rfl⟩:=b
 exact rule i t s _ _ ⟨.int (g i),H,I.tok _,⟨_,rfl⟩,q⟩
theorem LV:Ql X (unaryOp .USub) (rU fun i=>.int (-i)):=QC fun _ _ _ _ _ q=>neg_int q
end
noncomputable def Pa:V->V->Bool
 |.non,.non=>true | .non,.int _=>true | .int _,.non=>true | .non,.bl _=>true | .bl _,.non=>true | .non,.str _=>true | .str _,.non=>true
 |.int _,.int _=>true | .bl _,.bl _=>true | .str _,.str _=>true | .byt _,.byt _=>true
 |.int _,.str _=>true | .str _,.int _=>true | .bl _,.str _=>true | .str _,.bl _=>true
 |_,_=>false
def fS:R2:=fun x y H Q=>Pa x y=ω/\Q (.bl (decide (x=y))) H
def Cp:R2:=fun x y H Q=>Pa x y=ω/\Q (.bl (!decide (x=y))) H
theorem EA{i j:Int}:decide (V.int i=V.int j)=(i==j):=by
 rw[RZ]
 simp
theorem G6{i j:Bool}:decide (V.bl i=V.bl j)=(i==j):=by
 rw[RZ]
 simp
theorem Es{i j:QH}:decide (V.str i=V.str j)=(i==j):=by
 rw[RZ]
 simp
theorem Ei{i j:Array UInt8}:decide (V.byt i=V.byt j)=(i.toList==j.toList):=by
 rw[RZ]
 cases i
 cases j
 simp
section
variable {X:Cx}{a b c:QQ}{ta tb tc:TE}{pos:Q9}
theorem bF{a:⇑(QI×QP)}{b:St}{H:Hp}{s:QL}{Q:VK}{k c:Bool}(I:Inv X a b H s)(q:Q (.bl k) H)(e:k=c):EP X a b Q (.bool c) s:=by
 subst e
 exact⟨.bl k,H,I,rfl,q⟩
theorem Pf:fA X (Rz .Eq) fS:=by
 intro e s f H x y v u Q I d a h
 obtain⟨c,q⟩:=h
 cases x with
 |non=>
  cases d
  cases y with
  |non=>cases a;exact aci (bF I q ⋯)
  |bl j=>cases a;exact aad (bF I q ⋯)
  |int j=>obtain⟨b,rfl⟩:=a;exact abm (bF I q ⋯)
  |str j=>obtain⟨b,rfl⟩:=a;exact aab (bF I q ⋯)
  |_=>exact absurd (show false=ω from c) RA
 |bl i=>
  cases d
  cases y with
  |non=>cases a;exact aaT (bF I q ⋯)
  |bl j=>cases a;exact eq_bool (bF I q G6)
  |str j=>obtain⟨b,rfl⟩:=a;exact acp (bF I q ⋯)
  |_=>exact absurd (show false=ω from c) RA
 |int i=>
  obtain⟨t,rfl⟩:=d
  cases y with
  |non=>cases a;exact ab0 (bF I q ⋯)
  |int j=>obtain⟨b,rfl⟩:=a;exact eq_int (bF I q EA)
  |str j=>obtain⟨b,rfl⟩:=a;exact aby (bF I q ⋯)
  |_=>exact absurd (show false=ω from c) RA
 |str i=>
  obtain⟨t,rfl⟩:=d
  cases y with
  |non=>cases a;exact abL (bF I q ⋯)
  |bl j=>cases a;exact aaz (bF I q ⋯)
  |int j=>obtain⟨b,rfl⟩:=a;exact ab6 (bF I q ⋯)
  |str j=>obtain⟨b,rfl⟩:=a;exact eq_str (bF I q Es)
  |_=>exact absurd (show false=ω from c) RA
 |byt i=>
  obtain⟨t,rfl⟩:=d
  cases y with
  |byt j=>obtain⟨b,rfl⟩:=a;exact abO (bF I q Ei)
  |_=>exact absurd (show false=ω from c) RA
 |_=>cases y<;>exact absurd (show false=ω from c) RA
theorem N8:fA X (Rz .NotEq) Cp:=by
 intro e s f H x y v u Q I d a h
 obtain⟨c,q⟩:=h
 cases x with
 |non=>
  cases d
  cases y with
  |non=>cases a;exact acr (bF I q ⋯)
  |bl j=>cases a;exact Z6 (bF I q ⋯)
  |int j=>obtain⟨b,rfl⟩:=a;exact Z5 (bF I q ⋯)
  |str j=>obtain⟨b,rfl⟩:=a;exact acd (bF I q ⋯)
  |_=>exact absurd (show false=ω from c) RA
 |bl i=>
  cases d
  cases y with
  |non=>cases a;exact aan (bF I q ⋯)
  |bl j=>cases a;exact ne_bool (bF I q (congrArg not G6))
  |str j=>obtain⟨b,rfl⟩:=a;exact aa2 (bF I q ⋯)
  |_=>exact absurd (show false=ω from c) RA
 |int i=>
  obtain⟨t,rfl⟩:=d
  cases y with
  |non=>cases a;exact abG (bF I q ⋯)
  |int j=>obtain⟨b,rfl⟩:=a;exact ne_int (bF I q (congrArg not EA))
  |str j=>obtain⟨b,rfl⟩:=a;exact aay (bF I q ⋯)
  |_=>exact absurd (show false=ω from c) RA
 |str i=>
  obtain⟨t,rfl⟩:=d
  cases y with
  |non=>cases a;exact abn (bF I q ⋯)
  |bl j=>cases a;exact abk (bF I q ⋯)
  |int j=>obtain⟨b,rfl⟩:=a;exact aaE (bF I q ⋯)
  |str j=>obtain⟨b,rfl⟩:=a;exact ne_str (bF I q (congrArg not Es))
  |_=>exact absurd (show false=ω from c) RA
 |byt i=>
  obtain⟨t,rfl⟩:=d
  cases y with
  |byt j=>obtain⟨b,rfl⟩:=a;exact abR (bF I q (congrArg not Ei))
  |_=>exact absurd (show false=ω from c) RA
 |_=>cases y<;>exact absurd (show false=ω from c) RA
theorem OF:fA X (Rz .Lt) (CI fun i j=>.bl (decide (i<j))):=Kg fun _ _ _ _ _ _ _ q=>lt_int q
theorem Oh:fA X (Rz .LtE) (CI fun i j=>.bl (decide (i<=j))):=Kg fun _ _ _ _ _ _ _ q=>le_int q
theorem Pm:fA X (Rz .Gt) (CI fun i j=>.bl (decide (j<i))):=Kg fun _ _ _ _ _ _ _ q=>gt_int q
theorem OE:fA X (Rz .GtE) (CI fun i j=>.bl (decide (j<=i))):=Kg fun _ _ _ _ _ _ _ q=>ge_int q
theorem Ff:fA X (Rz .In) (fun x y H Q=>∃i j,x=.str i/\y=.str j/\Q (.bl (!(S2 j i 0 j.length 1).isEmpty)) H):=by
 intro a s d H x y v u Q I b c h
 obtain⟨i,j,rfl,rfl,q⟩:=h
 obtain⟨t,rfl⟩:=b
 obtain⟨e,rfl⟩:=c
 exact in_str (bF I q rfl)
theorem Mv:fA X (Rz .Is) (fun x y H Q=>y=.non/\Q (.bl (decide (x=.non))) H):=by
 intro a s d H x y v u Q I b c h
 obtain⟨rfl,q⟩:=h
 cases c
 refine is_none_gen (bF I q ?_)
 cases x<;>first
  |(cases b;rfl)
  |(obtain⟨t,rfl⟩:=b;rfl)
theorem KC:fA X (Rz .IsNot) (fun x y H Q=>y=.non/\Q (.bl (!decide (x=.non))) H):=by
 intro a s d H x y v u Q I b c h
 obtain⟨rfl,q⟩:=h
 cases c
 refine isnot_none_gen (bF I q ?_)
 cases x<;>first
  |(cases b;rfl)
  |(obtain⟨t,rfl⟩:=b;rfl)
theorem zA:fA X (Rz .NotIn) (fun x y H Q=>∃i j,x=.str i/\y=.str j/\Q (.bl (!(!(S2 j i 0 j.length 1).isEmpty))) H):=by
 intro a s d H x y v u Q I b c h
 obtain⟨i,j,rfl,rfl,q⟩:=h
 obtain⟨t,rfl⟩:=b
 obtain⟨e,rfl⟩:=c
 exact notIn_str (bF I q rfl)
theorem Nr(b:QQ){a:CmpOp}(h:a≠.In:=by decide)(c:a≠.NotIn:=by decide):UZ a b=ξ:=by
 have d:(a==CmpOp.In)=ξ:=by cases a<;>first|rfl|exact absurd rfl h
 have e:(a==CmpOp.NotIn)=ξ:=by cases a<;>first|rfl|exact absurd rfl c
 cases b<;>simp[UZ,d,e]
theorem JN{d:CmpOp}{r:R2}(e:fA X (Rz d) r)(ha:PE X a ta)(f:PE X b tb)(hm:UZ d b=ξ):PE X (.Compare a [d] [b] pos) (az r ta tb):=by
 intro c s g H Q I h
 exact wpAny_Compare1 (Mf ha f I h fun v u i x y j I2 k l q=>e c i g j x y v u Q I2 k l q) hm
def ay(t:TE):TT:=fun a H Q=>t a H fun x b=>∃k,x=.bl k/\Q k b
theorem KR{f:CmpOp}{r:R2}(i:fA X (Rz f) r)(ha:PE X a ta)(j:PE X b tb)(hm:UZ f b=ξ):PT X (.Compare a [f] [b] pos) (ay (az r ta tb)):=by
 intro d s g H Q I h
 refine wpAny_isTrue_Compare1 (cf (ha d s g H _ I h) fun v l ⟨x,m,I1,n,o⟩=>cf (j d l g m _ I1 o) fun u p ⟨y,q,I2,t,w⟩=>
  cf (i d p g q x y v u _ I2 n t w) fun c D ⟨z,A,I3,B,k,e,C⟩=>?_) hm
 subst e
 cases B
 exact UH ⟨A,I3,C⟩
def zO(r c:R2)(ta tb tc:TE):TE:=fun a H Q=>ta a H fun x d=>tb a d fun y e=>r x y e fun z b=>∃k,z=.bl k/\
 (if k=ω then tc a b fun f g=>c y f g Q else Q (.bl false) b)
theorem HW{j g:CmpOp}{r m:R2}(q:fA X (Rz j) r)(l:fA X (Rz g) m)(ha:PE X a ta)(t:PE X b tb)(w:PE X c tc)
  (hm:lastMarks [j,g] [b,c]=ξ:=by with_unfolding_all rfl):PE X (.Compare a [j,g] [b,c] pos) (zO r m ta tb tc):=by
 intro f s i H Q I h
 refine Compare_chain (cf (ha f s i H _ I h) fun v A ⟨x,B,I1,C,D⟩=>chain_link (cf (t f A i B _ I1 D) fun u E ⟨y,F,I2,n,G⟩=>
  cf (q f E i F x y v u _ I2 C n G) fun d J ⟨z,o,I3,K,k,e,p⟩=>?_)) hm
 subst e
 cases K
 refine UH ?_
 cases k with
 |false=>exact ite_ff ⟨.bl false,o,I3,rfl,p⟩
 |true=>exact ite_tt (chain_last (cf (w f J i o _ I3 p) fun L M ⟨N,O,I4,P,R⟩=>l f M i O y N u L Q I4 n P R))
theorem uU:(QT:Nat)<2 ^ 63:=by rw[sizeLine_eq];decide
theorem Df:fA X (Sj .Add) (fun x y H Q=>∃i j,x=.str i/\y=.str j/\i.length+j.length<=QT/\Q (.str (i++j)) H):=by
 intro a s f H x y v u Q I b c h
 obtain⟨i,j,rfl,rfl,d,q⟩:=h
 obtain⟨t,rfl⟩:=b
 obtain⟨e,rfl⟩:=c
 exact add_str (fun e g=>⟨.str (i++j),H,I.tok _,⟨_,rfl⟩,q⟩) d
theorem vals1{x:V}{us:⇑QJ}(r:bA [x] us):∃u,us=[u]/\RelV x u:=by
 cases r with
 |cons a b=>cases b;exact⟨_,rfl,a⟩
theorem vals2{x y:V}{us:⇑QJ}(r:bA [x,y] us):∃u a,us=[u,a]/\RelV x u/\RelV y a:=by
 cases r with
 |cons b c=>
  cases c with
  |cons d e=>cases e;exact⟨_,_,rfl,b,d⟩
theorem yO(c:X.calm=ω):eB X (.builtin "max") (fun xs H Q=>∃i j,xs=[.int i,.int j]/\Q (.int (if j>i then j else i)) H):=by
 intro b s d H xs e Q I r h
 obtain⟨i,j,rfl,q⟩:=h
 obtain⟨u,f,rfl,⟨t,rfl⟩,⟨g,rfl⟩⟩:=vals2 r
 refine max_two_ints (I.ok.hd c) fun l m k=>⟨_,H,I.kept k,?_,q⟩
 by_cases a:j>i
 .rw[if_pos a,if_pos a];exact⟨_,rfl⟩
 .rw[if_neg a,if_neg a];exact⟨_,rfl⟩
theorem FL(c:X.calm=ω):eB X (.builtin "min") (fun xs H Q=>∃i j,xs=[.int i,.int j]/\Q (.int (if j<i then j else i)) H):=by
 intro b s d H xs e Q I r h
 obtain⟨i,j,rfl,q⟩:=h
 obtain⟨u,f,rfl,⟨t,rfl⟩,⟨g,rfl⟩⟩:=vals2 r
 refine min_two_ints (I.ok.hd c) fun l m k=>⟨_,H,I.kept k,?_,q⟩
 by_cases a:j<i
 .rw[if_pos a,if_pos a];exact⟨_,rfl⟩
 .rw[if_neg a,if_neg a];exact⟨_,rfl⟩
theorem zh:eB X (.type "str") (fun xs H Q=>∃i,xs=[.int i]/\i.natAbs.log2<1920/\Q (.str (toString i)) H):=by
 intro a s c H xs d Q I r h
 obtain⟨i,rfl,b,q⟩:=h
 obtain⟨u,rfl,t,rfl⟩:=vals1 r
 exact abx b ⟨.str _,H,I.tok _,⟨_,rfl⟩,q⟩
end
structure Dw(h:QS)(x dx C:QI)(mA:QH->Option QJ):Prop where
 obj:h.get? x=ψ (Tq C dx)
 ns:h.Ns1 dx mA
 ne:dx≠x
theorem Fx{h:QS}{dx:QI}{c:QH->Option QJ}(n:h.Ns1 dx c):∃d,h.get? dx=ψ d/\∀name,Vn name d=ψ (c name):=by
 obtain⟨o,es,k,f,hd,g,_,hm⟩:=n
 refine⟨o,f,fun name=>?_⟩
 have e:=hm name
 unfold nsFind findBy at e
 rw[<-Array.find?_toList]at e
 unfold Vn
 rw[hd]
 dsimp only
 split
 .rename_i y q
  rw[q]at e
  exact congrArg some e
 .rename_i q
  rw[q]at e
  have a:es.toList.any (·.refKey)=ξ:=by
   rw[List.any_eq_false]
   intro y i
   obtain⟨z,t,b⟩:=g y (Zq.mp i)
   simp[abt,b]
  have j:¬es.toList.any (·.refKey)=ω:=by rw[a];exact RA
  rw[if_neg j]
  exact congrArg some e
theorem Dw.look{h:QS}{x dx C:QI}{mA:QH->Option QJ}(I:Dw h x dx C mA):∃od,aaw h x (Tq C dx) C (ψ od)/\∀name,Vn name od=ψ (mA name):=
 let ⟨od,a,b⟩:=Fx I.ns
 ⟨od,⟨I.obj,rfl,rfl,a⟩,b⟩
section
variable {prog:Q0}{w:QX}{A:Q6}{E:QJ->QL->Prop}{s:QL}{K:QK}{x dx C f:QI}{mA:QH->Option QJ}{name:QH}{v:QJ}
theorem get_map{a:Bool}{Q:QJ->QL->Prop}(X:K.In s.heap)(I:Dw s.heap x dx C mA)(c:UN K C name=ω)(d:VY K C=ω)
  (ha:RV K (.ref C) name=ψ none) (e:mA name=ψ v) (b:Zp v=ω) (h:Q v {s with toks:=s.toks+1}):
  QM (model prog w) A (getAttr (.ref x) name a) Q E s:=by
 obtain⟨g,J,f⟩:=I.look
 exact abo X J (Xp c).1 (aar d ha rfl (by rw[f,e])) b h
theorem GJ{pl:Sem Bool}{Q:QJ×⇑QJ->QL->Prop}(X:K.In s.heap)(I:Dw s.heap x dx C mA)(a:UN K C name=ω)
  (b:RV K (.ref C) name=ψ (ψ (.ref f))) (c:VP K (.ref f)=ω) (d:mA name=χ) (h:Q (.ref f,[.ref x]) s):
  QM (model prog w) A (S7 (.ref x) name pl) Q E s:=by
 obtain⟨e,J,g⟩:=I.look
 exact abH X J (Xp a).1 (Xp a).2 b (beq_iff_eq.mp c) (by show(Vn name e).map (·.isSome)=ψ false;rw[g,d];rfl) h
theorem JJ{ns:⇑QH}{Q:Unit->QL->Prop}(X:K.In s.heap)(I:Dw s.heap x dx C mA)
  (j:RV K (.ref C) "__setattr__"=ψ (ψ (.builtin "object.__setattr__"))) (k:Xe K C=ω) (l:Wp K C name=ψ none) (m:VY K C=ω)
  (hw:W3 mA ns) (hsz:ns.length<=QT)
  (h:∀h',Dw h' x dx C (fun y=>if y=name then some v else mA y)->SG dx s.heap h'->Q () {s with heap:=h',toks:=s.toks+2}):
  QM (model prog w) A (setAttr (.ref x) name v) Q E s:=by
 obtain⟨t,J,u⟩:=I.look
 refine acv X J j (abg (s:={s with toks:=s.toks+1}) (r:=χ) X J k l fun b=>?_)
 obtain⟨z,n,e⟩:=abc m
 have o:s.heap.get? x=ψ ⟨.ref C,ψ dx,.plain,#[]⟩:=I.obj
 refine QN (Q8 (QN (QN (wpAny_loadPart o (QN (abN (s:={s with toks:=s.toks+1}) (aba X n) ?_))))))
 rw[e]
 refine Q8 (a:=ψ dx) (QN (Q8 (QN ?_)))
 refine wpAny_nsSet1 (s:={s with toks:=s.toks+1}) I.ns fun h' c d=>?_
 obtain⟨B,p,q,f,g,i⟩:=c.count (abY name v hw)
 refine QN (wpAny_lookBehind f (by rw[g];exact pastItsLine_dict (QV i (by rw[RB];omega))) ?_)
 exact Q8 (h _ ⟨(d.2 _ (Rb I.ne)).trans I.obj,c,I.ne⟩ d)
theorem GK{R:Result->QL->Prop}{vs:⇑QJ}{b:⇑(QH×QJ)}(X:K.In s.heap)(hm:Vh K C=ω)
  (hi:RV K (.ref C) "__init__"=ψ (ψ (.ref f))) (c:YU K (.ref f)=ψ (.type "function"))
  (h:SM (model prog w) (A.under (.builtin "type.__call__" ⟨.ref C::vs,b⟩)) (.call (.ref f) ⟨.ref (s.heap.objs.size+1)::vs,b⟩) (aaM (s.heap.objs.size+1) R)
   {s with heap:=(s.heap.push Tg).push (Tq C s.heap.objs.size)}):
  SM (model prog w) A (.call (.ref C) ⟨vs,b⟩) R s:=by
 obtain⟨e,g,d,t,os⟩:=s
 exact abF (abh X hm) (acf X hi) (fun a=>Z8 X a c) (.inl rfl) h
end
def bP(f:QH)(v:V):⇑(QH×V)->⇑(QH×V)
 |[]=>[(f,v)]
 |(g,x)::r=>if g=f then(g,v)::r else(g,x)::bP f v r
theorem sj(f g:QH)(v:V):∀fs:⇑(QH×V),(bP f v fs).lookup g=if g=f then some v else fs.lookup g
 |[]=>by
  show RQ g [(f,v)]=_
  by_cases h:g=f
  .have a:(g==f)=ω:=beq_iff_eq.mpr h
   simp only[RQ,a,if_pos h]
  .have a:(g==f)=ξ:=beq_eq_false_iff_ne.mpr h
   simp only[RQ,a,if_neg h]
 |(k,x)::r=>by
  have c:=sj f g v r
  rw[show bP f v ((k,x)::r)=(if k=f then(k,v)::r else(k,x)::bP f v r)from rfl]
  by_cases b:k=f
  .rw[if_pos b]
   by_cases h:g=k
   .have a:(g==k)=ω:=beq_iff_eq.mpr h
    simp only[RQ,a,if_pos (h.trans b)]
   .have a:(g==k)=ξ:=beq_eq_false_iff_ne.mpr h
    simp only[RQ,a,if_neg (fun e:g=f=>h (e.trans b.symm))]
  .rw[if_neg b]
   by_cases h:g=k
   .have a:(g==k)=ω:=beq_iff_eq.mpr h
    simp only[RQ,a,if_neg (fun e:g=f=>b (h.symm.trans e))]
   .have a:(g==k)=ξ:=beq_eq_false_iff_ne.mpr h
    simp only[RQ,a]
    exact c
theorem rC(f:QH)(v:V):∀fs:⇑(QH×V),f∈(bP f v fs).map (·.1)/\∀g,g∈fs.map (·.1)->g∈(bP f v fs).map (·.1)
 |[]=>⟨by simp[bP],fun g h=>by simp at h⟩
 |(k,x)::r=>by
  obtain⟨b,c⟩:=rC f v r
  rw[show bP f v ((k,x)::r)=(if k=f then(k,v)::r else(k,x)::bP f v r)from rfl]
  by_cases a:k=f
  .rw[if_pos a]
   subst a
   exact⟨⋯,fun g h=>by simpa using h⟩
  .rw[if_neg a]
   refine⟨?_,fun g h=>?_⟩
   .rw[Rk]
    exact Rm _ b
   .rw[Rk]at h ⊢
    rcases QW.mp h with e|e
    .exact QW.mpr (.inl e)
    .exact Rm _ (c g e)
theorem sL(f:QH)(v:V):∀fs:⇑(QH×V),(bP f v fs).length<=fs.length+1
 |[]=>by simp[bP]
 |(k,x)::r=>by
  have b:=sL f v r
  rw[show bP f v ((k,x)::r)=(if k=f then(k,v)::r else(k,x)::bP f v r)from rfl]
  by_cases a:k=f
  .rw[if_pos a,RB,RB];omega
  .rw[if_neg a,RB,RB];omega
theorem lB.some_of{v:V}{o:Option QJ}(r:lB (ψ v) o):∃u,o=ψ u/\RelV v u:=by
 cases o with
 |none=>exact(show False from r).elim
 |some u=>exact⟨u,rfl,r⟩
theorem lB.none_of{o:Option QJ}(r:lB none o):o=none:=by
 cases o with
 |none=>rfl
 |some u=>exact(show False from r).elim
theorem Fj{v:V}{u:QJ}(r:RelV v u):Zp u=ω:=by
 cases v with
 |non=>cases(show u=R0 from r);rfl
 |bl b=>cases(show u=Tb b from r);rfl
 |int i=>obtain⟨t,e⟩:=(show ∃t,u=SK i t from r);cases e;rfl
 |str x=>obtain⟨t,e⟩:=(show ∃t,u=Tt x t from r);cases e;rfl
 |byt b=>obtain⟨t,e⟩:=(show ∃t,u=ZU b t from r);cases e;rfl
 |flt b=>obtain⟨t,e⟩:=(show ∃t,u=WE b t from r);cases e;rfl
 |ref a=>cases(show u=Rf a from r);rfl
 |ty n=>cases(show u=V8 n from r);rfl
section
variable {P:Q0}{w:QX}{H H':Hp}{h h':QS}{a C dx:QI}{fs fs':⇑(QH×V)}
theorem ua(c:mE P w H h)(e:H a=ψ (.ins C dx fs)):∃b,Dw h a dx C b/\(∀f,lB (fs.lookup f) (b f))/\W3 b (fs.map (·.1))/\fs.length<=1000/\H dx=ψ (.own a):=by
 obtain⟨d,z,g,i,b,n,r,q⟩:=(show cg P w H h a (.ins C dx fs)from c a _ e)
 exact⟨b,⟨i,n,g⟩,r,q,z,d⟩
end
structure fR(K:QK)(C:QI):Prop where
 pg:UN K C Rh=ω
 hd:VY K C=ω
 po:Xe K C=ω
 sa:RV K (.ref C) "__setattr__"=ψ (ψ (.builtin "object.__setattr__"))
theorem fR.get{K:QK}{C:QI}(c:fR K C)(f:QH):UN K C f=ω:=c.pg
def cF(K:QK)(C:QI)(f:QH):Prop:=RV K (.ref C) f=ψ none
theorem cF.taker{K:QK}{C:QI}{f:QH}(n:cF K C f):Wp K C f=ψ none:=by
 unfold Wp
 rw[show RV K (.ref C) f=ψ none from n]
 rfl
structure E3(K:QK)(C:QI)(m:QH)(f:QI):Prop where
 at_:RV K (.ref C) m=ψ (ψ (.ref f))
 fn:VP K (.ref f)=ω
 kp:SO K (.ref f)=ω
section
variable {X:Cx}{pins:⇑(QI×QP)}{σ:St}{H:Hp}{s:QL}{a C dx:QI}{fs:⇑(QH×V)}{f:QH}{v:V}{A:Q6}{E:QJ->QL->Prop}
theorem wD{b:Bool}{Q:QJ->QL->Prop}(I:Inv X pins σ H s)(e:H a=ψ (.ins C dx fs))(c:fR X.K C)(n:cF X.K C f)(l:fs.lookup f=ψ v)
  (h:∀u d,Inv X pins σ H d->RelV v u->Q u d):QM (model X.prog X.w) A (getAttr (.ref a) f b) Q E s:=by
 obtain⟨i,O,r,_,_,_⟩:=ua I.hok e
 obtain⟨u,j,g⟩:=lB.some_of (v:=v) (o:=i f) (by rw[<-l];exact r f)
 exact get_map I.kIn O (c.get f) c.hd n j (Fj g) (h u _ (I.tok _) g)
theorem jP{m:QH}{g:QI}{pl:Sem Bool}{Q:QJ×⇑QJ->QL->Prop}(I:Inv X pins σ H s)(e:H a=ψ (.ins C dx fs))(c:fR X.K C)(k:E3 X.K C m g)(l:fs.lookup m=χ)
  (h:Q (.ref g,[.ref a]) s):QM (model X.prog X.w) A (S7 (.ref a) m pl) Q E s:=by
 obtain⟨b,O,r,_,_,_⟩:=ua I.hok e
 have hn:b m=none:=lB.none_of (by rw[<-l];exact r m)
 exact GJ I.kIn O (c.get m) k.at_ k.fn hn h
theorem vC{y:V}{u:QJ}{Q:Unit->QL->Prop}(I:Inv X pins σ H s)(e:H a=ψ (.ins C dx fs))(c:fR X.K C)(n:cF X.K C f)(F:fs.length<1000)(l:RelV y u)
  (h:∀d,Inv X pins σ (upd H a (.ins C dx (bP f y fs))) d->Q () d):QM (model X.prog X.w) A (setAttr (.ref a) f u) Q E s:=by
 obtain⟨i,O,r,j,_,k⟩:=ua I.hok e
 have m:(fs.map (·.1)).length<=QT:=by rw[QR,sizeLine_eq];omega
 refine JJ I.kIn O c.sa c.po n.taker c.hd j m fun p O' t=>h _ ?_
 have hd:∃o,p.get? dx=ψ o:=let ⟨o,_,_,v,_⟩:=O'.ns;⟨o,v⟩
 refine I.write (x:=a) (e:=dx) (by rw[e];exact Sx) (.inr k) (fun b q B z=>(t.2 b B).trans z) hd ?_
 refine⟨by rw[aj O.ne];exact k,?_,O.ne,O'.obj,_,O'.ns,fun g=>?_,fun g D=>?_⟩
 .have:=sL f y fs;omega
 .show lB ((bP f y fs).lookup g) (if g=f then some u else i g)
  rw[sj]
  by_cases q:g=f
  .rw[if_pos q,if_pos q];exact l
  .rw[if_neg q,if_neg q];exact r g
 .by_cases q:g=f
  .rw[q];exact(rC f y fs).1
  .refine(rC f y fs).2 g (j g fun z=>D ?_)
   show(if g=f then some u else i g)=χ
   rw[if_neg q];exact z
theorem Inv.made(I:Inv X pins σ H s):Inv X pins σ (upd (upd H s.heap.objs.size (.own (s.heap.objs.size+1))) (s.heap.objs.size+1) (.ins C s.heap.objs.size []))
  {s with heap:=(s.heap.push Tg).push (Tq C s.heap.objs.size)}:=by
 have c:(s.heap.push Tg).get? s.heap.objs.size=ψ Tg:=Rt s.heap rfl
 have d:((s.heap.push Tg).push (Tq C s.heap.objs.size)).get? (s.heap.objs.size+1)=ψ (Tq C s.heap.objs.size):=by
  have:=Rt (s.heap.push Tg) (o:=Tq C s.heap.objs.size) rfl
  rwa [Sh]at this
 have f:(s.heap.push Tg).Ns s.heap.objs.size (fun _=>none):=⟨Tg,#[],_,c,rfl,(fun e he=>absurd he ⋯),fun _=>rfl⟩
 have I1:=I.laid (a:=s.heap.objs.size) (o:=.own (s.heap.objs.size+1)) (h':=s.heap.push Tg) (t':=s.toks) (fun b u q=>Rj _ q) (Q2 _) ⟨_,c⟩
 refine I1.laid (a:=s.heap.objs.size+1) (o:=.ins C s.heap.objs.size []) (t':=s.toks) (fun b u q=>Rj _ q) (Uo (Sh _ _)) ?_
 have ne:s.heap.objs.size≠s.heap.objs.size+1:=Rn (VW _)
 refine⟨by rw[aj ne,ak],RL _,ne,d,fun _=>none,(aco f).at fun o q=>Rj _ q,fun _=>Sx,fun y g=>absurd rfl g⟩
theorem Ko{prog:Q0}{w:QX}{env:Ri}{e:QQ}{f:QH}{b:Q9}{s:QL}{Q:QJ->QL->Prop}(c:TQ e f env (eval e env)=eval e env)
  (h:QM (model prog w) A (eval e env) (fun o a=>QM (model prog w) A (getAttr o f true) Q E a) E s):QM (model prog w) A (eval (.Attribute e f b) env) Q E s:=
 Attribute_any_ h (by rw[arm_eval_Attribute,c])
end
def cz(K:QK)(c:TE)(f:QH):TE:=fun d H Q=>c d H fun x b=>∃a C dx fs v,x=.ref a/\b a=ψ (.ins C dx fs)/\fR K C/\cF K C f/\fs.lookup f=ψ v/\Q v b
def o5(K:QK)(d e:TE)(f:QH):TS:=fun D b H=>e b H fun y g=>d b g fun x c=>∃a C dx fs,x=.ref a/\c a=ψ (.ins C dx fs)/\fR K C/\cF K C f/\fs.length<1000/\
 D.nx b (upd c a (.ins C dx (bP f y fs)))
noncomputable def MB(X:Cx)(c:Operator)(d:V->V->Hp->VK->Prop):Prop:=
 ∀(a:⇑(QI×QP))(s:QL)(b:St)(H:Hp)(x y:V)(u v:QJ)(Q:VK),Inv X a b H s->RelV x u->RelV y v->d x y H Q->QM (model X.prog X.w) X.A (S9 c u v) (EP X a b Q) X.xe s
noncomputable def ia(K:QK)(h i:TE)(j:V->V->Hp->VK->Prop)(f:QH):TS:=fun D d H=>h d H fun x e=>∃a C dx fs v,x=.ref a/\e a=ψ (.ins C dx fs)/\fR K C/\cF K C f/\fs.lookup f=ψ v/\
 i d e fun y k=>j v y k fun z g=>∃c b,g a=ψ (.ins C c b)/\b.length<1000/\D.nx d (upd g a (.ins C c (bP f z b)))
section
variable {X:Cx}{o e value:QQ}{f:QH}{pos pos' tpos:Q9}{ta tv:TE}
theorem LO(he:PE X e ta)(d:TQ e f X.env (eval e X.env)=eval e X.env):PE X (.Attribute e f pos) (cz X.K ta f):=by
 intro b s g H Q I h
 refine Ko d (cf (he b s g H _ I h) fun u p ⟨x,i,I1,j,a,C,dx,fs,v,k,m,c,n,l,q⟩=>?_)
 subst k
 obtain rfl:u=Rf a:=j
 exact wD I1 m c n l fun r t I2 o=>⟨v,i,I2,o,q⟩
theorem MM(ha:PE X o ta)(e:PE X value tv)(g:swapsWith value (ψ (.Attribute o f pos')) pos.line X.env=pure false):PS X (.Assign [.Attribute o f pos'] value pos) (o5 X.K ta tv f):=by
 intro b s d H D I h
 refine plainObj_wpAny_Assign_Attribute (cf (e b s d H _ I h) fun u i ⟨y,j,I1,k,q⟩=>cf (ha b i d j _ I1 q) fun m w ⟨x,z,I2,p,a,C,dx,fs,r,t,c,n,l,v⟩=>?_) g
 subst r
 obtain rfl:m=Rf a:=p
 exact vC I2 t c n l k fun A I3=>⟨d,_,I3,v⟩
theorem Gn{i:Operator}{j:V->V->Hp->VK->Prop}(ha:PE X o ta)(k:PE X value tv)(e:MB X i j):PS X (.AugAssign (.Attribute o f tpos) i value pos) (ia X.K ta tv j f):=by
 intro b s d H D I h
 refine wpAny_AugAssign_AttributeAny (cf (ha b s d H _ I h) fun m R ⟨x,p,I1,r,a,C,dx,fs,v,t,w,c,n,l,q⟩=>?_)
 subst t
 obtain rfl:m=Rf a:=r
 refine wD I1 w c n l fun u A I2 B=>cf (k b A d p _ I2 q) fun E F ⟨y,G,I3,J,L⟩=>cf (e b F d G v y u E _ I3 B J L) fun S T ⟨z,U,I4,M,N,O,g,P,Q⟩=>?_
 exact vC I4 g c n P M fun W I5=>⟨d,_,I5,Q⟩
def E1:V->V->Hp->VK->Prop:=fun x y H Q=>∃i j,x=.int i/\y=.int j/\Q (.int (i+j)) H
def OL:V->V->Hp->VK->Prop:=fun x y H Q=>∃i j,x=.int i/\y=.int j/\Q (.int (i-j)) H
theorem LP:MB X .Add E1:=by
 rintro a s e H x y u v Q I c d ⟨i,j,rfl,rfl,q⟩
 obtain⟨t,rfl⟩:=(show ∃t,u=SK i t from c)
 obtain⟨b,rfl⟩:=(show ∃b,v=SK j b from d)
 exact aas ⟨.int (i+j),H,I.tok _,⟨_,rfl⟩,q⟩
theorem Mb:MB X .Sub OL:=by
 rintro a s e H x y u v Q I c d ⟨i,j,rfl,rfl,q⟩
 obtain⟨t,rfl⟩:=(show ∃t,u=SK i t from c)
 obtain⟨b,rfl⟩:=(show ∃b,v=SK j b from d)
 exact acq ⟨.int (i-j),H,I.tok _,⟨_,rfl⟩,q⟩
theorem Lx{pl:Sem Bool}{m:QH}{apos:Q9}{args:⇑QQ}{b:⇑(QI×QP)}{s:QL}{d:St}{H:Hp}{Q:QJ->QL->Prop}{n:TE}(he:PE X e n)(I:Inv X b d H s)
  (h:n d H fun x j=>∃a C dx fs g,x=.ref a/\j a=ψ (.ins C dx fs)/\fR X.K C/\E3 X.K C m g/\fs.lookup m=χ/\
   ∀i,Inv X b d j i->QM (model X.prog X.w) X.A (callWith pos (.ref g) [.ref a] (Rx pos (Q5 args X.env)) (SI pos (SR [] X.env))) Q X.xe i)
  (p:eval (.Call (.Attribute e m apos) args [] pos) X.env=(do
   let o <-eval e X.env
   standAt apos.atName
   let (f,first) <-holding [o] (S7 o m pl)
   callWith pos f first (Rx pos (Q5 args X.env)) (SI pos (SR [] X.env)))):
  QM (model X.prog X.w) X.A (eval (.Call (.Attribute e m apos) args [] pos) X.env) Q X.xe s:=by
 refine Vw (pl:=pl) (cf (he b s d H _ I h) fun u i ⟨x,j,I1,r,a,C,dx,fs,g,t,v,c,k,l,q⟩=>?_) p
 subst t
 obtain rfl:u=Rf a:=r
 exact jP I1 v c k l (q i I1)
end
section
variable {X:Cx}{pins:⇑(QI×QP)}{σ:St}{H:Hp}{s:QL}{A:Q6}{E:QJ->QL->Prop}{Q:QJ->QL->Prop}{c:QJ}{b:Bool}
inductive ph(K:QK)(H:Hp):V->QJ->Prop where
 |non:ph K H .non (.type "NoneType")
 |bl (x:Bool):ph K H (.bl x) (.type "bool")
 |int (i:Int):ph K H (.int i) (.type "int")
 |str (x:QH):ph K H (.str x) (.type "str")
 |flt (x:UInt64):ph K H (.flt x) (.type "float")
 |lst {a:QI}{xs:⇑V} (e:H a=ψ (.lst xs)):ph K H (.ref a) (.type "list")
 |frz {a:QI}{o:QP}{xs:⇑V} (e:H a=ψ (.frz o (.lst xs))):ph K H (.ref a) (.type "list")
 |tup {a:QI}{xs:⇑V} (e:H a=ψ (.tup xs)):ph K H (.ref a) (.type "tuple")
 |dK {a:QI}{kvs:⇑(Key×V)} (e:H a=ψ (.dK kvs)):ph K H (.ref a) (.type "dict")
 |dT {a:QI}{kvs:⇑(⇑Key×V)} (e:H a=ψ (.dT kvs)):ph K H (.ref a) (.type "dict")
 |ins {a C dx:QI}{fs:⇑(QH×V)} (e:H a=ψ (.ins C dx fs)) (cl:fR K C) (ha:RV K (.ref C) "__class__"=ψ (ψ (.builtin "object.__class__")))
   (hn:aaI K (.builtin "object.__class__") "__get__"=ψ (ψ (.builtin "getset_descriptor.__get__"))) (htk:aak K (.builtin "object.__class__")=ψ true)
   (hm:Ve K C (.type "object")=ψ true):ph K H (.ref a) (.ref C)
theorem EV{x:V}{u t:QJ}(I:Inv X pins σ H s)(d:RelV x u)(ty:ph X.K H x t)(e:U0 X.K t c=ψ b)(h:∀k,Q (.bool b) {s with toks:=k}):
  QM (model X.prog X.w) A (call (.builtin "isinstance") [u,c]) Q E s:=by
 cases ty with
 |non=>cases(show u=R0 from d);exact SE aaP I.kIn Sx e (fun z=>nomatch z) h
 |bl y=>cases(show u=Tb y from d);exact SE abd I.kIn Sx e (fun z=>nomatch z) h
 |int i=>obtain⟨t,q⟩:=(show ∃t,u=SK i t from d);cases q;exact SE acs I.kIn Sx e (fun z=>nomatch z) h
 |str y=>obtain⟨t,q⟩:=(show ∃t,u=Tt y t from d);cases q;exact SE aaq I.kIn Sx e (fun z=>nomatch z) h
 |flt y=>obtain⟨t,q⟩:=(show ∃t,u=WE y t from d);cases q;exact SE abW I.kIn Sx e (fun z=>nomatch z) h
 |@lst a xs f=>
  cases(show u=Rf a from d)
  obtain⟨_,_,n,_,g⟩:=(show cg X.prog X.w H s.heap a (.lst xs)from I.hok a _ f)
  exact SE Xy I.kIn ⟨_,g,rfl⟩ e (fun z=>nomatch z) h
 |@frz a l xs f=>
  cases(show u=Rf a from d)
  obtain⟨_,_,_,n,_,g⟩:=(show cg X.prog X.w H s.heap a (.frz l (.lst xs))from I.hok a _ f)
  exact SE Xy I.kIn ⟨_,g,rfl⟩ e (fun z=>nomatch z) h
 |@tup a xs f=>
  cases(show u=Rf a from d)
  obtain⟨_,_,_,p⟩:=(show cg X.prog X.w H s.heap a (.tup xs)from I.hok a _ f)
  obtain⟨o,g,j,_⟩:=p
  exact SE aaX I.kIn ⟨o,g,j⟩ e (fun z=>nomatch z) h
 |@dK a kvs f=>
  cases(show u=Rf a from d)
  obtain⟨_,_,r,_,p⟩:=(show cg X.prog X.w H s.heap a (.dK kvs)from I.hok a _ f)
  obtain⟨o,es,m,g,j,_⟩:=p
  exact SE Yl I.kIn ⟨o,g,j.1⟩ e (fun z=>nomatch z) h
 |@dT a kvs f=>
  cases(show u=Rf a from d)
  obtain⟨_,_,xs,_,o,es,m,g,j,_⟩:=(show cg X.prog X.w H s.heap a (.dT kvs)from I.hok a _ f)
  exact SE Yl I.kIn ⟨o,g,j.1⟩ e (fun z=>nomatch z) h
 |@ins a C dx fs f cl ha hn htk hm=>
  cases(show u=Rf a from d)
  obtain⟨v,O,_⟩:=ua I.hok f
  obtain⟨B,J,_⟩:=O.look
  exact SE (aaN (cl.get _) cl.hd ha hn htk hm) I.kIn J e (fun z=>nomatch z) h
end
structure cH(k:Nat)(A:Q6):Prop where
 hd:A.handled=χ
 dp:A.depth+3*k+5<recursionLimit
 un:A.units+16*k+200<cLine
theorem cH.mono{j k:Nat}{A:Q6}(r:cH k A)(h:j<=k):cH j A:=⟨r.hd,by have:=r.dp;omega,by have:=r.un;omega⟩
theorem cH.deeper{k:Nat}{A:Q6}(r:cH (k+1) A)(env:Ri):cH k (A.deeper env):=
 ⟨r.hd,by have:=r.dp;show A.depth+1+3*k+5<_;omega,by have:=r.un;show A.units+3+16*k+200<_;omega⟩
theorem C7{A:Q6}{C:QI}{us:⇑QJ}{a:⇑(QH×QJ)}:(A.under (.builtin "type.__call__" ⟨.ref C::us,a⟩)).depth=A.depth+1:=by
 first|rfl|simp[Wm,Code.weight,Code.isCreation,Code.isGuard,Code.isCaller,ZQ,Wf,guardIds]
theorem Dv{A:Q6}{C:QI}{us:⇑QJ}{a:⇑(QH×QJ)}:(A.under (.builtin "type.__call__" ⟨.ref C::us,a⟩)).units=A.units+1:=by
 first|rfl|simp[Wm,Code.cUnits,ZQ,Wf]
theorem cH.make{k:Nat}{A:Q6}(r:cH (k+1) A)(C:QI)(us:⇑QJ)(a:⇑(QH×QJ)):cH k (A.under (.builtin "type.__call__" ⟨.ref C::us,a⟩)):=
 ⟨r.hd,by have:=r.dp;rw[C7];omega,by have:=r.un;rw[Dv];omega⟩
theorem cH.depth{k:Nat}{A:Q6}(r:cH k A):A.depth<recursionLimit:=by have:=r.dp;omega
theorem cH.units{k:Nat}{A:Q6}(r:cH k A):A.units+64<cLine:=by have:=r.un;omega
def ao:TA:=fun _ H Q=>Q [] H
def ae(b:TE)(c:TA):TA:=fun a H Q=>b a H fun x d=>c a d fun xs e=>Q (x::xs) e
section
variable {X:Cx}{e:QQ}{es:⇑QQ}{te:TE}{t:TA}{pos:Q9}
theorem z9:PA X [] ao:=fun _ _ _ _ H Q I h=>Wr ⟨[],H,I,.nil,h⟩
theorem tW(ha:PE X e te)(c:PA X es t)(d:Q5 (e::es) X.env=(false,eval e X.env)::Q5 es X.env:=by rfl):PA X (e::es) (ae te t):=by
 intro pos a s b H Q I h
 rw[d]
 show QM _ _ (spliced ((false,eval e X.env)::Rx pos (Q5 es X.env))) _ _ s
 refine W0 (cf (ha a s b H _ I h) fun u f ⟨x,g,I1,i,j⟩=>?_)
 exact cf (c pos a f b g _ I1 j) fun n o ⟨xs,k,I2,l,m⟩=>⟨x::xs,k,I2,.cons i l,m⟩
def jE(t:TA):TE:=fun b H Q=>t b H fun xs a=>xs.length<=QT/\∀p,a p=χ->Q (.ref p) (upd a p (.tup xs))
def dy(t:TA):TE:=fun b H Q=>t b H fun xs a=>xs.length<=QT/\∀p,a p=χ->Q (.ref p) (upd a p (.lst xs))
theorem MW{f}(h:PA X es t):PE X (.Tuple es f pos) (jE t):=by
 intro a s g H Q I i
 refine wpAny_Tuple_spliced (cf (h pos a s g H _ I i) fun j c ⟨xs,d,I1,r,z,q⟩=>⟨by rw[<-r.length];exact z,?_⟩)
 have k:d c.heap.objs.size=none:=I1.hok.fresh (Q2 _)
 refine⟨.ref c.heap.objs.size,upd d c.heap.objs.size (.tup xs),I1.laid (t':=c.toks) (fun b u e=>Rj _ e) (Q2 _) ?_,rfl,q _ k⟩
 exact⟨z,j,r,⟨_,Rt _ rfl,rfl,_,rfl⟩⟩
theorem NL(h:PA X es t):PE X (.List es pos) (dy t):=by
 intro a s f H Q I g
 refine wpAny_List_spliced (cf (h pos a s f H _ I g) fun i c ⟨xs,d,I1,r,z,q⟩=>⟨by rw[<-r.length];exact z,?_⟩)
 have j:d c.heap.objs.size=none:=I1.hok.fresh (Q2 _)
 refine⟨.ref c.heap.objs.size,upd d c.heap.objs.size (.lst xs),I1.laid (t':=c.toks) (fun b u e=>Rj _ e) (Q2 _) ?_,rfl,q _ j⟩
 exact⟨z,i,0,r,Rt _ rfl⟩
end
abbrev Sp:=⇑V->Hp->VK->XK->Prop
abbrev Fy:=⇑Ri->Hp->QL->XK->QJ->QL->Prop
structure CJ(P:Q0)(w:QX)(K:QK)(mg:QH->Option QJ)(base:QS)(A:Q6)(outer:⇑Ri)(s:QL)(H:Hp):Prop where
 frames:A.frames=ψ outer
 mod:Mod K mg base
 bs:∀b o,base.get? b=ψ o->s.heap.get? b=ψ o/\H b=χ
 bsz:base.objs.size<=s.heap.objs.size
 funs:s.heap.FunFrames base outer
 frf:∀b∈zN outer,H b=χ
 hok:mE P w H s.heap
 bare:SW s.gens
def CE(outer:⇑Ri)(P:Q0)(w:QX)(H:Hp)(s:QL)(Q:VK)(u:QJ)(a:QL):Prop:=
 ∃v b,a.os=s.os/\SW a.gens/\Un (zN outer) [] H b s.heap a.heap/\mE P w b a.heap/\RelV v u/\Q v b
def CR(CX:Fy)(outer:⇑Ri)(P:Q0)(w:QX)(H:Hp)(s:QL)(Q:VK)(E:XK)(r:Result)(a:QL):Prop:=
 match r with
 |.ok (.ret u)=>CE outer P w H s Q u a
 |.ok _=>False
 |.error e=>CX outer H s E e a
structure lQ(P:Q0)(w:QX)(K:QK)(mg:QH->Option QJ)(base:QS)(CX:Fy)(k:Nat)(f:QI)(fd:Su)(ps:⇑QH)(sp:Sp):Prop where
 len:∀vs H Q E,sp vs H Q E->vs.length=ps.length
 run:∀(A:Q6)(outer:⇑Ri)(s:QL)(H:Hp)(args:Args)(us:⇑QJ)(vs:⇑V)(Q:VK)(E:XK),cH k A->CJ P w K mg base A outer s H->BindsTo s fd args (ps.zip us)->bA vs us->sp vs H Q E->
  SM (model P w) A (.call (.ref f) args) (CR CX outer P w H s Q E) s
theorem CJ.make{P:Q0}{w:QX}{K:QK}{mg:QH->Option QJ}{base:QS}{A:Q6}{outer:⇑Ri}{s:QL}{H:Hp}(e:CJ P w K mg base A outer s H)(C:QI)(us:⇑QJ)(a:⇑(QH×QJ)):
  CJ P w K mg base (A.under (.builtin "type.__call__" ⟨.ref C::us,a⟩)) outer s H:=⟨by first|exact e.frames|(simpa[Wm,Code.envs,Wf,pushEnvs]using e.frames),e.mod,e.bs,e.bsz,e.funs,e.frf,e.hok,e.bare⟩
section
variable {X:Cx}{pins:⇑(QI×QP)}{σ:St}{H:Hp}{s s':QL}
theorem Inv.env0(I:Inv X pins σ H s):CJ X.prog X.w X.K X.mg X.base X.A X.stack s H:=
 ⟨I.ok.frames,I.ok.mod,I.bs,QV I.ok.bsz I.sz,I.stack,I.stkFree,I.hok,I.bare⟩
theorem Inv.after{Q:VK}{u:QJ}(I:Inv X pins σ H s)(h:CE X.stack X.prog X.w H s Q u s'):EP X pins σ Q u s':=by
 obtain⟨v,H',os,bare,un,hok,r,q⟩:=h
 obtain⟨c,g,d,t,a⟩:=s'
 obtain rfl:a=s.os:=os
 exact⟨v,H',I.call (h':=c) (g':=g) (d':=d) (t':=t) (ch:=[]) un hok bare (fun b z=>absurd z ⋯),r,q⟩
end
def aJ(sp:Sp)(a:⇑V)(E:XK)(t:TA):TE:=fun b H Q=>t b H fun c d=>sp (c++a) d Q E
def bH(C:QI)(m:QH)(sp:Sp)(b:⇑V)(E:XK)(e:TE)(t:TA):TE:=fun c H Q=>e c H fun x d=>∃a dx fs,x=.ref a/\d a=ψ (.ins C dx fs)/\fs.lookup m=χ/\
 t c d fun f g=>sp (x::(f++b)) g Q E
def Cz(C:QI)(sp:Sp)(a:⇑V)(E:XK)(t:TA):TE:=fun c H Q=>t c H fun d b=>∀x dx,b x=χ->b dx=χ->dx≠x->
 sp (.ref x::(d++a)) (upd (upd b dx (.own x)) x (.ins C dx [])) (fun v e=>v=.non/\Q (.ref x) e) E
def Binds(K:QK)(b:Su)(ps:⇑QH)(ds:⇑QJ):Prop:=
 ∀(s:QL)(a:⇑QJ),K.In s.heap->(a++ds).length=ps.length->BindsTo s b ⟨a,[]⟩ (ps.zip (a++ds))
theorem Binds.all{K:QK}{fd:Su}{ps:⇑QH}(h:∀us:⇑QJ,us.length=ps.length->bindArgs fd ⟨us,[]⟩=pure (ps.zip us)):Binds K fd ps []:=fun s us _ a=>by
 rw[UP]at a ⊢
 exact .of_eq (h us a)
def jx(CX:Fy)(X:Cx)(E:XK):Prop:=∀(a:⇑(QI×QP))(c:St)(H:Hp)(s:QL)(e:QJ)(b:QL),Inv X a c H s->CX X.stack H s E e b->X.xe e b
section
variable {X:Cx}{CX:Fy}{k:Nat}{f C:QI}{fd:Su}{ps:⇑QH}{sp:Sp}{dvs:⇑V}{ds:⇑QJ}{E:XK}{x m:QH}{p pos apos:Q9}{e o:QQ}{es:⇑QQ}{ta:TE}{t:TA}
theorem DW{a:⇑(QI×QP)}{c:St}{H:Hp}{s:QL}{Q:VK}{us:⇑QJ}{vs:⇑V}(F:lQ X.prog X.w X.K X.mg X.base CX k f fd ps sp)(g:cH k X.A)(i:Binds X.K fd ps ds)(hd:bA dvs ds)(hx:jx CX X E)
  (I:Inv X a c H s) (r:bA vs us) (h:sp (vs++dvs) H Q E):QM (model X.prog X.w) X.A (call (.ref f) us) (EP X a c Q) X.xe s:=by
 have d:bA (vs++dvs) (us++ds):=r.append hd
 have j:(us++ds).length=ps.length:=by rw[<-d.length];exact F.len _ _ _ _ h
 refine wpAny_call (codeAny_mono (F.run X.A X.stack s H ⟨us,[]⟩ (us++ds) (vs++dvs) Q E g I.env0 (i s us I.kIn j) d h) fun r l b=>?_)
 cases r with
 |error e=>exact hx a c H s e l I b
 |ok m=>
  cases m with
  |ret u=>exact I.after b
  |next=>exact R9 b
  |brk=>exact R9 b
  |cont=>exact R9 b
theorem Et(F:lQ X.prog X.w X.K X.mg X.base CX k f fd ps sp)(d:cH k X.A)(g:Gl X x)(hm:X.mg x=ψ (.ref f))(i:SO X.K (.ref f)=ω)(j:Binds X.K fd ps ds)(hd:bA dvs ds)(hx:jx CX X E)
  (ha:PA X (e::es) t) (b:(x==("__debug__":QH))=ξ:=by decide) (he:Q5 (e::es) X.env=(false,eval e X.env)::Q5 es X.env:=by rfl) (c:(Rx pos (Q5 es X.env)).any (·.1)=ξ:=by rfl):
  PE X (.Call (.Name x p) (e::es) [] pos) (aJ sp dvs E t):=by
 intro a s l H Q I h
 refine VQ (pT I g hm ?_ b)
 refine Xq (h₀:=X.base) I.ok.mod.kin i (cf (ha pos a s l H _ I h) fun m n ⟨o,u,I1,r,q⟩=>⟨I1.kIn,?_⟩) he c
 exact DW F d j hd hx I1 r q
theorem zp{pl:Sem Bool}(he:PE X o ta)(c:fR X.K C)(hm:E3 X.K C m f)(F:lQ X.prog X.w X.K X.mg X.base CX k f fd ps sp)(n:cH k X.A)(p:Binds X.K fd ps ds)(hd:bA dvs ds)(hx:jx CX X E)(ha:PA X (e::es) t)
  (d:Q5 (e::es) X.env=(false,eval e X.env)::Q5 es X.env:=by rfl) (g:(Rx pos (Q5 es X.env)).any (·.1)=ξ:=by rfl)
  (v:eval (.Call (.Attribute o m apos) (e::es) [] pos) X.env=(do
   let i <-eval o X.env
   standAt apos.atName
   let (f,first) <-holding [i] (S7 i m pl)
   callWith pos f first (Rx pos (Q5 (e::es) X.env)) (SI pos (SR [] X.env))):=by rfl):
  PE X (.Call (.Attribute o m apos) (e::es) [] pos) (bH C m sp dvs E ta t):=by
 intro b s j H Q I h
 refine Vw (pl:=pl) (cf (he b s j H _ I h) fun u y ⟨x,z,I1,B,a,dx,fs,D,G,l,q⟩=>?_) v
 subst D
 obtain rfl:u=Rf a:=B
 refine jP I1 G c hm l ?_
 refine Xq (first:=[.ref a]) (h₀:=X.base) I.ok.mod.kin hm.kp (cf (ha pos b y j z _ I1 q) fun us L ⟨vs,M,I2,r,J⟩=>⟨I2.kIn,?_⟩) d g
 exact DW (us:=.ref a::us) (vs:=.ref a::vs) F n p hd hx I2 (.cons rfl r) J
theorem Hu{pl:Sem Bool}(he:PE X o ta)(c:fR X.K C)(hm:E3 X.K C m f)(F:lQ X.prog X.w X.K X.mg X.base CX k f fd ps sp)(e:cH k X.A)(g:Binds X.K fd ps ds)(hd:bA dvs ds)(hx:jx CX X E)
  (i:eval (.Call (.Attribute o m apos) [] [] pos) X.env=(do
   let d <-eval o X.env
   standAt apos.atName
   let (f,first) <-holding [d] (S7 d m pl)
   callWith pos f first (Rx pos (Q5 [] X.env)) (SI pos (SR [] X.env))):=by rfl):
  PE X (.Call (.Attribute o m apos) [] [] pos) (bH C m sp dvs E ta ao):=by
 intro b s j H Q I h
 refine Vw (pl:=pl) (cf (he b s j H _ I h) fun u t ⟨x,v,I1,n,a,dx,fs,p,r,l,q⟩=>?_) i
 subst p
 obtain rfl:u=Rf a:=n
 refine jP I1 r c hm l ?_
 exact Xw (first:=[.ref a]) I1.kIn hm.kp (DW (us:=[.ref a]) (vs:=[.ref a]) F e g hd hx I1 (.cons rfl .nil) q)
structure Mk(K:QK)(C f:QI):Prop where
 makes:Vh K C=ω
 init:RV K (.ref C) "__init__"=ψ (ψ (.ref f))
 fn:VP K (.ref f)=ω
 kp:SO K (.ref C)=ω
theorem HI{a:⇑(QI×QP)}{c:St}{H:Hp}{s:QL}{Q:VK}{us:⇑QJ}{vs:⇑V}(M:Mk X.K C f)(F:lQ X.prog X.w X.K X.mg X.base CX k f fd ps sp)(i:cH (k+1) X.A)(j:Binds X.K fd ps ds)(hd:bA dvs ds)
  (hx:jx CX X E) (I:Inv X a c H s) (r:bA vs us)
  (h:∀x dx,H x=χ->H dx=χ->dx≠x->sp (.ref x::(vs++dvs)) (upd (upd H dx (.own x)) x (.ins C dx [])) (fun v l=>v=.non/\Q (.ref x) l) E):
  QM (model X.prog X.w) X.A (call (.ref C) us) (EP X a c Q) X.xe s:=by
 have d:=h (s.heap.objs.size+1) s.heap.objs.size (I.hok.fresh (SA _)) (I.hok.fresh (Q2 _)) (Rn (VW _))
 have I2:=Inv.made (C:=C) I
 have g:bA (V.ref (s.heap.objs.size+1)::(vs++dvs)) (Rf (s.heap.objs.size+1)::(us++ds)):=.cons rfl (r.append hd)
 have m:(Rf (s.heap.objs.size+1)::us++ds).length=ps.length:=by
  have e:=g.length
  rw[F.len _ _ _ _ d]at e
  exact e.symm
 refine wpAny_call (GK (f:=f) I.kIn M.makes M.init (beq_iff_eq.mp M.fn) (codeAny_mono (F.run _ X.stack _ _ ⟨Rf (s.heap.objs.size+1)::us,[]⟩ (Rf (s.heap.objs.size+1)::(us++ds)) _ _ E (i.make C us [])
  (I2.env0.make C us []) (j _ (Rf (s.heap.objs.size+1)::us) I2.kIn m) g d) fun r n b=>?_))
 cases r with
 |error e=>exact hx a c _ _ e n I2 b
 |ok o=>
  cases o with
  |ret u=>
   obtain⟨v,p,I3,q,t,y⟩:=I2.after b
   subst t
   exact⟨q,⟨V.ref (s.heap.objs.size+1),p,I3,rfl,y⟩⟩
  |next=>exact R9 b
  |brk=>exact R9 b
  |cont=>exact R9 b
theorem HK(M:Mk X.K C f)(F:lQ X.prog X.w X.K X.mg X.base CX k f fd ps sp)(c:cH (k+1) X.A)(d:Gl X x)(hm:X.mg x=ψ (.ref C))(e:Binds X.K fd ps ds)(hd:bA dvs ds)(hx:jx CX X E)
  (a:(x==("__debug__":QH))=ξ:=by decide):PE X (.Call (.Name x p) [] [] pos) (Cz C sp dvs E ao):=by
 intro b s g H Q I h
 refine VQ (pT I d hm ?_ a)
 exact Xw I.kIn M.kp (HI (us:=[]) M F c e hd hx I .nil h)
end
section
variable {X:Cx}{CX:Fy}{k:Nat}{f C:QI}{fd:Su}{ps ks:⇑QH}{sp:Sp}{E:XK}{x m:QH}{p pos apos kpos:Q9}{e o:QQ}{es:⇑QQ}{kws:⇑Keyword}{te ta:TE}{t tk:TA}{nm:Option QH}
variable {g:⇑QJ->⇑QJ->⇑QJ}{gV:⇑V->⇑V->⇑V}
end
structure au(N P:⇑QH)(sc:RG):Prop where
 kind:sc.kind=.function
 co:sc.isCoroutine=ξ
 gen:sc.isGenerator=ξ
 nd:N.Nodup
 pre:N.take P.length=P
 par:∀x∈P,sc.names.lookup x=ψ .local\/sc.names.lookup x=ψ .cell
 nofree:∀y∈sc.names,y.2≠.free
theorem y3{Si:QH->Option R4}{x:QH}:∀{a:⇑(QH×QJ)}{m:QH->Option QJ},(∀v,(x,v)∉a)->bindL Si a m x=m x
 |[],_,_=>rfl
 |(n,v)::r,m,h=>by
  unfold bindL
  rw[y3 fun w hw=>h w (Rm _ hw)]
  split
  .have:x≠n:=by rintro rfl;exact h v RW
   simp[this]
  .rfl
theorem yj{Si:QH->Option R4}{x:QH}:∀{a:⇑(QH×QJ)}{m:QH->Option QJ},(∀v,(x,v)∉a)->bindC Si a m x=m x
 |[],_,_=>rfl
 |(n,v)::r,m,h=>by
  unfold bindC
  rw[yj fun w hw=>h w (Rm _ hw)]
  split
  .rfl
  .have:x≠n:=by rintro rfl;exact h v RW
   simp[this]
theorem yh{Si:QH->Option R4}{x:QH}{v:QJ}:∀{P:⇑QH}{vs:⇑QJ}{i:Nat}{m:QH->Option QJ},P.Nodup->P[i]?=ψ x->vs[i]?=ψ v->Si x=ψ .local->
  bindL Si (P.zip vs) m x=ψ v
 |[],_,_,_,_,h,_,_=>by simp at h
 |_::_,[],_,_,_,_,h,_=>by simp at h
 |p::P,w::vs,0,m,c,a,b,d=>by
  simp at a b;subst a;subst b
  show bindL Si ((p,w)::P.zip vs) m p=_
  unfold bindL
  rw[y3 fun v e=>(RC.mp c).1 (T7 e).1,if_pos d]
  simp
 |p::P,w::vs,i+1,m,c,a,b,d=>by
  show bindL Si ((p,w)::P.zip vs) m x=_
  unfold bindL
  exact yh (i:=i) (RC.mp c).2 (by simpa using a) (by simpa using b) d
theorem yS{Si:QH->Option R4}{x:QH}{v:QJ}:∀{P:⇑QH}{vs:⇑QJ}{i:Nat}{m:QH->Option QJ},P.Nodup->P[i]?=ψ x->vs[i]?=ψ v->Si x≠some .local->
  bindC Si (P.zip vs) m x=ψ v
 |[],_,_,_,_,h,_,_=>by simp at h
 |_::_,[],_,_,_,_,h,_=>by simp at h
 |p::P,w::vs,0,m,c,a,b,d=>by
  simp at a b;subst a;subst b
  show bindC Si ((p,w)::P.zip vs) m p=_
  unfold bindC
  rw[yj fun v e=>(RC.mp c).1 (T7 e).1,if_neg d]
  simp
 |p::P,w::vs,i+1,m,c,a,b,d=>by
  show bindC Si ((p,w)::P.zip vs) m x=_
  unfold bindC
  exact yS (i:=i) (RC.mp c).2 (by simpa using a) (by simpa using b) d
def start(N:⇑QH)(vs:⇑V):St:=vs.map some++VS (N.length-vs.length) none
noncomputable def bS(CX:Fy)(P:Q0)(w:QX)(K:QK)(mg:QH->Option QJ)(base:QS)(N:⇑QH)(qual:QH)(scope:RG)(f:QI)(b:QJ)(A:Q6)(outer:⇑Ri)(s:QL)(H:Hp)(E:XK):Cx where
 prog:=P
 w:=w
 K:=K
 mg:=mg
 base:=base
 A:=A.deeper (RY qual scope s.heap.objs.size f b)
 N:=N
 s₀:=s
 H₀:=H
 env:=RY qual scope s.heap.objs.size f b
 outer:=outer
 stack:=RY qual scope s.heap.objs.size f b::outer
 ex:=[]
 calm:=ω
 fn:=fun _=>true
 pn:=[]
 xe:=fun e c=>QM (model P w) (A.deeper (RY qual scope s.heap.objs.size f b)) (leaving (RY qual scope s.heap.objs.size f b) e) (fun _ a=>CX outer H s E e a) (fun d a=>CX outer H s E d a) c
theorem Bv{a:RG}{n:Nat}{x:QH}(h:a.names.lookup x=ψ .cell):∃c,(RO n a.names []).lookup x=ψ c:=by
 have q:=Yp a.names n [] (.inl h)
 exact Option.isSome_iff_exists.mp q
theorem Gc{CX:Fy}{P:Q0}{w:QX}{K:QK}{mg:QH->Option QJ}{base:QS}{N ps:⇑QH}{qual:QH}{scope:RG}{f:QI}{t:QJ}{A:Q6}{outer:⇑Ri}{s C:QL}{H:Hp}{E:XK}{us:⇑QJ}{vs:⇑V}
  (S:au N ps scope) (hd:A.handled=χ) (g:CJ P w K mg base A outer s H) (J:vs.length=ps.length) (r:bA vs us)
  (x:InCallC s s.heap.objs.size (bindL (RY qual scope s.heap.objs.size f t).kindOf (ps.zip us) fun _=>none) (RO (s.heap.objs.size+1) scope.names []) (bindC (RY qual scope s.heap.objs.size f t).kindOf (ps.zip us) fun _=>none) C):
  Inv (bS CX P w K mg base N qual scope f t A outer s H E) [] (start N vs) H C:=by
 have G:ps.length<=N.length:=by have:=congrArg S8 S.pre;rw[RJ]at this;omega
 obtain⟨B,L,rfl,D⟩:=x.done
 have j:∀b:QI,b∉(bS CX P w K mg base N qual scope f t A outer s H E).ex:=fun b z=>absurd (show b∈([]:⇑QI)from z) ⋯
 refine⟨⟨g.mod,S.kind,rfl,rfl,Q2 _,fun y z c B d=>?_,fun y l=>?_,fun y c _ h=>?_,fun _=>hd,Around.frames_deeper g.frames,.inr ⟨rfl,rfl⟩,fun b z=>absurd z (j b),g.bs,g.bsz,fun b _ _=>j b,fun b z=>absurd z (j b),g.funs,g.frf⟩,
  rfl,g.bare,Un.kept D,⟨_,x.toInCall.ns,fun i y v B d M=>?_⟩,fun y c h=>⟨_,x.cell y c h⟩,g.hok.fresh (Q2 _),fun y c h=>?_,fun p m=>absurd (show p∈([]:⇑(QI×QP))from m) ⋯,g.hok.kept D,?_⟩
 .exact name_of_addr x.apart (Vd B) (Vd d)
 .have l:scope.names.lookup y=ψ .cell\/scope.names.lookup y=ψ .free:=l
  rcases l with l|l
  .exact Bv l
  .exact absurd rfl (S.nofree _ (Vd l))
 .exact Tj (x.above y c (Vd h))
 .have hi:i<vs.length:=by
   unfold start at d
   by_cases hi:i<vs.length
   .exact hi
   .rw[Uk (by simpa using hi)]at d
    rw[List.getElem?_replicate]at d
    split at d<;>cases d
  have ha:vs[i]?=ψ v:=by
   unfold start at d
   rw[TB (by simpa using hi),RU]at d
   cases e:vs[i]? with
   |none=>rw[e]at d;cases d
   |some a=>rw[e]at d;cases d;rfl
  obtain⟨u,F,I⟩:=r.get ha
  have m:ps[i]?=ψ y:=by
   rw[<-S.pre,List.getElem?_take_of_lt "`"];exact B
  have o:ps.Nodup:=by rw[<-S.pre];exact S.nd.sublist (List.take_sublist _ _)
  exists u,I
  rcases S.par y (Td m)with k|k
  .exact .inl ⟨k,yh o m F k⟩
  .obtain⟨c,e⟩:=Bv (n:=s.heap.objs.size+1) k
   refine .inr ⟨.inl k,c,e,?_⟩
   have q:=x.cell y c e
   rw[yS o m F (by show scope.names.lookup y≠_;rw[k];decide)]at q
   exact q
 .exact g.hok.fresh (Tj (x.above y c (Vd h)))
 .unfold start
  show _=N.length
  rw[RN,QR,List.length_replicate]
  omega
theorem Lj{CX:Fy}{P:Q0}{w:QX}{K:QK}{mg:QH->Option QJ}{base:QS}{k:Nat}{f:QI}{name qual:QH}{c:Arguments}{d:⇑QU}{scope:RG}{M kV l O a ct X:QJ}{R Y:Option QI}
  {B:Array (Option QJ)}{N ps:⇑QH}{sp:Sp} (Z:K.lookup f=ψ ⟨X,Y,.func (Tc name qual c d scope M kV l O R a ct),B⟩) (C:U8 K a qual=ω) (S:au N ps scope)
  (len:∀vs H Q E,sp vs H Q E->vs.length=ps.length)
  (h:∀(A:Q6)(outer:⇑Ri)(s:QL)(H:Hp)(vs:⇑V)(Q:VK)(E:XK),cH k (A.deeper (RY qual scope s.heap.objs.size f a))->sp vs H Q E->
   ∃t,vt (bS CX P w K mg base N qual scope f a A outer s H E) d t/\t {nx:=fun _ H'=>Q .non H',rt:=Q} (start N vs) H):
  lQ P w K mg base CX (k+1) f (Tc name qual c d scope M kV l O R a ct) ps sp:=by
 refine⟨len,fun A outer s H T us vs Q E D m hb r p=>?_⟩
 have hl:=len _ _ _ _ p
 have U:K.In s.heap:=m.mod.kin.keeps fun b o e=>(m.bs b o e).1
 have F:s.heap.NoLimit:=m.mod.nolimit.keeps fun b o e=>(m.bs b o e).1
 have i:∀y∈ps.zip us,scope.names.lookup y.1=ψ .local\/(scope.names.lookup y.1=ψ .cell/\((RO (s.heap.objs.size+1) scope.names []).lookup y.1).isSome=ω):=fun ⟨n,v⟩ hy=>by
  rcases S.par n (T7 hy).1 with q|q
  .exact .inl q
  .exact .inr ⟨q,Yp _ _ _ (.inl q)⟩
 refine codeAny_call_function D.depth (U _ _ Z) rfl S.co S.gen rfl (aag U C) (hb _ _ _ _ ?_)
 refine wpAny_newFunctionEnv_cells S.kind i fun α he W x=>?_
 subst he
 refine⟨F.keeps x.toInCall.keep,codeAny_func ?_⟩
 obtain⟨t,ht,hq⟩:=h A outer s H vs Q E (D.deeper _) p
 have I:Inv (bS CX P w K mg base N qual scope f a A outer s H E) [] (start N vs) H W:=Gc S D.hd m hl r x
 refine RX (ht [] W (start N vs) H _ I hq) (fun fl G j=>?_) fun e G j=>j
 have z:∀{g:St}{H':Hp}{v:V}{u:QJ},Inv (bS CX P w K mg base N qual scope f a A outer s H E) [] g H' G->RelV v u->Q v H'->CE outer P w H s Q u G:=
  fun {g H' v u} J L q=>⟨v,H',J.os,J.bare,J.base,J.hok,L,q⟩
 cases fl with
 |ret u=>
  obtain⟨v,g,H',J,L,q⟩:=j
  exact z J L q
 |next=>
  obtain⟨g,H',J,q⟩:=j
  exact z (v:=V.non) (u:=R0) J rfl q
 |brk=>
  obtain⟨_,_,_,q⟩:=j
  exact R9 q
 |cont=>
  obtain⟨_,_,_,q⟩:=j
  exact R9 q
section
variable {X:Cx}{x:QH}{p pos:Q9}{e:QQ}{es:⇑QQ}{t:TA}{id T:String}{r:⇑V->Hp->VK->Prop}
def dB(r:⇑V->Hp->VK->Prop)(t:TA):TE:=fun a H Q=>t a H fun b c=>r b c Q
theorem df(f:eB X (.builtin id) r)(g:Gl X x)(hm:X.mg x=χ)(i:Ut x=ψ (.builtin id))(ha:PA X (e::es) t)(hn:x≠"__name__":=by decide)(b:(x==("__debug__":QH))=ξ:=by decide)
  (he:Q5 (e::es) X.env=(false,eval e X.env)::Q5 es X.env:=by rfl) (c:(Rx pos (Q5 es X.env)).any (·.1)=ξ:=by rfl):PE X (.Call (.Name x p) (e::es) [] pos) (dB r t):=by
 intro a s d H Q I h
 refine VQ (iE I g hm i ?_ hn b)
 exact aaO (cf (ha pos a s d H _ I h) fun j k ⟨l,m,I1,n,o⟩=>f a k d m l j Q I1 n o) he c
theorem ja(f:eB X (.type T) r)(g:Gl X x)(hm:X.mg x=χ)(i:Ut x=ψ (.type T))(ha:PA X (e::es) t)(hn:x≠"__name__":=by decide)(b:(x==("__debug__":QH))=ξ:=by decide)
  (he:Q5 (e::es) X.env=(false,eval e X.env)::Q5 es X.env:=by rfl) (c:(Rx pos (Q5 es X.env)).any (·.1)=ξ:=by rfl):PE X (.Call (.Name x p) (e::es) [] pos) (dB r t):=by
 intro a s d H Q I h
 refine VQ (iE I g hm i ?_ hn b)
 exact TC (cf (ha pos a s d H _ I h) fun j k ⟨l,m,I1,n,o⟩=>f a k d m l j Q I1 n o) he c
end
end L2
namespace HT
open PySem PyProof.Rows
section
open PySem.SeqAt
open PySem.AutoSeq1 (wpAny_loadPart')
open PySem.MeetsSeq PySem.MeetsSeq2 PySem.MeetsSeq3
end
section
variable {prog:Q0}{w:QX}{A:Q6}{E:QJ->QL->Prop}{s:QL}
def wU(n d:Nat):Option Int->Nat
 |none=>d
 |some v=>if v<0 then(v+(n:Int)).toNat else min v.toNat n
theorem A2(n d:Nat):wU n d none=d:=rfl
theorem tX(n d k:Nat):wU n d (ψ (k:Int))=min k n:=by
 show(if(k:Int)<0 then((k:Int)+(n:Int)).toNat else min (k:Int).toNat n)=min k n
 rw[if_neg "`",Ws]
end
end HT
namespace L2
open PySem PySem.Spec PyProof.Rows
abbrev TO:=St->Hp->(Option Int->Hp->Prop)->Prop
noncomputable def PO(X:Cx)(e:Option QQ)(t:TO):Prop:=
 ∀(a:⇑(QI×QP))(s:QL)(b:St)(H:Hp)(Q:Option Int->Hp->Prop),Inv X a b H s->t b H Q->
  QM (model X.prog X.w) X.A (evalPart e X.env) (fun u d=>∃o c,Inv X a b c d/\IsPart u o/\Q o c) X.xe s
def dE:TO:=fun _ H Q=>Q none H
def fN(t:TE):TO:=fun a H Q=>t a H fun x b=>∃i,x=.int i/\Q (ψ i) b
theorem intsAre_of{ns:⇑Int}:∀{us:⇑QJ},bA (ns.map V.int) us->Tu us ns:=by
 induction ns with
 |nil=>intro us r;rw[TZ]at r;cases r;exact .nil
 |cons n ns a=>
  intro us r
  rw[Rk]at r
  cases r with
  |cons b c=>
   obtain⟨t,e⟩:=b
   subst e
   exact .cons n t (a c)
section
variable {X:Cx}{e:QQ}{te:TE}{lo hi:Option QQ}{tl th:TO}{pos p2:Q9}
theorem Kj:PO X none dE:=by
 intro a s b H Q I h
 rw[evalPart_none]
 exact Q8 ⟨none,H,I,.none,h⟩
theorem Jn(h:PE X e te):PO X (ψ e) (fN te):=by
 intro a s b H Q I hw
 rw[evalPart_some]
 refine cf (h a s b H _ I hw) fun u g ⟨x,c,I1,d,f⟩=>?_
 obtain⟨i,rfl,q⟩:=f
 obtain⟨t,rfl⟩:=d
 exact⟨ψ i,c,I1,.int i t,q⟩
noncomputable def Qf(X:Cx)(r:V->Option Int->Option Int->Hp->VK->Prop):Prop:=
 ∀(a:⇑(QI×QP))(s:QL)(b:St)(H:Hp)(x:V)(v c d:QJ)(lo hi:Option Int)(e:QI)(Q:VK),Inv X a b H s->RelV x v->s.heap.IsSliceOf e c d .none->IsPart c lo->IsPart d hi->r x lo hi H Q->
  ∃T id,U2 (.type T) "__getitem__"=pure (ψ (.builtin id))/\s.TypeIs v T/\QM (model X.prog X.w) X.A (getItem v (.ref e)) (EP X a b Q) X.xe s
def CM(r:V->Option Int->Option Int->Hp->VK->Prop)(te:TE)(tl th:TO):TE:=fun a H Q=>te a H fun x b=>tl a b fun l c=>th a c fun u d=>r x l u d Q
theorem G7{r:V->Option Int->Option Int->Hp->VK->Prop}(j:Qf X r)(he:PE X e te)(k:PO X lo tl)(m:PO X hi th):PE X (.Subscript e (.Slice lo hi none p2) pos) (CM r te tl th):=by
 intro a s d H Q I h
 refine Subscript_ (cf (he a s d H _ I h) fun v n ⟨x,o,I1,p,t⟩=>?_)
 refine wpAny_Slice (cf (k a n d o _ I1 t) fun f y ⟨l,z,I2,B,C⟩=>cf (m a y d z _ I2 C) fun g c ⟨u,i,I3,D,E⟩=>?_)
 rw[evalPart_none]
 refine Q8 ?_
 have I4:Inv X a d i {c with heap:=c.heap.push {cls:=.type "slice",data:=.fields #[f,g,.none]}}:=I3.kept (t':=c.toks) fun b K q=>Rj _ q
 obtain⟨T,id,F,G,J⟩:=j a {c with heap:=c.heap.push {cls:=.type "slice",data:=.fields #[f,g,.none]}} d i x v f g l u c.heap.objs.size Q I4 p (aax ..) B D E
 show QM (model X.prog X.w) X.A (subscriptTail e (.Slice lo hi none p2) v (.ref c.heap.objs.size)) (EP X a d Q) X.xe {c with heap:=c.heap.push {cls:=.type "slice",data:=.fields #[f,g,.none]}}
 exact tail_any (ops:=[.ref c.heap.objs.size,v]) G F J (by with_unfolding_all rfl)
def kX(xs:⇑V)(lo hi:Option Int):⇑V:=(xs.drop (HT.wU xs.length 0 lo)).take (HT.wU xs.length xs.length hi-HT.wU xs.length 0 lo)
theorem CD(xs:⇑V)(lo hi:Option Int):(kX xs lo hi).length<=xs.length:=by
 unfold kX
 rw[RJ,SX]
 omega
end
def Jj(n:Nat)(i:Int):Option Nat:=if 0<=i then(if i<n then some i.toNat else none)else if -(n:Int)<=i then some (i+n).toNat else none
def ux{α:Type}(xs:⇑α)(i:Int):Option α:=(Jj xs.length i).bind fun j=>xs[j]?
theorem J5{n:Nat}{i:Int}{j:Nat}(h:Jj n i=ψ j):seqIndex? i n=ψ j/\j<n/\-(n:Int)<=i/\i<n:=by
 unfold Jj at h
 by_cases b:0<=i
 .rw[if_pos b]at h
  by_cases a:i<n
  .rw[if_pos a]at h
   have e:i.toNat=j:=RE h
   exact⟨by rw[seqIndex_of b a,e],by omega,by omega,a⟩
  .rw[if_neg a]at h;cases h
 .rw[if_neg b]at h
  by_cases a:-(n:Int)<=i
  .rw[if_pos a]at h
   have e:(i+n).toNat=j:=RE h
   exact⟨by rw[seqIndex_neg "`" a,e],by omega,a,by omega⟩
  .rw[if_neg a]at h;cases h
theorem AF{α:Type}{xs:⇑α}{i:Int}{v:α}(h:ux xs i=ψ v):∃j,seqIndex? i xs.length=ψ j/\xs[j]?=ψ v/\j<xs.length/\-(xs.length:Int)<=i/\i<xs.length:=by
 unfold ux at h
 cases e:Jj xs.length i with
 |none=>rw[e]at h;cases h
 |some j=>
  rw[e]at h
  obtain⟨a,b,c,d⟩:=J5 e
  exact⟨j,a,h,b,c,d⟩
theorem ar{α:Type}{xs:⇑α}{j:Nat}{v:α}(h:xs[j]?=ψ v):ux xs (j:Int)=ψ v:=by
 have a:j<xs.length:=(Rw.mp h).1
 have e:Jj xs.length (j:Int)=ψ j:=by
  unfold Jj
  rw[if_pos "`",if_pos "`"];simp
 unfold ux;rw[e];exact h
theorem HH{α:Type}(xs:⇑α)(v:α):ux (xs++[v]) (-1)=ψ v:=by
 have a:(xs++[v]).length=xs.length+1:=⋯
 have e:Jj (xs++[v]).length (-1)=ψ xs.length:=by
  unfold Jj
  rw[a,if_neg "^",if_pos "`"]
  congr 1
  omega
 unfold ux
 rw[e]
 show(xs++[v])[xs.length]?=ψ v
 simp
def K2(b:QQ):Prop:=∀o i,subscripted b false o i=operate [o,i] (getItem o i)
noncomputable def NQ(X:Cx)(r:R2):Prop:=
 ∀(b slice:QQ)(a:⇑(QI×QP))(s:QL)(c:St)(H:Hp)(x y:V)(v u:QJ)(Q:VK),Inv X a c H s->RelV x v->RelV y u->r x y H Q->
  subscripted slice false v u=operate [v,u] (getItem v u)->QM (model X.prog X.w) X.A (subscriptTail b slice v u) (EP X a c Q) X.xe s
noncomputable def P2(X:Cx)(id:String)(r:V->⇑V->Hp->VK->Prop):Prop:=
 ∀(a:⇑(QI×QP))(s:QL)(b:St)(H:Hp)(x:V)(xs:⇑V)(v:QJ)(c:⇑QJ)(Q:VK),Inv X a b H s->RelV x v->bA xs c->r x xs H Q->
  QM (model X.prog X.w) X.A (call (.builtin id) (v::c)) (EP X a b Q) X.xe s
section
variable {X:Cx}{a b:QQ}{ta tb:TE}{pos:Q9}
theorem OI{r:R2}(d:NQ X r)(ha:PE X a ta)(e:PE X b tb)(f:K2 b):PE X (.Subscript a b pos) (az r ta tb):=by
 intro c s g H Q I h
 exact Subscript_ (Mf ha e I h fun v u i x y j I2 k l q=>d a b c i g j x y v u Q I2 k l q (f _ _))
def aY(K:QK):R2:=fun x y H Q=>∃p xs i v,x=.ref p/\y=.int i/\aD K H p xs/\ux xs i=ψ v/\Q v H
def gU(K:QK):R2:=fun x y H Q=>∃p xs i v,x=.ref p/\y=.int i/\d5 K H p xs/\ux xs i=ψ v/\Q v H
def Dt:R2:=fun x y H Q=>∃z i c,x=.str z/\y=.int i/\z.length<=QT/\ux z.cps.toList i=ψ c/\Q (.str ⟨#[c]⟩) H
theorem JP:NQ X (aY X.K):=by
 intro d slice a s l H x y v u Q I A B h m
 obtain⟨p,xs,i,z,rfl,rfl,C,he,q⟩:=h
 cases A
 obtain⟨t,rfl⟩:=B
 obtain⟨e,r,f,L⟩:=I.list C
 obtain⟨j,c,D,M,E,F⟩:=AF he
 obtain⟨w,n,g⟩:=r.get D
 have G:=r.length
 have hn:=uU
 have b:EP X a l Q w s:=⟨z,H,I,g,q⟩
 by_cases o:0<=i
 .have k:i.toNat=j:=by
   rw[seqIndex_of o F]at c
   exact RE c
  exact item_listR f.isList o "`" (by rw[k];simpa using n) b m
 .have k:(i+(e.toArray.size:Int)).toNat=j:=by
   rw[seqIndex_neg "`" E]at c
   rw[RH,<-G]
   exact RE c
  exact subscriptTail_builtinR (x:=w) f.isList.typeIs slot_list_getitem.lookup
   (wpAny_getItem_list_neg (Q:=fun r J=>r=w/\EP X a l Q r J) f.isList "`" (by rw[RH]<;>omega) "`" (by rw[k];simpa using n) ⟨rfl,b⟩) m
theorem ME:NQ X (gU X.K):=by
 intro b slice a s e H x y v u Q I g k h l
 obtain⟨p,xs,i,z,rfl,rfl,m,he,q⟩:=h
 cases g
 obtain⟨t,rfl⟩:=k
 obtain⟨n,r,f,E⟩:=I.tuple m
 obtain⟨j,o,A,F,G,J⟩:=AF he
 obtain⟨w,B,c⟩:=r.get A
 have C:=r.length
 have hn:=uU
 have d:EP X a e Q w s:=⟨z,H,I,c,q⟩
 exact subscriptTail_builtinR (x:=w) f.typeIs slot_tuple_getitem.lookup
  (getItem_tuple (j:=j) (Q:=fun r D=>r=w/\EP X a e Q r D) f "`" "`" (by rw[RH,<-C];exact o) (by simpa using B) ⟨rfl,d⟩) l
theorem Nm:NQ X Dt:=by
 intro a slice b s r H x y v u Q I e f h g
 obtain⟨z,i,c,rfl,rfl,w,he,q⟩:=h
 obtain⟨t,rfl⟩:=e
 obtain⟨A,rfl⟩:=f
 obtain⟨j,d,k,B,l,m⟩:=AF he
 have n:z.cps.toList.length=z.length:=by simp[UC]
 rw[n]at d l m
 have hn:=uU
 exact tail_any (typeIs_str s z t) slot_str_getitem.lookup (getItem_str (c:=c) (by
  have o:decide (i < -(2 ^ 63:Int))=ξ:=decide_eq_false "`"
  have p:decide (i≥2 ^ 63)=ξ:=decide_eq_false "`"
  rw[o,p,Bool.or_false]) (by rw[d];simpa using k) ⟨.str ⟨#[c]⟩,H,I.tok _,⟨_,rfl⟩,q⟩) g
theorem AK(lo hi:Option Int)(n:Nat):(T8 lo hi none n).1=((HT.wU n 0 lo:Nat):Int)/\(T8 lo hi none n).2.1=((HT.wU n n hi:Nat):Int)/\(T8 lo hi none n).2.2=1:=by
 refine⟨?_,?_,rfl⟩
 .cases lo with
  |none=>simp[T8,HT.wU]
  |some i=>
   simp only[T8,HT.wU,Zh,show(1:Int)>0 by decide,if_true]
   by_cases h:i<0
   .simp only[h,if_true]<;>omega
   .simp only[h,if_false]<;>omega
 .cases hi with
  |none=>simp[T8,HT.wU]
  |some i=>
   simp only[T8,HT.wU,Zh,show(1:Int)>0 by decide,if_true]
   by_cases h:i<0
   .simp only[h,if_true]<;>omega
   .simp only[h,if_false]<;>omega
theorem xr(its:⇑QJ)(lo hi:Option Int):slicePick its.toArray lo hi none=((its.drop (HT.wU its.length 0 lo)).take (HT.wU its.length its.length hi-HT.wU its.length 0 lo)).toArray:=by
 obtain⟨a,b,c⟩:=AK lo hi its.toArray.size
 unfold slicePick
 rw[a,b,c]
 simp only[sliceRange_one,pick_run,RH]<;>rfl
def xq(K:QK):V->Option Int->Option Int->Hp->VK->Prop:=fun x lo hi H Q=>∃a xs,x=.ref a/\aD K H a xs/\∀p,H p=χ->Q (.ref p) (upd H p (.lst (kX xs lo hi)))
theorem KH:Qf X (xq X.K):=by
 intro d s n H x v p t lo hi u Q I f g i j h
 obtain⟨a,xs,rfl,k,q⟩:=h
 cases f
 obtain⟨l,r,e,m⟩:=I.list k
 have c:=r.length
 refine⟨"list",_,slot_list_getitem.lookup,e.isList.typeIs,?_⟩
 refine wpAny_getItem_list_slice e.isList g i j .none ⋯ ?_ (by rw[RH]<;>omega)
 rw[xr,<-c]
 refine⟨.ref s.heap.objs.size,_,I.laid (t':=s.toks) (o:=.lst (kX xs lo hi)) (fun b w q=>Rj _ q) (Q2 _) ?_,rfl,q _ (I.hok.fresh (Q2 _))⟩
 exact⟨QV (CD xs lo hi) m,_,0,(r.drop (HT.wU xs.length 0 lo)).take (HT.wU xs.length xs.length hi-HT.wU xs.length 0 lo),Rt _ rfl⟩
def lR:V->Bool
 |.non=>true
 |.bl _=>true
 |.int _=>true
 |.str _=>true
 |_=>false
def Lo:V->V->Bool
 |.non,.non=>true
 |.bl a,.bl b=>a==b
 |.bl a,.int b=>(if a then 1 else 0)==b
 |.int a,.bl b=>a==(if b then 1 else 0)
 |.int a,.int b=>a==b
 |.str a,.str b=>a==b
 |_,_=>false
theorem Nk{A:Q6}{s:QL}{y x:V}{u v:QJ}(e:RelV y u)(c:RelV x v)(g:lR y=ω)(f:lR x=ω):Yo A s u v (Lo y x):=by
 cases y with
 |non=>
  cases e
  cases x with
  |non=>cases c;exact acB _
  |bl b=>cases c;exact abf b
  |int b=>obtain⟨t,rfl⟩:=c;exact aau b t
  |str b=>obtain⟨t,rfl⟩:=c;exact aa5 b t
  |_=>exact absurd (show false=ω from f) RA
 |bl a=>
  cases e
  cases x with
  |non=>cases c;exact aap a
  |bl b=>cases c;exact acb a b
  |int b=>obtain⟨t,rfl⟩:=c;exact acj a b t
  |str b=>obtain⟨t,rfl⟩:=c;exact aaR a b t
  |_=>exact absurd (show false=ω from f) RA
 |int a=>
  obtain⟨d,rfl⟩:=e
  cases x with
  |non=>cases c;exact aaJ a d
  |bl b=>cases c;exact abI a d b
  |int b=>obtain⟨t,rfl⟩:=c;exact abC a d b t
  |str b=>obtain⟨t,rfl⟩:=c;exact Yu a d b t
  |_=>exact absurd (show false=ω from f) RA
 |str a=>
  obtain⟨d,rfl⟩:=e
  cases x with
  |non=>cases c;exact abB a d
  |bl b=>cases c;exact aae a d b
  |int b=>obtain⟨t,rfl⟩:=c;exact XO a d b t
  |str b=>obtain⟨t,rfl⟩:=c;exact aaQ a d b t
  |_=>exact absurd (show false=ω from f) RA
 |_=>exact absurd (show false=ω from g) RA
def Ao(x:V)(u:QJ):Bool:=match u with
 |.none=>Lo .non x
 |.bool b=>Lo (.bl b) x
 |.int i _=>Lo (.int i) x
 |.str z _=>Lo (.str z) x
 |_=>false
theorem DQ{x y:V}{u:QJ}(r:RelV y u)(f:lR y=ω):Ao x u=Lo y x:=by
 cases y with
 |non=>cases r;rfl
 |bl b=>cases r;rfl
 |int i=>obtain⟨t,rfl⟩:=r;rfl
 |str z=>obtain⟨t,rfl⟩:=r;rfl
 |_=>exact absurd (show false=ω from f) RA
theorem qN{x:V}:∀{xs:⇑V}{us:⇑QJ},bA xs us->xs.all lR=ω->us.any (Ao x)=xs.any fun y=>Lo y x
 |_,_,.nil,_=>rfl
 |y::xs,u::us,.cons r t,f=>by
  rw[ZL,RI]at f
  rw[S4,S4,DQ r f.1,qN t f.2]
theorem i9{A:Q6}{s:QL}{x:V}{v:QJ}(b:RelV x v)(c:lR x=ω):∀{xs:⇑V}{us:⇑QJ},bA xs us->xs.all lR=ω->∀u∈us,Yo A s u v (Ao x u)
 |_,_,.nil,_=>fun u a=>by cases a
 |y::xs,u::us,.cons r t,f=>fun d a=>by
  rw[ZL,RI]at f
  rcases QW.mp a with rfl|a
  .rw[DQ r f.1];exact Nk r b f.1 c
  .exact i9 b c t f.2 d a
def Le(x:V)(xs:⇑V):Bool:=xs.any fun y=>Lo y x
def tV(K:QK)(a:Bool):R2:=fun x y H Q=>∃p xs,y=.ref p/\(aD K H p xs\/d5 K H p xs)/\lR x=ω/\xs.all lR=ω/\Q (.bl (if a then !Le x xs else Le x xs)) H
theorem Fc:fA X (Rz .In) (tV X.K false):=by
 intro d s j H x y v u Q I e g h
 obtain⟨p,xs,rfl,b,f,fs,q⟩:=h
 cases g
 rcases b with b|b
 .obtain⟨a,r,c,i⟩:=I.list b
  refine SeqAt.in_listAt (Ao x) c.isList (fun w hw=>i9 e f r fs w (by simpa using hw)) ⟨.bl _,H,I,rfl,?_⟩
  rw[show a.toArray.any (Ao x)=a.any (Ao x) by simp,qN r fs]
  exact q
 .obtain⟨a,r,c,i⟩:=I.tuple b
  refine SeqAt.in_tupleAt (Ao x) c (fun w hw=>i9 e f r fs w (by simpa using hw)) ⟨.bl _,H,I,rfl,?_⟩
  rw[show a.toArray.any (Ao x)=a.any (Ao x) by simp,qN r fs]
  exact q
theorem zG:fA X (Rz .NotIn) (tV X.K true):=by
 intro d s j H x y v u Q I e g h
 obtain⟨p,xs,rfl,b,f,fs,q⟩:=h
 cases g
 rcases b with b|b
 .obtain⟨a,r,c,i⟩:=I.list b
  refine SeqAt.notIn_listAt (Ao x) c.isList (fun w hw=>i9 e f r fs w (by simpa using hw)) ⟨.bl _,H,I,rfl,?_⟩
  rw[show a.toArray.any (Ao x)=a.any (Ao x) by simp,qN r fs]
  exact q
 .obtain⟨a,r,c,i⟩:=I.tuple b
  refine SeqAt.notIn_tupleAt (Ao x) c (fun w hw=>i9 e f r fs w (by simpa using hw)) ⟨.bl _,H,I,rfl,?_⟩
  rw[show a.toArray.any (Ao x)=a.any (Ao x) by simp,qN r fs]
  exact q
theorem zk:eB X (.builtin "len") (fun xs H Q=>∃p ys,xs=[.ref p]/\(aD X.K H p ys\/d5 X.K H p ys)/\Q (.int ys.length) H):=by
 intro f s j H xs k Q I r h
 obtain⟨p,ys,rfl,b,q⟩:=h
 obtain⟨u,rfl,g⟩:=vals1 r
 cases g
 have hn:=uU
 rcases b with b|b
 .obtain⟨c,d,e,i⟩:=I.list b
  have a:=d.length
  exact Calls.call_len_list e.isList (by simp only[RH]<;>omega) ⟨.int ys.length,H,I.tok _,⟨s.toks+1,by rw[RH,a]⟩,q⟩
 .obtain⟨c,d,e,i⟩:=I.tuple b
  have a:=d.length
  exact len_tuple e (by simp only[RH]<;>omega) ⟨.int ys.length,H,I.tok _,⟨s.toks+1,by rw[RH,a]⟩,q⟩
theorem Au:eB X (.builtin "len") (fun xs H Q=>∃z,xs=[.str z]/\z.length<=QT/\Q (.int z.length) H):=by
 intro a s b H xs c Q I r h
 obtain⟨z,rfl,d,q⟩:=h
 obtain⟨u,rfl,t,rfl⟩:=vals1 r
 have hn:=uU
 exact len_str "`" ⟨.int z.length,H,I.tok _,⟨_,rfl⟩,q⟩
noncomputable def Lp(K:QK)(T:String)(x:V)(H:Hp):Prop:=match x with
 |.str _=>T="str"
 |.int _=>T="int"
 |.ref p=>(T="list"/\∃xs,aD K H p xs)\/(T="tuple"/\∃o,K.lookup p=ψ o/\o.cls=.type "tuple"/\o.dict=χ)\/
   (T="dict"/\((∃kvs,H p=ψ (.dK kvs))\/∃kvs,H p=ψ (.dT kvs)))\/(T="set"/\∃S n,H p=ψ (.set S n))
 |_=>False
theorem IY{f:⇑(QI×QP)}{k:St}{H:Hp}{s:QL}{T:String}{x:V}{v:QJ}(I:Inv X f k H s)(r:RelV x v)(ty:Lp X.K T x H):
  s.TypeIs v T/\∀a,v=.ref a->∃h,s.heap.get? a=ψ h/\h.dict=none:=by
 cases x with
 |str z=>
  obtain⟨t,rfl⟩:=r
  cases(show T="str" from ty)
  exact⟨typeIs_str s z t,fun _ e=>nomatch e⟩
 |int i=>
  obtain⟨t,rfl⟩:=r
  cases(show T="int" from ty)
  exact⟨typeIs_int s i t,fun _ e=>nomatch e⟩
 |ref p=>
  cases r
  rcases ty with⟨rfl,xs,l⟩|⟨rfl,o,b,m,hd⟩|⟨rfl,b⟩|⟨rfl,S,n,b⟩
  .obtain⟨q,_,j,_⟩:=I.list l
   refine⟨j.isList.typeIs,fun a e=>?_⟩
   cases e
   obtain⟨o,n,e,c,hd,_⟩:=j
   exact⟨o,e,hd⟩
  .refine⟨⟨o,I.kIn p o b,m⟩,fun a e=>?_⟩
   cases e
   exact⟨o,I.kIn _ o b,hd⟩
  .have z:∃o,s.heap.get? p=ψ o/\o.ExactDict:=by
    rcases b with⟨kvs,b⟩|⟨kvs,b⟩
    .obtain⟨_,_,_,_,o,_,_,e,d,_⟩:=I.hok p _ b
     exact⟨o,e,d⟩
    .obtain⟨_,_,_,_,o,_,_,e,d,_⟩:=I.hok p _ b
     exact⟨o,e,d⟩
   obtain⟨o,e,d⟩:=z
   refine⟨⟨o,e,d.1⟩,fun a g=>?_⟩
   cases g
   exact⟨o,e,d.2.1⟩
  .obtain⟨o,_,_,_,e,d,_⟩:=I.hok p _ b
   refine⟨⟨o,e,d.1⟩,fun a g=>?_⟩
   cases g
   exact⟨o,e,d.2.1⟩
 |_=>exact R9 ty
def M8(K:QK)(T:String)(r:V->⇑V->Hp->VK->Prop)(b:TE):TE:=fun c H Q=>b c H fun x a=>Lp K T x a/\r x [] a Q
def lV(K:QK)(T:String)(r:V->⇑V->Hp->VK->Prop)(c:TE)(t:TA):TE:=fun a H Q=>c a H fun x b=>Lp K T x b/\t a b fun xs d=>r x xs d Q
variable {o e:QQ}{es:⇑QQ}{to:TE}{t:TA}{name:QH}{apos cpos:Q9}{T id:String}{r:V->⇑V->Hp->VK->Prop}
theorem NN(g:PlainAttrs T)(slot:Slot T name id)(d:typeOf (.builtin id)=pure (.type "method_descriptor"))(hm:P2 X id r)(i:PE X o to)
  (b:TQ o name X.env (eval o X.env)=eval o X.env:=by rfl) (c:(apos.endLine==cpos.line)=ω:=by rfl):PE X (.Call (.Attribute o name apos) [] [] cpos) (M8 X.K T r to):=by
 intro a s e H Q I h
 refine wpAny_Call_method0_late b c (cf (i a s e H _ I h) fun v j ⟨x,k,I1,f,ty,l⟩=>?_)
 obtain⟨m,n⟩:=IY I1 f ty
 exact⟨T,id,g,slot,d,m,n,UX rfl (WV (hm a j e k x [] v [] Q I1 f .nil l))⟩
theorem uy(l:PlainAttrs T)(slot:Slot T name id)(g:typeOf (.builtin id)=pure (.type "method_descriptor"))(hm:P2 X id r)(m:PE X o to)(ha:PA X (e::es) t)
  (c:TQ o name X.env (eval o X.env)=eval o X.env:=by rfl)
  (f:((Rx cpos (Q5 (e::es) X.env)).all (fun x=>!x.1)&&(SI cpos (SR [] X.env)).all (fun x=>x.1.isSome)
   && decide ((e::es).length+([]:⇑Keyword).length+(if([]:⇑Keyword).isEmpty then 0 else 1)<30))=ω:=by rfl)
  (d:(apos.endLine==cpos.line)=ω:=by rfl) (n:Q5 (e::es) X.env=(false,eval e X.env)::Q5 es X.env:=by rfl) (b:(Rx cpos (Q5 es X.env)).any (·.1)=ξ:=by rfl):
  PE X (.Call (.Attribute o name apos) (e::es) [] cpos) (lV X.K T r to t):=by
 intro a s i H Q I h
 refine wpAny_Call_method_late c f d rfl (cf (m a s i H _ I h) fun v p ⟨x,q,I1,j,ty,u⟩=>?_)
 obtain⟨w,y⟩:=IY I1 j ty
 exists T,id,l,slot,g,w,y
 have k:=ha cpos a p i q _ I1 u
 rw[n]at k ⊢
 refine UX (by show(false || (Rx cpos (Q5 es X.env)).any (·.1))=false;rw[b]<;>rfl) (Xg ?_)
 exact cf k fun z A ⟨B,C,I2,D,E⟩=>hm a A i C x B v z Q I2 j D E
end
noncomputable def Ly(X:Cx)(id:String)(r:V->⇑V->Hp->VK->Prop):Prop:=
 ∀(a:⇑(QI×QP))(s:QL)(b:St)(H:Hp)(x:V)(xs:⇑V)(v:QJ)(c:⇑QJ)(Q:VK),Inv X a b H s->RelV x v->bA xs c->r x xs H Q->
  QM (model X.prog X.w) X.A (call (.builtin id) (v::c)) (EP X a b Q) X.xe s
theorem bA.one:∀{x:V}{us:⇑QJ},bA [x] us->∃u,us=[u]/\RelV x u
 |_,_,.cons r .nil=>⟨_,rfl,r⟩
theorem bA.eraseIdx:∀{xs:⇑V}{us:⇑QJ}(i:Nat),bA xs us->bA (xs.eraseIdx i) (us.eraseIdx i)
 |_,_,_,.nil=>.nil
 |_,_,0,.cons _ t=>t
 |_,_,i+1,.cons r t=>.cons r (bA.eraseIdx i t)
theorem rg{α:Type}:∀(l:⇑α)(i:Nat),(l.eraseIdx i).length<=l.length
 |[],_=>Q2 _
 |_::_,0=>SA _
 |_::r,i+1=>Nat.succ_le_succ (rg r i)
section
variable {X:Cx}{pins:⇑(QI×QP)}{σ:St}{H:Hp}{s:QL}{l b:QI}{xs ys zs:⇑V}
theorem Inv.lset{its its':⇑QJ}{n:Nat}{f:Array QJ->Array QJ}{t':Nat}(I:Inv X pins σ H s)(a:H l=ψ (.lst xs))
  (e:s.heap.get? l=ψ {cls:=.type "list",data:=.seq its.toArray n}) (b:f its.toArray=its'.toArray) (c:bA ys its') (hz:ys.length<=QT):
  Inv X pins σ (upd H l (.lst ys)) {s with heap:=s.heap.update l (Vj f),toks:=t'}:=by
 have q:=abr e f
 rw[b]at q
 refine I.write (x:=l) (e:=l) (by rw[a];exact trivial) (.inl rfl) (fun h u d g=>(Tv s.heap (Vj f) (Rb d)).trans g) ⟨_,q⟩ ?_
 exact⟨hz,its',_,c,q⟩
theorem Inv.lnew{its:⇑QJ}{t':Nat}(I:Inv X pins σ H s)(a:bA ys its)(hz:ys.length<=QT):
  Inv X pins σ (upd H s.heap.objs.size (.lst ys)) {s with heap:=s.heap.push {cls:=.type "list",data:=.seq its.toArray},toks:=t'}:=
 I.laid (fun _ _ q=>Rj _ q) (Q2 _) ⟨hz,its,0,a,Rt _ rfl⟩
theorem Inv.fresh(I:Inv X pins σ H s):H s.heap.objs.size=none:=I.hok.fresh (Q2 _)
theorem Inv.lstM(I:Inv X pins σ H s)(a:H l=ψ (.lst xs)):xs.length<=QT/\∃(its:⇑QJ)(n:Nat),bA xs its/\xs.length=its.length/\s.heap.get? l=ψ {cls:=.type "list",data:=.seq its.toArray n}:=by
 obtain⟨z,its,n,r,e⟩:=I.hok l _ a
 exact⟨z,its,n,r,r.length,e⟩
theorem HF{n:Nat}(h:n<=QT):WQ n=ξ:=by
 unfold WQ
 exact decide_eq_false "`"
end
section
variable {X:Cx}
def dD:V->⇑V->Hp->VK->Prop:=fun x a H Q=>∃l xs y,x=.ref l/\a=[y]/\H l=ψ (.lst xs)/\xs.length<QT/\Q .non (upd H l (.lst (xs++[y])))
theorem yX:Ly X "list.append" dD:=by
 intro b s i H x j v k Q I d f h
 obtain⟨l,xs,y,rfl,rfl,c,m,q⟩:=h
 cases d
 obtain⟨u,rfl,g⟩:=f.one
 obtain⟨z,a,n,r,o,e⟩:=I.lstM c
 refine Sy Ye ⟨_,e,rfl⟩ F.entry_list_append (F.args_list_append_2 _ _) (PySem.list_append l a.toArray n u (by rw[RH];omega)) ⟨e,?_⟩
 refine⟨.non,_,I.lset (its':=a++[u]) c e ⋯ (r.append (.cons g .nil)) ?_,rfl,q⟩
 rw[RN,TH]
 omega
def La:V->⇑V->Hp->VK->Prop:=fun x c H Q=>∃l b xs a,x=.ref l/\c=[.ref b]/\H l=ψ (.lst xs)/\H b=ψ (.lst a)/\xs.length+a.length<=QT/\Q .non (upd H l (.lst (xs++a)))
theorem NR:Ly X "list.extend" La:=by
 intro g s A H x B v C Q I j k h
 obtain⟨l,b,xs,D,rfl,rfl,i,m,E,q⟩:=h
 cases j
 obtain⟨u,rfl,o⟩:=k.one
 cases o
 obtain⟨z,c,n,r,G,e⟩:=I.lstM i
 obtain⟨J,a,p,t,w,y⟩:=I.lstM m
 have f:c.toArray.size+a.toArray.size<=QT:=by rw[RH,RH];omega
 have d:¬(!c.toArray.isEmpty&&WQ (c.toArray.size+a.toArray.size))=ω:=by
  rw[HF f,Wl]
  exact RA
 refine Sy F.slot_list_extend ⟨_,e,rfl⟩ F.entry_list_extend (F.args_list_extend_2 _ _)
  (ab3 l c.toArray n b a.toArray p d (by rw[RH];omega) "`") ⟨e,y,?_⟩
 refine⟨.non,_,I.lset (its':=c++a) i e ⋯ (r.append t) ?_,rfl,q⟩
 rw[RN]
 omega
def Ib:V->⇑V->Hp->VK->Prop:=fun x a H Q=>∃l xs i k y,x=.ref l/\a=[.int i]/\H l=ψ (.lst xs)/\-(2 ^ 63)<=i/\i<2 ^ 63/\seqIndex? i xs.length=ψ k/\xs[k]?=ψ y/\Q y (upd H l (.lst (xs.eraseIdx k)))
theorem GQ:Ly X "list.pop" Ib:=by
 intro c s C H x D v E Q I f g h
 obtain⟨l,xs,i,k,y,rfl,rfl,d,j,m,o,p,q⟩:=h
 cases f
 obtain⟨u,rfl,A⟩:=g.one
 obtain⟨t,rfl⟩:=A
 obtain⟨z,a,n,r,B,e⟩:=I.lstM d
 obtain⟨w,hw,b⟩:=r.get p
 refine Sy Xr ⟨_,e,rfl⟩ F.entry_list_pop (F.args_list_pop_2 _ _)
  (abS l a.toArray n i t k w (fitsIndex_both j m) (by rw[RH,<-B];exact o) (by rw[<-Wu];exact hw) (by rw[RH];omega)) ⟨e,?_⟩
 refine⟨y,_,I.lset (its':=a.eraseIdx k) d e ?_ (r.eraseIdx k) ?_,b,q⟩
 .show a.toArray.eraseIdxIfInBounds k=(a.eraseIdx k).toArray
  rw[YM]
 .have:=rg xs k
  omega
def HE:R2:=fun x y H Q=>∃l b xs a,x=.ref l/\y=.ref b/\H l=ψ (.lst xs)/\H b=ψ (.lst a)/\xs.length+a.length<=QT/\∀p,H p=χ->Q (.ref p) (upd H p (.lst (xs++a)))
theorem Nv:fA X (Sj .Add) HE:=by
 intro d s t H x y v u Q I f g h
 obtain⟨l,b,xs,w,rfl,rfl,i,j,A,q⟩:=h
 cases f
 cases g
 obtain⟨z,c,n,r,B,e⟩:=I.lstM i
 obtain⟨C,a,D,k,m,o⟩:=I.lstM j
 refine aac e o ?_ (by rw[RH,RH];omega)
 have p:c.toArray++a.toArray=(c++a).toArray:=⋯
 rw[p]
 exact⟨.ref _,_,I.lnew (t':=s.toks) (r.append k) (by rw[RN];omega),rfl,q _ I.fresh⟩
end
section
variable {prog:Q0}{w:QX}{A:Q6}{E:QJ->QL->Prop}{s:QL}
end
section
variable {X:Cx}
end
end L2
namespace Att
open PySem PySem.W PySem.Calls PyProof.Rows
theorem tD{P:Params}{h:QS}:∀(ns:⇑Int)(vs:⇑QJ),WellAll P h vs (ns.map XZ)->Tu vs ns:=by
 intro ns
 induction ns with
 |nil=>
  intro vs w
  rw[TZ]at w
  cases w
  exact .nil
 |cons n ns c=>
  intro vs w
  rw[Rk]at w
  cases w with
  |cons a b=>
   cases a
   exact .cons _ _ (c _ b)
theorem Fi{l:OpenLaw}{n:Nat}(hn:l.most=ψ n){P:Params}{h:QS}{args:⇑WData}{b:⇑QJ}
  (c:l.row.toRowW.claim.pre args=ω) (j:WellAll P h b args):
  ∃a vs ns,b=[Rf a]/\args=[WData.list (ns.map XZ)]/\h.get? a=ψ {cls:=.type "list",data:=.seq vs.toArray}/\Tu vs ns/\ns.length<=n:=by
 have k:WShape.hasAll [] args [.list .int]=ω:=(pre_splitW c).1
 have m:l.pre.holds [] {args:=args}=ω:=(pre_splitW c).2
 obtain⟨d,r,rfl,o,p⟩:=hasAllW_cons k
 obtain rfl:=hasAllW_nil p
 obtain⟨xs,rfl,s⟩:=hasW_list o
 obtain⟨ns,rfl⟩:=items_int s
 have e:ns.length<=n:=by
  unfold Z4 at m
  have g:(WTm.not (.lt (.lit (.int (n:Int))) (.len (.arg 0)))).holds [] {args:=[.list (ns.map .int)]}=ω:=by
   have g:=(holds_andW m).1
   rw[hn]at g
   exact g
  have i:=condW_of g (w_not (w_lt w_lit (w_len_list (w_arg rfl))))
  rw[QR]at i
  refine YV fun q=>?_
  have t:(n:Int)<((ns.length:Nat):Int):=by omega
  first
   |(rw[decide_eq_true t]at i;exact absurd i "^")
   |(simp at i;omega)
 cases j with
 |cons u v=>
  cases v
  cases u with
  |list w f=>exact⟨_,_,ns,rfl,rfl,w,tD ns _ f,e⟩
theorem FJ(l:OpenLaw)(args:⇑WData):l.row.toRowW.claim.post args (.bool true) args=ω:=
 postW_of (r:=l.row.toRowW) (X:=(true==ω))
  (show Y7 [] (.bool true) .bool=ω by first|rfl|decide|simp[Y7,WShape.arms,WShape.armsAll])
  (show(WTm.eq .res (.lit (.bool true))).value [] {args:=args,res:=ψ (.bool true),after:=args}=ψ (.bool (true==ω))from w_eq_bool (w_res rfl) w_lit) rfl
theorem B9{l:OpenLaw}{n:Nat}{q:Q0}{c:⇑QH}{XP:(QH->Option QJ)->QS->Prop}{z:QX->QS->Prop}{d:DefRec}
  (hn:l.most=ψ n) (s:d.params.defaults=[])
  (call:∀(w:QX)(s₀ b:QL)(mg t:QH->Option QJ)(h:QI)(o:QP)(u m e:QJ)(a:QI)(vs:⇑QJ)(ns:⇑Int),
   Ground q c [] XP w s₀ mg t b.heap->z w b.heap->
   b.heap.get? h=ψ o->o.data=.func (docDef d.name d.params d.body d.scope u m e)->b.heap.CodeRec m d.name->mg d.name=ψ (.ref h)->
   b.heap.get? a=ψ {cls:=.type "list",data:=.seq vs.toArray}->Tu vs ns->ns.length<=n->b.gens=#[]->
   SM (model l.prog w) callerA (.call (.ref h) ⟨[.ref a],[]⟩) (fun r p=>r=.ok (.ret (.bool true))/\OldK b.heap p.heap/\p.os=b.os/\SW p.gens) b):
  WalkO q c XP z l.row.toRowW d [] (fun f vs=>Wk f vs):=by
 intro w s₀ b mg t G Y h o u m e E kV F hd v A x H B C as i D I y J
 obtain rfl:E=.none:=Dflts.none A s
 obtain rfl:kV=.none:=Dflts.noKw A
 obtain⟨a,vs,ns,rfl,rfl,j,g,k⟩:=Fi hn i y
 refine enter_call (codeAny_mono (call w s₀ b mg t h o u m e a vs ns G Y F (fd_plain hd) v x j g k H) fun r p K=>?_)
 obtain⟨rfl,L,M,N⟩:=K
 exact⟨.inl ⟨.bool true,.bool true,[],rfl,fun _=>rfl,.bool true,FJ l _,fun _=>⟨ab9,fun _ hm=>(nomatch hm)⟩⟩,L,M,N⟩
section
variable {prog:Q0}{w:QX}{A:Q6}{E:QJ->QL->Prop}{s:QL}{K:Frag}
end
end Att
namespace L2
open PySem PySem.Spec PyProof.Rows
theorem rn:∀{vs:⇑QJ}{ns:⇑Int},Tu vs ns->bA (ns.map V.int) vs
 |_,_,.nil=>.nil
 |_,_,.cons n t h=>.cons ⟨t,rfl⟩ (rn h)
def LI(H:Hp):Prop:=∀b,H b=χ\/∃o xs,H b=ψ (.frz o (.lst xs))
theorem IE{P:Q0}{w:QX}{K:QK}{mg I:QH->Option QJ}{CX:Fy}{k:Nat}{J a:QI}{S:Su}{x:QH}{sp:Sp}{c:QL}{vs:⇑QJ}{ns:⇑Int}
  (T:K.In c.heap) (p:c.heap.Ns RD mg) (f:c.heap.Ns builtinsNs I) (L:∀x:QH,x≠"__name__"->I x=Ut x) (t:c.heap.NoLimit) (hg:c.gens=#[])
  (ha:c.heap.get? a=ψ {cls:=.type "list",data:=.seq vs.toArray}) (hi:Tu vs ns) (U:ns.length<=QT) (hr:cH k callerA)
  (F:∀base:QS,K.In base->base.Ns RD mg->lQ P w K mg base CX k J S [x] sp) (l:∀(s:QL)(u:QJ),BindsTo s S ⟨[u],[]⟩ [(x,u)])
  (M:∀H:Hp,LI H->aD K H a (ns.map V.int)->sp [.ref a] H (fun v _=>v=.bl true) fun _ _ _=>False)
  (N:∀H e g,CX [] H c (fun _ _ _=>False) e g->False):
  SM (model P w) callerA (.call (.ref J) ⟨[.ref a],[]⟩) (fun r g=>r=.ok (.ret (.bool true))/\OldK c.heap g.heap/\g.os=c.os/\SW g.gens) c:=by
 have W:=rn hi
 have y:=hi.length
 have j:∀H:Hp,LI H->aD K H a (ns.map V.int)->mE P w H c.heap->(∀b,H b≠none->b=a)->(H a≠none->K.lookup a=χ)->
   SM (model P w) callerA (.call (.ref J) ⟨[.ref a],[]⟩) (fun r g=>r=.ok (.ret (.bool true))/\OldK c.heap g.heap/\g.os=c.os/\SW g.gens) c:=by
  intro H X hS A Y hK
  have base_of:∀{b:QI}{o:QP},c.heap.get? b=ψ o->H b=χ->(Ak c.heap H).get? b=ψ o:=fun e n=>GY e n
  have O:∀{b:QI}{o:QP}{es:Array SN}{B:Nat},c.heap.get? b=ψ o->o.data=.dict es B->H b=none:=fun {b o es B} e d=>by
   cases q:H b with
   |none=>rfl
   |some u=>
    have Q:b=a:=Y b (by rw[q];simp)
    subst Q
    rw[ha]at e;cases e
    have d':Wy vs.toArray _=Data.dict es B:=d
    cases d'
  have i:∀{b:QI}{m:QH->Option QJ},c.heap.Ns b m->(Ak c.heap H).Ns b m:=fun {b m} ⟨o,es,B,e,d,r⟩=>⟨o,es,B,base_of e (O e d),d,r⟩
  have C:K.In (Ak c.heap H):=fun b o e=>base_of (T b o e) (by
   cases q:H b with
   |none=>rfl
   |some u=>
    have Q:b=a:=Y b (by rw[q];simp)
    subst Q
    rw[hK (by rw[q];simp)]at e;cases e)
  have hM:Mod K mg (Ak c.heap H):=⟨C,i p,⟨I,i f,L⟩,let ⟨mc,h1,h2⟩:=t;⟨mc,i h1,h2⟩⟩
  have e0:CJ P w K mg (Ak c.heap H) callerA [] c H:=⟨rfl,hM,fun b o e=>Jt e,Uo (E2 _ _),trivial,fun b f=>absurd (show b∈([]:⇑QI)from f) ⋯,A,.of_eq hg⟩
  refine codeAny_mono ((F _ C (i p)).run callerA [] c H ⟨[.ref a],[]⟩ [.ref a] [.ref a] _ _ hr e0 (l c (.ref a)) (.cons rfl .nil) (M H X hS)) fun r g h=>?_
  cases r with
  |error e=>exact(N H e g h).elim
  |ok fl=>
   cases fl with
   |next=>exact R9 h
   |brk=>exact R9 h
   |cont=>exact R9 h
   |ret u=>
    obtain⟨v,H',os,D,un,E,r',q⟩:=h
    have q':v=.bl true:=q
    subst q'
    obtain rfl:u=Tb true:=r'
    refine⟨rfl,OldK.of_keep fun b o e=>?_,os,D⟩
    cases q:H b with
    |none=>exact un.keep b o e q (by intro z;exact absurd (show b∈([]:⇑QI)from z) ⋯) ⋯
    |some u=>
     rcases X b with z|⟨ob,xs,z⟩
     .rw[q]at z;cases z
     .have z2:=un.frzs b ob _ z
      obtain⟨Z,_⟩:=A b _ z
      obtain⟨e2,_⟩:=E b _ z2
      rw[e]at Z;cases Z
      exact e2
 cases R:K.lookup a with
 |some o=>
  have e:=T a o R
  rw[ha]at e
  cases e
  refine j (fun _=>none) (fun _=>.inl rfl) (.inr ⟨_,vs.toArray,_,R,rfl,rfl,rfl,by rw[RH,y];exact U,by simpa using W⟩) (fun b u z=>by have G:(none:Option HO)=ψ u:=z;cases G) (fun b z=>absurd rfl z) fun z=>absurd rfl z
 |none=>
  refine j (fun b=>if b=a then some (.frz {cls:=.type "list",data:=.seq vs.toArray} (.lst (ns.map V.int)))else none) (fun b=>?_) (.inl (.inr ⟨{cls:=.type "list",data:=.seq vs.toArray},if_pos rfl⟩)) (fun b u z=>?_) (fun b z=>?_) fun _=>R
  .by_cases f:b=a
   .exact .inr ⟨_,_,if_pos f⟩
   .exact .inl (if_neg f)
  .by_cases f:b=a
   .have G:=(if_pos f).symm.trans z
    cases G
    subst f
    exact⟨ha,by rw[QR];exact U,vs,_,W,ha⟩
   .have G:=(if_neg f).symm.trans z
    cases G
  .by_cases f:b=a
   .exact f
   .exact absurd (if_neg f) z
abbrev AS{K:QK}{h:QS}(_:K.In h):QK:=K
theorem Jo{l:ZZ}{n k:Nat}{q:Q0}{i:⇑QH}{XP:(QH->Option QJ)->QS->Prop}{E:QX->QS->Prop}{d:DefRec}{K:Params->QK}{CX:QX->Fy}{sp:QX->Sp}{x:QH}
  (hn:l.most=ψ n) (t:n<=QT) (y:d.params.defaults=[]) (L:cH k callerA)
  (M:∀(w:QX)(h:QS),E w h->(K w.params).In h)
  (F:∀(w:QX)(mg:QH->Option QJ)(r:QI)(h:QS),(K w.params).In h->h.Ns RD mg->mg d.name=ψ (.ref r)->
   ∃z:Su,(∀(s:QL)(u:QJ),BindsTo s z ⟨[u],[]⟩ [(x,u)])/\
    ∀base:QS,(K w.params).In base->base.Ns RD mg->lQ l.prog w (K w.params) mg base (CX w) k r z [x] (sp w))
  (A:∀(w:QX)(H:Hp)(a:QI)(ns:⇑Int),ns.length<=n->LI H->aD (K w.params) H a (ns.map V.int)->sp w [.ref a] H (fun v _=>v=.bl true) fun _ _ _=>False)
  (B:∀(w:QX)(H:Hp)(s:QL)(e:QJ)(C:QL),CX w [] H s (fun _ _ _=>False) e C->False):
  Yk q i XP E l.row.toRowW d [] (fun f vs=>Wk f vs):=by
 refine Att.B9 hn y fun w I m mg W r o X Z N a vs ns G Y ho hd O D p j c P=>?_
 have J:=M w _ Y
 obtain⟨z,Q,R⟩:=F w mg r _ J G.T.g D
 exact IE J G.T.g G.T.b G.T.builtins G.T.nolimit P p j (QV c t) L R Q (fun H S U=>A w H a ns c S U) fun H e C=>B w H m e C
def inClass(s:QU)(j:Nat):QU:=match s with
 |.ClassDef _ _ _ body _ _ _ _ _ _ _=>body.getD j (.Pass ⟨0,0,0,0⟩)
 |_=>.Pass ⟨0,0,0,0⟩
def jL(s:QU):Arguments:=match s with
 |.FunctionDef _ a _ _ _ _ _ _ _ _=>a
 |_=>{posonlyargs:=[],args:=[],vararg:=χ,kwonlyargs:=[],kw_defaults:=[],kwarg:=χ,defaults:=[]}
def cT(s:QU):⇑QU:=match s with
 |.FunctionDef _ _ b _ _ _ _ _ _ _=>b
 |_=>[]
def ag(s:QU):RG:=match s with
 |.FunctionDef _ _ _ _ _ _ sc _ _ _=>sc
 |_=>{kind:=.function,names:=[],isGenerator:=ξ,isCoroutine:=false}
abbrev qR:Fy:=fun _ _ _ _ _ _=>False
abbrev E0:XK:=fun _ _ _=>False
theorem Ef{X:Cx}:jx qR X E0:=fun _ _ _ _ _ _ _ h=>h.elim
structure LC(K:QK)(x qual:QH)(st:QU)(f:QI)(fd:Su):Prop where
 ex:∃(oc:QJ)(od:Option QI)(kV doc pm:QJ)(an:Option QI)(cdv ct:QJ)(osl:Array (Option QJ)),
  fd=Tc x qual (jL st) (cT st) (ag st) .none kV doc pm an cdv ct/\K.lookup f=ψ ⟨oc,od,.func fd,osl⟩/\U8 K cdv qual=ω
 kp:SO K (.ref f)=ω
section
variable {P:Q0}{w:QX}{K:QK}{mg:QH->Option QJ}{base:QS}
theorem LC.ok{x qual:QH}{st:QU}{f:QI}{fd:Su}{N ps:⇑QH}{k:Nat}{sp:Sp}(F:LC K x qual st f fd)(S:au N ps (ag st))(len:∀vs H Q E,sp vs H Q E->vs.length=ps.length)
  (a:∀(cdv:QJ)(A:Q6)(outer:⇑Ri)(s:QL)(H:Hp)(vs:⇑V)(Q:VK)(E:XK),cH k (A.deeper (RY qual (ag st) s.heap.objs.size f cdv))->sp vs H Q E->
   ∃t,vt (bS qR P w K mg base N qual (ag st) f cdv A outer s H E).nox (cT st) t/\t {nx:=fun _ H'=>Q .non H',rt:=Q} (start N vs) H):lQ P w K mg base qR (k+1) f fd ps sp:=by
 obtain⟨oc,od,kV,doc,pm,an,cdv,ct,osl,rfl,d,b⟩:=F.ex
 refine Lj d b S len fun A outer s H vs Q E hr c=>?_
 obtain⟨t,h,q⟩:=a cdv A outer s H vs Q E hr c
 exact⟨t,h.nox,q⟩
theorem Ic{x qual:QH}{st:QU}{f:QI}{h:QJ}{i e:Option QI}{d:Array (Option QJ)}{kV b g a ct:QJ}(l:K.lookup f=ψ ⟨h,i,.func (Tc x qual (jL st) (cT st) (ag st) .none kV b g e a ct),d⟩)
  (c:U8 K a qual=ω) (k:SO K (.ref f)=ω):LC K x qual st f (Tc x qual (jL st) (cT st) (ag st) .none kV b g e a ct):=⟨⟨h,i,kV,b,g,e,a,ct,d,rfl,l,c⟩,k⟩
end
theorem Bf{A:Q6}{k:Nat}(a:cH k A):A.units+1<cLine:=WM (Nat.add_le_add_left (by decide:1<=64) _) a.units
theorem EU{n:Nat}(h:n<=1000):n<QT:=WM h "^"
section
variable {X:Cx}
theorem pv(i:Nat){x:QH}{a:Q9}(c:X.N[i]?=ψ x:=by rfl)(d:NH X.env.scope x:=by first|exact VM rfl|exact VZ (VM rfl)|exact VZ (VZ rfl))(hd:(x==("__debug__":QH))=ξ:=by decide)
  (b:(x==("__classdict__":QH))=ξ:=by decide):PE X (.Name x a) (aa i):=Nz c d hd b
end
theorem Cg{A B:Prop}(h:B):if false=ω then A else B:=by
 rw[if_neg RA]
 exact h
theorem xk{A B:Prop}(h:A):if true=ω then A else B:=by
 rw[if_pos rfl]
 exact h
theorem K8{c A B:Prop}[Decidable c](a:c->A)(b:¬c->B):if c then A else B:=by
 by_cases h:c
 .rw[if_pos h]
  exact a h
 .rw[if_neg h]
  exact b h
theorem gG{c A B:Prop}[Decidable c](a:c)(h:B):if(!decide c)=ω then A else B:=by
 rw[decide_eq_true a]
 exact Cg h
def ah(H H':Hp):Prop:=∀b o,H b=ψ o->H' b=ψ o
theorem ah.refl(H:Hp):ah H H:=fun _ _ h=>h
theorem ah.trans{H d e:Hp}(a:ah H d)(b:ah d e):ah H e:=fun c o h=>b c o (a c o h)
theorem ah.free{H H':Hp}(e:ah H H'){l:QI}(h:H' l=Zd):H l=Zd:=by
 cases q:H l with
 |none=>rfl
 |some o=>
  rw[e l o q]at h
  cases h
theorem ah.seq{K:QK}{H H':Hp}{a:QI}{xs:⇑V}(e:ah H H')(h:aD K H a xs):aD K H' a xs:=by
 rcases h with(h|⟨o,h⟩)|h
 .exact .inl (.inl (e _ _ h))
 .exact .inl (.inr ⟨o,e _ _ h⟩)
 .exact .inr h
section
variable {prog:Q0}{w:QX}{A:Q6}{R:Result->QL->Prop}{s:QL}
theorem zF{k target iter:QQ}{l:⇑QQ}{scope:RG}{p:Q9}{it o:QJ}{env:Ri}(I:Nat->QL->Prop)
  (q:∀n s,I n s->QM (model prog w) A (R5 it) (fun r a=>match r with
   |none=>R (.ok .next) a
   |some v=>QM (model prog w) A (letOwnedTupleGo target it v) (fun _ s₀=>QM (model prog w) A (assign target env v) (fun _ e=>
     QM (model prog w) A (forIn l true fun c r=>if r=ω then do let ok <-isTrue c env (eval c env);pure (Uv ok)else pure (Uv r)) (fun ok b=>
      if ok=ω then QM (model prog w) A (eval k env) (fun x f=>
       QM (model prog w) A (call (.builtin "list.append") [o,x]) (fun _ g=>∃m,m<n/\I m g) (fun _ _=>False) f) (fun _ _=>False) b
      else ∃m,m<n/\I m b) (fun _ _=>False) e) (fun _ _=>False) s₀) (fun _ _=>False) a) (fun _ _=>False) s)
  (n:Nat) (h:I n s):
  SM (model prog w) A (.compLoop (.ListComp k [⟨target,iter,l,0⟩] scope p) 0 it o env) R s:=by
 refine codeAny_loop rfl I (fun n s B=>?_) n h
 show QM _ A ((compTurn (.ListComp k [⟨target,iter,l,0⟩] scope p) 0 it o env).onRaise (fun x=>do noteFrame x env;theTreesLotGoes x)) _ _ s
 refine wpAny_noted ?_
 rw[compTurn_list]
 refine QN (wpAny_standAt (QN (RX (q n s B) (fun r a i=>?_) fun _ _ d=>d.elim)))
 cases r with
 |none=>exact Q8 i
 |some v=>
  refine QN (RX i (fun _ s₀ t=>?_) fun _ _ d=>d.elim)
  refine QN (RX t (fun _ e u=>QN (RX u (fun ok b j=>?_) fun _ _ d=>d.elim)) fun _ _ d=>d.elim)
  cases ok with
  |false=>exact Q8 ⟨rfl,j⟩
  |true=>
   exact QN (QN (RX j (fun x f y=>QN (RX y (fun _ g z=>Q8 (Q8 ⟨rfl,z⟩)) fun _ _ d=>d.elim)) fun _ _ d=>d.elim))
end
def aX(env:Ri):⇑(QH×R4)->⇑(QH×QI)->⇑(QH×QI)
 |[],a=>a
 |(x,k)::r,a=>if k==.free then aX env r ((x,(env.cells.lookup x).getD 0)::a)else aX env r a
theorem j1{scope:RG}{env:Ri}(h:∀x∈scope.names,x.2=.free->∃c,env.cells.lookup x.1=ψ c):closureFor scope env=pure (aX env scope.names []):=by
 have all:∀(names:⇑(QH×R4))(b:⇑(QH×QI)),(∀x∈names,x.2=.free->∃c,env.cells.lookup x.1=ψ c)->
   (forIn names b fun (x:QH×R4) (r:⇑(QH×QI))=>(if(x.2==SD)=ω then do let a <-cellOf env x.1;pure (Uv ((x.1,a)::r))else pure (Uv r):Sem (ForInStep (⇑(QH×QI)))))=pure (aX env names b):=by
  intro names
  induction names with
  |nil=>intro b _;rfl
  |cons x r f=>
   intro b g
   obtain⟨n,k⟩:=x
   have i:=fun y j=>g y (Rm _ j)
   rw[UU]
   unfold aX
   by_cases e:(k==SD)=ω
   .obtain⟨c,l⟩:=g (n,k) RW (by simpa using e)
    have d:env.cells.lookup n=ψ c:=l
    have m:cellOf env n=pure c:=by unfold cellOf;rw[d]
    simp only[e,if_true,m,pure_bind,d,Option.getD_some]
    exact f _ i
   .simp only[e,Tr,if_false,pure_bind]
    exact f _ i
 have:=all scope.names [] h
 simp only[closureFor]
 first
  |exact this
  |(refine Ux ?_ (this);rfl)
  |(rw[show(forIn scope.names ([]:⇑(QH×QI)) _:Sem _)=_ from this];rfl)
theorem jI{env:Ri}:∀(names:⇑(QH×R4))(b:⇑(QH×QI))(x:QH)(c:QI),(x,c)∈aX env names b->((x,SD)∈names/\c=(env.cells.lookup x).getD 0)\/(x,c)∈b
 |[],_,_,_,h=>.inr h
 |(y,k)::r,b,x,c,h=>by
  unfold aX at h
  split at h
  .rename_i d
   have d:k=.free:=by simpa using d
   rcases jI r _ x c h with⟨a,f⟩|a
   .exact .inl ⟨Rm _ a,f⟩
   .rcases QW.mp a with e|a
    .cases e;subst d;exact .inl ⟨RW,rfl⟩
    .exact .inr a
  .rcases jI r _ x c h with⟨a,f⟩|a
   .exact .inl ⟨Rm _ a,f⟩
   .exact .inr a
theorem jk{env:Ri}:∀(names:⇑(QH×R4))(a:⇑(QH×QI))(p:QH×QI),p∈a->p∈aX env names a
 |[],_,_,h=>h
 |(y,k)::r,a,p,h=>by
  unfold aX
  split
  .exact jk r _ p (Rm _ h)
  .exact jk r _ p h
theorem jt{env:Ri}:∀(names:⇑(QH×R4))(a:⇑(QH×QI))(x:QH),(x,SD)∈names->(x,(env.cells.lookup x).getD 0)∈aX env names a
 |[],_,_,h=>nomatch h
 |(y,k)::r,a,x,h=>by
  unfold aX
  rcases QW.mp h with e|h
  .cases e
   rw[if_pos (by rfl)]
   exact jk r _ _ RW
  .split
   .exact jt r _ x h
   .exact jt r _ x h
theorem mem_lookup{α:Type}:∀{l:⇑(QH×α)}{x:QH}{c:α},(x,c)∈l->∃d,l.lookup x=ψ d
 |(k,v)::r,x,c,h=>by
  rw[Sz]
  cases a:x==k with
  |true=>exact⟨v,rfl⟩
  |false=>
   rcases QW.mp h with e|h
   .cases e;simp at a
   .exact mem_lookup h
theorem j0{env:Ri}{names:⇑(QH×R4)}{x:QH}{c:QI}(h:(aX env names []).lookup x=ψ c)(f:∀y∈names,y.2=.free->∃c,env.cells.lookup y.1=ψ c):
  (x,SD)∈names/\env.cells.lookup x=ψ c:=by
 rcases jI names [] x c (mem_of_lookup h)with⟨b,e⟩|b
 .obtain⟨d,hd⟩:=f _ b rfl
  have a:env.cells.lookup x=ψ d:=hd
  rw[a]at e
  exact⟨b,by rw[e];exact a⟩
 .exact nomatch b
theorem mY{env:Ri}{names:⇑(QH×R4)}{x:QH}(hx:(x,SD)∈names)(a:∀y∈names,y.2=.free->∃c,env.cells.lookup y.1=ψ c):
  ∃c,(aX env names []).lookup x=ψ c/\env.cells.lookup x=ψ c:=by
 obtain⟨d,hd⟩:=mem_lookup (jt names [] x hx)
 exact⟨d,hd,(j0 hd a).2⟩
theorem qT:∀(names:⇑(QH×R4))(n:Nat)(a:⇑(QH×QI))(x:QH),(x,Sk)∉names->(RO n names a).lookup x=a.lookup x
 |[],_,_,_,_=>rfl
 |(y,k)::r,n,a,x,h=>by
  unfold RO
  have c:(x,Sk)∉r:=fun z=>h (Rm _ z)
  split
  .rename_i b
   have b:k=.cell:=by simpa using b
   rw[qT r _ _ x c,Sz]
   cases d:x==y with
   |true=>
    have e:x=y:=by simpa using d
    exact absurd RW (by subst e;subst b;exact h)
   |false=>rfl
  .exact qT r n a x c
theorem zK:∀(names:⇑(QH×R4))(n:Nat)(a:⇑(QH×QI))(x:QH),(x,Sk)∈names->∃c,n<=c/\(RO n names a).lookup x=ψ c
 |[],_,_,_,h=>nomatch h
 |(y,k)::r,n,a,x,h=>by
  unfold RO
  by_cases b:(x,Sk)∈r
  .split
   .obtain⟨c,i,d⟩:=zK r (n+1) ((y,n)::a) x b
    exact⟨c,by omega,d⟩
   .exact zK r n a x b
  .have e:(x,Sk)=(y,k):=(QW.mp h).resolve_right b
   injection e with f g
   subst f
   subst g
   rw[if_pos (by rfl),qT r _ _ x b,Sz]
   simp
theorem Iu:∀(names:⇑(QH×R4))(h:QS)(a:⇑(QH×QI))(x:QH)(c:QI),(RO h.objs.size names a).lookup x=ψ c->(Tw h names).IsCell c none\/a.lookup x=ψ c
 |[],_,_,_,_,h=>.inr h
 |(y,k)::r,h,a,x,c,e=>by
  unfold RO at e
  unfold Tw
  by_cases b:(k==Sk)=ω
  .rw[if_pos b]at e ⊢
   have f:(RO (h.push {cls:=.type "cell",data:=.cell none}).objs.size r ((y,h.objs.size)::a)).lookup x=ψ c:=by rw[Sh];exact e
   rcases Iu r _ _ x c f with q|q
   .exact .inl q
   .rw[Sz]at q
    cases d:x==y with
    |true=>
     rw[d]at q
     have g:h.objs.size=c:=RE q
     subst g
     exact .inl ((show(h.push {cls:=.type "cell",data:=.cell none}).IsCell h.objs.size none from⟨_,Rt _ rfl,rfl⟩).keeps (pushCells_keeps _ _))
    |false=>rw[d]at q;exact .inr q
  .rw[if_neg b]at e ⊢
   exact Iu r h a x c e
theorem CQ:∀(names:⇑(QH×R4))(n:Nat)(d:⇑(QH×QI)),(∀x c,d.lookup x=ψ c->c<n)->(∀x y c,d.lookup x=ψ c->d.lookup y=ψ c->x=y)->
  ∀x y c,(RO n names d).lookup x=ψ c->(RO n names d).lookup y=ψ c->x=y
 |[],_,_,_,h=>h
 |(z,k)::r,n,d,j,m=>by
  unfold RO
  split
  .refine CQ r (n+1) _ (fun x c e=>?_) fun x y c e g=>?_
   .rw[Sz]at e
    cases i:x==z with
    |true=>rw[i]at e;exact(RE e)▸VW n
    |false=>rw[i]at e;exact Vr (j x c e)
   .rw[Sz]at e g
    cases i:x==z with
    |true=>
     rw[i]at e
     have l:n=c:=RE e
     cases f:y==z with
     | true => have a : x = z := by simpa using i
               have b:y=z:=by simpa using f
               rw[a,b]
     |false=>rw[f]at g;exact absurd (j y c g) (by rw[<-l];exact Sn n)
    |false=>
     rw[i]at e
     cases f:y==z with
     |true=>
      rw[f]at g
      have l:n=c:=RE g
      exact absurd (j x c e) (by rw[<-l];exact Sn n)
     |false=>rw[f]at g;exact m x y c e g
  .exact CQ r n d j m
structure r8(N0:⇑QH)(sc:RG)(N:⇑QH)(scope:RG)(mp:⇑(Option Nat)):Prop where
 kind:scope.kind=.function
 nd:(scope.names.map (·.1)).Nodup
 freeB:(scope.names.all fun x=>!decide (x.2=.free) || (decide (sc.names.lookup x.1=ψ .cell) || decide (sc.names.lookup x.1=ψ .free)))=ω
 len:mp.length=N.length
 map:((Q1 mp.length).all fun i=>match mp[i]? with
  |some (ψ j)=>(match N[i]?,N0[j]? with
   |some x,ψ y=>decide (x=y)&&decide (scope.names.lookup x=ψ .free)
   |_,_=>false)
  |_=>true)=ω
theorem r8.free{N0:⇑QH}{sc:RG}{N:⇑QH}{scope:RG}{mp:⇑(Option Nat)}(S:r8 N0 sc N scope mp):∀x∈scope.names,x.2=.free->sc.names.lookup x.1=ψ .cell\/sc.names.lookup x.1=ψ .free:=fun x a e=>by
 have q:=R7.mp S.freeB x a
 rw[decide_eq_true e]at q
 simpa using q
theorem r8.at{N0:⇑QH}{sc:RG}{N:⇑QH}{scope:RG}{mp:⇑(Option Nat)}(S:r8 N0 sc N scope mp){i j:Nat}(h:mp[i]?=ψ (ψ j)):
  ∃x,N[i]?=ψ x/\N0[j]?=ψ x/\scope.names.lookup x=ψ .free:=by
 have hi:i<mp.length:=(Rw.mp h).1
 have q:=R7.mp S.map i (R1.mpr hi)
 rw[h]at q
 simp only at q
 cases a:N[i]? with
 |none=>rw[a]at q;simp at q
 |some x=>
  cases b:N0[j]? with
  |none=>rw[a,b]at q;simp at q
  |some y=>
   rw[a,b]at q
   simp only[RI,decide_eq_true_eq]at q
   obtain⟨c,d⟩:=q
   subst c
   exact⟨x,rfl,rfl,d⟩
theorem dh{α:Type}:∀{l:⇑(QH×α)}{x:QH}{a:α},(l.map (·.1)).Nodup->(x,a)∈l->l.lookup x=ψ a
 |(k,v)::r,x,a,b,h=>by
  have b:(k::r.map (·.1)).Nodup:=b
  obtain⟨d,f⟩:=RC.mp b
  rw[Sz]
  rcases QW.mp h with e|c
  .cases e;simp
  .have g:(x==k)=ξ:=by
    cases i:x==k with
    |false=>rfl
    |true=>
     have e:x=k:=by simpa using i
     subst e
     exact(d (QO.mpr ⟨(x,a),c,rfl⟩)).elim
   rw[g]
   exact dh f c
def cE(mp:⇑(Option Nat))(a:St):St:=mp.map fun o=>o.bind fun j=>(a[j]?).join
noncomputable def dY(X:Cx)(N:⇑QH)(scope:RG)(C:QI)(cl:⇑(QH×QI))(s:QL)(H:Hp)(fp:⇑QI)(a:⇑(QI×QP)):Cx where
 prog:=X.prog
 w:=X.w
 K:=X.K
 mg:=X.mg
 base:=X.base
 A:=X.A
 N:=N
 s₀:=s
 H₀:=H
 env:=compEnvC scope (RO (C+1) scope.names cl) C X.env
 outer:=X.stack
 stack:=X.stack
 ex:=fp
 fn:=fun x=>decide (scope.names.lookup x=ψ .cell)
 calm:=X.calm
 pn:=X.pn++a
 xe:=fun _ _=>False
theorem eL{env:Ri}:∀{names:⇑(QH×R4)}{x:QH}{k:R4},(names.map fun (n,k)=>if(k==SD&&env.scope.kind==.function&&env.kindOf n==ψ .cell)then(n,Sk)else(n,k)).lookup x=ψ k->
  names.lookup x=ψ k\/(names.lookup x=ψ .free/\k=.cell/\env.kindOf x=ψ .cell)
 |[],_,_,h=>by simp at h
 |(n,b)::r,x,k,h=>by
  have d:=@eL env r x k
  rw[Rk]at h
  rw[Sz]
  cases c:x==n with
  |true=>
   have e:x=n:=by simpa using c
   subst e
   by_cases a:(b==SD&&env.scope.kind==.function&&env.kindOf x==ψ .cell)=ω
   .simp only[a,if_true,Sz,beq_self_eq_true,Yc]at h
    rw[RI,RI]at a
    obtain⟨⟨f,_⟩,g⟩:=a
    exact .inr ⟨by rw[show b=.free by simpa using f],h.symm,by simpa using g⟩
   .simp only[a,Tr,if_false,Sz,beq_self_eq_true,Yc]at h
    exact .inl (by rw[h])
  |false=>
   refine d ?_
   by_cases a:(b==SD&&env.scope.kind==.function&&env.kindOf n==ψ .cell)=ω
   .simpa only[a,if_true,Sz,c]using h
   .simpa only[a,Tr,if_false,Sz,c]using h
theorem M6{M:Model}{A:Q6}{E:QJ->QL->Prop}{s:QL}{scope:RG}{globals:QI}{cl:⇑(QH×QI)}{qual:QH}{env:Ri}{Q:Ri->QL->Prop}
  (h:Q {scope:=scope,locals:=s.heap.objs.size,globals:=globals,cells:=RO (s.heap.objs.size+1) scope.names cl,qual:=qual,func:=χ,code:=env.code,frame:=env.frame,builtins:=env.builtins}
   {s with heap:=Tw (s.heap.push {cls:=.type "dict",data:=.dict #[]}) scope.names}):
  QM M A (newFunctionEnv scope globals cl [] qual none .none (ψ env)) Q E s:=by
 simp only[newFunctionEnv,ZA,if_true]
 refine QN (wpAny_alloc ?_)
 refine QN (wpAny_layCells _ (fun c a cells=>by cases b:a==Sk<;>simp[b]) _ _ _ _ ?_)
 rw[show({s with heap:=s.heap.push {cls:=.type "dict",data:=.dict #[]}}:QL).heap.objs.size=s.heap.objs.size+1 from Sh ..]
 first
  |exact QN (Q8 (Q8 h))
  |exact Q8 h
  |(rw[U4];exact QN (Q8 (Q8 h)))
section
variable {X:Cx}{pins:⇑(QI×QP)}{σ:St}{H:Hp}{s:QL}
theorem FI{N:⇑QH}{scope:RG}{mp:⇑(Option Nat)}{fp:⇑QI}(S:r8 X.N X.env.scope N scope mp)(I:Inv X pins σ H s)(f:∀b∈fp,qf X pins H b)(Z:∀b∈fp,b<s.heap.objs.size):
  Inv (dY X N scope s.heap.objs.size (aX X.env scope.names []) s H fp pins) [] (cE mp σ) H {s with heap:=Tw (s.heap.push {cls:=.type "dict",data:=.dict #[]}) scope.names}:=by
 have D:∀b o,s.heap.get? b=ψ o->(Tw (s.heap.push {cls:=.type "dict",data:=.dict #[]}) scope.names).get? b=ψ o:=fun b o e=>pushCells_keeps _ _ b o (Rj _ e)
 have a:∀y∈scope.names,y.2=.free->∃c,X.env.cells.lookup y.1=ψ c:=fun y hy K=>I.ok.has y.1 (S.free y hy K)
 have k:∀x c,(aX X.env scope.names []).lookup x=ψ c->(x,SD)∈scope.names/\X.env.cells.lookup x=ψ c:=fun x c e=>j0 e a
 have L:∀x c,X.env.cells.lookup x=ψ c->c<s.heap.objs.size:=fun x c e=>by
  obtain⟨v,q⟩:=I.cell x c e
  exact q.lt
 have cell_of:∀x c,(RO (s.heap.objs.size+1) scope.names (aX X.env scope.names [])).lookup x=ψ c->(s.heap.objs.size+1<=c/\(x,Sk)∈scope.names)\/((x,SD)∈scope.names/\X.env.cells.lookup x=ψ c):=fun x c e=>by
  by_cases E:(x,Sk)∈scope.names
  .obtain⟨d,g,B⟩:=zK scope.names (s.heap.objs.size+1) (aX X.env scope.names []) x E
   rw[B]at e
   cases e
   exact .inl ⟨g,E⟩
  .rw[qT _ _ _ x E]at e
   exact .inr (k x c e)
 have t:∀x c,(RO (s.heap.objs.size+1) scope.names (aX X.env scope.names [])).lookup x=ψ c->∃v,(Tw (s.heap.push {cls:=.type "dict",data:=.dict #[]}) scope.names).IsCell c v:=fun x c e=>by
  have M:(RO (s.heap.push {cls:=.type "dict",data:=.dict #[]}).objs.size scope.names (aX X.env scope.names [])).lookup x=ψ c:=by rw[Sh];exact e
  rcases Iu scope.names _ _ x c M with q|q
  .exact⟨none,q⟩
  .obtain⟨v,z⟩:=I.cell x c (k x c q).2
   exact⟨v,z.keeps D⟩
 refine⟨⟨I.ok.mod,S.kind,I.ok.glob,I.ok.blt,Q2 _,?_,?_,?_,I.ok.hd,I.ok.frames,.inl rfl,?_,I.bs,QV I.ok.bsz I.sz,?_,?_,I.stack,I.stkFree⟩,
  rfl,I.bare,Un.kept D,⟨fun _=>none,?_,?_⟩,t,I.hok.fresh (Q2 _),?_,?_,I.hok.kept D,?_⟩
 ·
  refine CQ scope.names _ _ (fun x c e=>?_) fun x y c e M=>I.ok.inj x y c (k x c e).2 (k y c M).2
  exact Vr (L x c (k x c e).2)
 ·
  intro x E
  have key:(x,Sk)∈scope.names\/(x,SD)∈scope.names:=by
   have O:(relabel scope X.env).names.lookup x=ψ .cell\/(relabel scope X.env).names.lookup x=ψ .free:=E
   rcases O with q|q
   .rcases eL q with z|⟨z,_,_⟩
    .exact .inl (mem_of_lookup z)
    .exact .inr (mem_of_lookup z)
   .rcases eL q with z|⟨z,_,_⟩
    .exact .inr (mem_of_lookup z)
    .exact .inr (mem_of_lookup z)
  by_cases F:(x,Sk)∈scope.names
  .obtain⟨d,_,B⟩:=zK scope.names (s.heap.objs.size+1) (aX X.env scope.names []) x F
   exact⟨d,B⟩
  .obtain⟨d,B,_⟩:=mY (key.resolve_left F) a
   exact⟨d,by show(RO (s.heap.objs.size+1) scope.names (aX X.env scope.names [])).lookup x=ψ d;rw[qT _ _ _ x F];exact B⟩
 ·
  intro x c K e
  have F:(x,Sk)∈scope.names:=mem_of_lookup (of_decide_eq_true K)
  rcases cell_of x c e with⟨g,_⟩|⟨g,_⟩
  .exact WX g
  .have q1:=dh S.nd F
   have G:=dh S.nd g
   rw[q1]at G;cases G
 ·
  intro b A
  refine⟨Rn (Z b A),fun x c e z=>?_⟩
  subst z
  rcases cell_of x c e with⟨g,_⟩|⟨_,g⟩
  .exact absurd (Rq (Z c A) (WX g)) (Sn _)
  .exact(f c A).2.2.2.2.1 x c g rfl
 ·
  intro b o e A
  rcases(f b A).2.2.2.1 with z|z
  .exact I.ok.noex b o e z
  .exact absurd (Rq (Rq (Rc e) I.ok.bsz) z) (Sn _)
 ·
  intro b A hs
  rcases QW.mp (I.stkSub b hs)with z|z
  .exact(f b A).2.1 z
  .exact(f b A).2.2.1 z
 ·
  exact(abM s.heap (.type "dict")).keeps (pushCells_keeps _ _)
 ·
  intro i x v e1 e2 _
  have h:(mp.map fun o=>o.bind fun j=>(σ[j]?).join)[i]?=ψ (ψ v):=e2
  rw[RU]at h
  cases em:mp[i]? with
  |none=>rw[em]at h;cases h
  |some o=>
   rw[em]at h
   cases o with
   |none=>cases h
   |some j=>
    have J:(σ[j]?).join=ψ v:=RE h
    have e4:σ[j]?=ψ (ψ v):=by
     cases q:σ[j]? with
     |none=>rw[q]at J;cases J
     |some z=>rw[q]at J;exact congrArg some J
    obtain⟨y,g,B,P⟩:=S.at em
    have Q:some x=ψ y:=e1.symm.trans g
    cases Q
    have hm:=mem_of_lookup P
    have R:NH X.env.scope x:=(S.free _ hm rfl).elim (fun z=>.inr (.inl z)) fun z=>.inr (.inr z)
    obtain⟨m,hn,hl⟩:=I.loc
    obtain⟨u,r,l⟩:=hl j x v B e4 R
    refine⟨u,r,.inr ?_⟩
    have nc:(x,Sk)∉scope.names:=fun z=>by
     have G:=dh S.nd z
     rw[P]at G;cases G
    obtain⟨c,T,U⟩:=mY hm a
    have V:(RO (s.heap.objs.size+1) scope.names (aX X.env scope.names [])).lookup x=ψ c:=by rw[qT _ _ _ x nc];exact T
    have C:s.heap.IsCell c (ψ u):=by
     rcases l with⟨w,_⟩|⟨_,c',e5,e6⟩
     .exfalso
      have w:X.env.scope.names.lookup x=ψ .local:=w
      rcases S.free _ hm rfl with z|z
      .have z:X.env.scope.names.lookup x=ψ .cell:=z
       rw[w]at z;cases z
      .have z:X.env.scope.names.lookup x=ψ .free:=z
       rw[w]at z;cases z
     .rw[U]at e5;cases e5;exact e6
    refine⟨?_,c,V,C.keeps D⟩
    rename_i W
    have W:NH (relabel scope X.env) x:=W
    rcases W with z|z|z
    .exfalso
     rcases eL (show(relabel scope X.env).names.lookup x=ψ .local from z)with q|⟨_,q,_⟩
     .rw[P]at q;cases q
     .cases q
    .exact .inl z
    .exact .inr z
 ·
  intro x c e
  rcases cell_of x c e with⟨g,_⟩|⟨_,g⟩
  .exact I.hok.fresh (WX g)
  .exact I.freeC x c g
 ·
  intro p hp
  have Y:p∈X.pn++pins:=by simpa[dY]using hp
  obtain⟨e,n,ne,nf,d⟩:=I.pin p Y
  refine⟨D _ _ e,n,Rn (Rc e),fun z=>?_,d⟩
  rcases QW.mp (I.stkSub _ z)with q|q
  .exact ne q
  .exact nf q
 .show(mp.map _).length=N.length
  rw[QR]
  exact S.len
end
noncomputable def DR(X:Cx)(b:⇑QQ)(t:TT):Prop:=
 ∀(a:⇑(QI×QP))(s:QL)(d:St)(H:Hp)(Q:Bool->Hp->Prop),Inv X a d H s->t d H Q->
  QM (model X.prog X.w) X.A (forIn b true fun c r=>if r=ω then do let ok <-isTrue c X.env (eval c X.env);pure (Uv ok)else pure (Uv r)) (TP X a d Q) X.xe s
def cM:TT:=fun _ H Q=>Q true H
theorem Hk{X:Cx}:DR X [] cM:=fun _ _ _ H _ I h=>wpAny_tests_nil ⟨H,I,h⟩
theorem IL{X:Cx}{c:QQ}{t:TT}(h:PT X c t):DR X [c] t:=fun a s b H Q I q=>wpAny_tests_one (h a s b H Q I q)
noncomputable def cL(o:⇑(Option Nat))(g:TG)(p:TT)(q:TE)(J:It)(r:St)(H:Hp)(Q:VK):Prop:=
 ∀l,H l=χ->∃W:Nat->Nat->⇑V->St->Hp->Prop,(∃m,W 0 m [] (cE o r) (upd H l (.lst [])))/\∀i m c e f,W i m c e f->
  (J.stop i f/\Q (.ref l) f)\/(J.go i f/\c.length<QT/\∃Nx:⇑V->St->Hp->Prop,(∀d a h,Nx d a h->∃j,j<m/\W (i+1) j d a h)/\
   ∀x h,J.yld i f x h->g x e h fun a s=>p a s fun b k=>if b=ω then q a k fun v n=>n l=ψ (.lst c)/\Nx (c++[v]) a (upd n l (.lst (c++[v])))else Nx c a k)
def bp(b:⇑(Option Nat))(c:TI)(g:TG)(d:TT)(e:TE):TE:=fun a H Q=>c a H fun J f=>cL b g d e J a f Q
section
variable {X:Cx}{elt iter tg:QQ}{ifs:⇑QQ}{scope:RG}{pos:Q9}{N:⇑QH}{mp:⇑(Option Nat)}{wi:TI}{g:TG}{tt:TT}{te:TE}
theorem vh{a:⇑(QI×QP)}{σ:St}{Y:Hp}{B:QL}{it:QI}{fp:⇑QI}{O:Nat->QS->Prop}{J:It}{Q:VK}{RR:QJ->QI->Result->QL->Prop}{E:QJ->QL->Prop}
  (hc:X.calm=ω) (S:r8 X.N X.env.scope N scope mp) (I2:Inv X a σ Y B) (T:Turn X.prog X.w X.K tg J fp it O) (Z:O 0 B.heap) (f2:∀b∈fp,qf X a Y b)
  (hg:∀C cl s H fp a,PG (dY X N scope C cl s H fp a) tg g) (ht:∀C cl s H fp a,DR (dY X N scope C cl s H fp a) ifs tt) (he:∀C cl s H fp a,PE (dY X N scope C cl s H fp a) elt te)
  (k:cL mp g tt te J σ Y Q)
  (ν:∀(l C:QI)(m:QH->Option QJ)(I:QL)(H':Hp),Inv X a σ H' I->I.heap.Ns C m->H' C=χ->C≠X.env.locals->X.s₀.heap.objs.size<=C->(∀x c,X.env.cells.lookup x=ψ c->c≠C)->(∀p∈X.pn++a,p.1≠C)->
   Q (.ref l) H'->RR (.ref l) C (.ok .next) I):
  QM (model X.prog X.w) X.A (newList []) (fun j δ=>QM (model X.prog X.w) X.A (newFunctionEnv scope X.env.globals (aX X.env scope.names []) [] X.env.qual none .none (ψ X.env)) (fun P ε=>
   SM (model X.prog X.w) X.A (.compStart (.ListComp elt [⟨tg,iter,ifs,0⟩] scope pos) 0 (.ref it) j {P with scope:=relabel scope X.env}) (RR j P.locals) ε) E δ) E B:=by
 refine wpAny_newList ?_ (RL _)
 have I3:Inv X a σ (upd Y B.heap.objs.size (.lst [])) {B with heap:=B.heap.push {cls:=.type "list",data:=.seq ([]:⇑QJ).toArray}}:=I2.lnew (t':=B.toks) (its:=[]) .nil (RL _)
 have fl:Y B.heap.objs.size=none:=I2.fresh
 have nfl:B.heap.objs.size∉fp:=fun z=>by
  obtain⟨o,e,_⟩:=T.obj 0 _ Z _ z
  exact absurd (Rc e) (Sn _)
 have ζ:∀b∈fp,b<B.heap.objs.size:=fun b f=>by
  obtain⟨o,e,_⟩:=T.obj 0 _ Z b f
  exact Rc e
 have f3:∀b∈fp,qf X a (upd Y B.heap.objs.size (.lst [])) b:=fun b f=>by
  obtain⟨h0,hr⟩:=f2 b f
  exact⟨by rw[aj (Rn (ζ b f))];exact h0,hr⟩
 have k3:=k B.heap.objs.size fl
 clear k
 have α:O 0 (B.heap.push {cls:=.type "list",data:=.seq ([]:⇑QJ).toArray}):=T.keep 0 _ _ Z fun b _ o e=>Rj _ e
 have β:∀b∈fp,b<(B.heap.push {cls:=.type "list",data:=.seq ([]:⇑QJ).toArray}).objs.size:=fun b f=>by rw[Sh];exact Vr (ζ b f)
 generalize η:({B with heap:=B.heap.push {cls:=.type "list",data:=.seq ([]:⇑QJ).toArray}}:QL)=h at I3 ⊢
 have α:O 0 h.heap:=by rw[<-η];exact α
 have β:∀b∈fp,b<h.heap.objs.size:=by rw[<-η];exact β
 generalize B.heap.objs.size=l at *
 generalize upd Y l (.lst [])=R at *
 refine M6 ?_
 have I4:=FI S I3 f3 β
 obtain⟨W,⟨m0,w0⟩,θ⟩:=k3
 have L:O 0 (Tw (h.heap.push {cls:=.type "dict",data:=.dict #[]}) scope.names):=T.keep 0 _ _ α fun b _ o e=>pushCells_keeps _ _ b o (Rj _ e)
 generalize ξ:({h with heap:=Tw (h.heap.push {cls:=.type "dict",data:=.dict #[]}) scope.names}:QL)=s4 at I4 ⊢
 have L:O 0 s4.heap:=by rw[<-ξ];exact L
 have G:∀{H':Hp},(∀b∈fp,H' b=χ)->∀b∈fp,qf (dY X N scope h.heap.objs.size (aX X.env scope.names []) h R fp a) [] H' b:=fun {H'} hn b f=>by
  refine⟨hn b f,(I4.ok.exf b f).1,I4.ok.exfs b f,.inl f,(I4.ok.exf b f).2,fun p hp=>?_⟩
  exact(f3 b f).2.2.2.2.2 p (by simpa[dY]using hp)
 have ι:∀{D:St}{H':Hp}{I:QL}{ps:⇑(QI×QP)},Inv (dY X N scope h.heap.objs.size (aX X.env scope.names []) h R fp a) ps D H' I->Inv X a σ H' I:=fun {D H' I ps} I'=>
  I3.call' (ch:=fp) I'.os I'.base I'.hok I'.bare fun b f=>⟨(f3 b f).2.2.2.1,(f3 b f).2.1,(f3 b f).2.2.2.2.1,(f3 b f).2.2.2.2.2⟩
 have U:SM (model X.prog X.w) X.A (.compLoop (.ListComp elt [⟨tg,iter,ifs,0⟩] scope pos) 0 (.ref it) (.ref l) (compEnvC scope (RO (h.heap.objs.size+1) scope.names (aX X.env scope.names [])) h.heap.objs.size X.env)) (RR (.ref l) h.heap.objs.size) s4:=by
  refine zF (fun n I=>∃i j D H',Inv (dY X N scope h.heap.objs.size (aX X.env scope.names []) h R fp a) [] D H' I/\O i I.heap/\(∀b∈fp,H' b=χ)/\W i n j D H') ?_ m0
   ⟨0,[],cE mp σ,R,I4,L,fun b f=>(f3 b f).1,w0⟩
  rintro n s5 ⟨i,j,M,H5,I5,κ,μ,w5⟩
  rcases θ i n j M H5 w5 with⟨stop,q⟩|⟨go,hz,Nx,hN,step⟩
  .refine cf (T.done (dY X N scope h.heap.objs.size (aX X.env scope.names []) h R fp a) rfl rfl rfl hc i [] s5 M H5 _ I5 (G μ) κ stop) fun r s6 ⟨hr,I6⟩=>?_
   subst hr
   obtain⟨m,hn,_⟩:=I6.loc
   refine ν l _ m s6 H5 (ι I6) hn I6.free ?_ I3.sz (fun x c e z=>?_) (fun p hp z=>?_) q
   .exact Sf I3.lt
   .obtain⟨v,y⟩:=I3.cell x c e
    exact absurd y.lt (by rw[z];exact Sn _)
   .exact absurd (Rc (I3.pin p hp).1) (by rw[z];exact Sn _)
  .refine cf (T.item (dY X N scope h.heap.objs.size (aX X.env scope.names []) h R fp a) rfl rfl rfl hc i [] s5 M H5 _ I5 (G μ) κ go) fun r s6 ⟨u,hr,h6⟩=>?_
   subst hr
   refine cf h6 fun _ s7 ⟨x,H7,I7,r7,y7,γ,ρ⟩=>?_
   have τ:=I7.pinned (G ρ) (T.obj _ _ γ)
   have again:∀{s8:QL}{F:⇑V}{t:St}{H8:Hp},Inv (dY X N scope h.heap.objs.size (aX X.env scope.names []) h R fp a) ([]++uB fp s7.heap) t H8 s8->Nx F t H8->
     ∃m,m<n/\∃i j D H',Inv (dY X N scope h.heap.objs.size (aX X.env scope.names []) h R fp a) [] D H' s8/\O i s8.heap/\(∀b∈fp,H' b=χ)/\W i m j D H':=fun {s8 F t H8} I8 n8=>by
    obtain⟨m',hm,w8⟩:=hN F t H8 n8
    refine⟨m',hm,i+1,F,t,H8,I8.unpinned,T.keep _ _ _ γ fun b f o e=>(I8.pin (b,o) (SS _ (SS _ (jM f e)))).1,fun b f=>?_,w8⟩
    obtain⟨o,e,d⟩:=T.obj _ _ γ b f
    exact(I8.pin (b,o) (SS _ (SS _ (jM f e)))).2.1
   refine cf (hg _ _ _ _ _ _ _ s7 M H7 x u _ τ r7 (step x H7 y7)) fun _ s8 ⟨t,H8,I8,q8⟩=>?_
   refine cf (ht _ _ _ _ _ _ _ s8 t H8 _ I8 q8) fun b s9 ⟨H9,I9,q9⟩=>?_
   cases b with
   |false=>
    rw[if_neg RA]at q9 ⊢
    exact again I9 q9
   |true=>
    rw[if_pos rfl]at q9 ⊢
    refine cf (he _ _ _ _ _ _ _ s9 t H9 _ I9 q9) fun v φ ⟨y,H10,I10,r10,q10,n10⟩=>?_
    refine cf (yX _ φ t H10 (.ref l) [y] (.ref l) [v] (fun _ H'=>Nx (j++[y]) t H') I10 rfl (.cons r10 .nil) ⟨l,j,y,rfl,rfl,q10,hz,n10⟩) fun _ s11 ⟨_,H11,I11,_,q11⟩=>?_
    exact again I11 q11
 exact codeAny_compStart_list U (T.self _ 0 _ _ _ L U)
theorem KJ(t:X.calm=ω)(S:r8 X.N X.env.scope N scope mp)(hi:PI X tg iter wi)
  (u:∀C cl s H fp a,PG (dY X N scope C cl s H fp a) tg g) (z:∀C cl s H fp a,DR (dY X N scope C cl s H fp a) ifs tt) (he:∀C cl s H fp a,PE (dY X N scope C cl s H fp a) elt te)
  (B:∀x,foldedSetIterable iter X.env x=pure x:=by intro _;rfl):PE X (.ListComp elt [⟨tg,iter,ifs,0⟩] scope pos) (bp mp wi g tt te):=by
 intro a s r H Q I h
 rw[eval_ListComp]
 have d:∀y∈scope.names,y.2=.free->∃c,X.env.cells.lookup y.1=ψ c:=fun y D E=>I.ok.has y.1 (S.free y D E)
 refine wpAny_comprehension_free (use:=χ) rfl B (j1 d) S.kind (fun x F e=>dh S.nd (by rw[<-e];exact F)) ?_
 show QM _ _ (eval iter X.env) _ _ _
 refine cf (hi a s r H _ I h) fun v V f=>cf f fun G W i=>?_
 obtain⟨it,fp,Y,J,Z,e,I2,T,j,K,k⟩:=i
 subst e
 refine vh (RR:=fun n C=>compPost (model X.prog X.w) X.A X.xe none (EP X a r Q) n C) t S I2 T j K u z he k ?_
 intro l C m L M I' hn O f i P R q
 exact⟨m,hn,fun h' U=>⟨.ref l,M,I'.turned (t':=L.toks) (it:=C) (fun b o p e=>U.extBut b o p e) O (Rb (Rb f)) (.inr i) P R,rfl,q⟩⟩
theorem Js{i:Nat}{x:QH}{f j:Q9}(U:X.N.Nodup)(t:X.N[i]?=ψ x)(hx:Loc X.env.scope x)(V:X.calm=ω)(S:r8 X.N X.env.scope N scope mp)(hi:PI X tg iter wi)
  (W:∀C cl s H fp d,PG (dY X N scope C cl s H fp d) tg g) (Y:∀C cl s H fp d,DR (dY X N scope C cl s H fp d) ifs tt) (he:∀C cl s H fp d,PE (dY X N scope C cl s H fp d) elt te)
  (u:swapsWith (.ListComp elt [⟨tg,iter,ifs,0⟩] scope pos) (ψ (.Name x f)) j.line X.env=pure true)
  (B:X.fn x=ω\/X.env.scope.names.lookup x=ψ .local:=by first|exact .inl rfl|exact .inr rfl|assumption)
  (Z:∀x,foldedSetIterable iter X.env x=pure x:=by intro _;rfl):PS X (.Assign [.Name x f] (.ListComp elt [⟨tg,iter,ifs,0⟩] scope pos) j) (aV (bp mp wi g tt te) (af i)):=by
 intro d s P H D I h
 have n:∀y∈scope.names,y.2=.free->∃c,X.env.cells.lookup y.1=ψ c:=fun y hy B=>I.ok.has y.1 (S.free y hy B)
 rw[exec_Assign_Name_used _ _ _ _ u]
 refine QN (wpAny_standAt (QN ?_))
 show QM _ _ (do let _ <-comprehension (.ListComp elt [⟨tg,iter,ifs,0⟩] scope pos) scope X.env _ (newList []) false (eval iter X.env) (ψ (assign (.Name x f) X.env))) _ _ s
 refine QN (RX (wpAny_comprehension_free (use:=ψ (assign (.Name x f) X.env)) (Q:=fun _ p=>SP X d D .next p) rfl Z (j1 n) S.kind (fun x hx e=>dh S.nd (by rw[<-e];exact hx)) ?_) (fun _ p hq=>Q8 (Q8 hq)) fun _ _ e=>e)
 refine cf (hi d s P H _ I h) fun v s1 r=>cf r fun α s2 E=>?_
 obtain⟨it,fp,tn,J,H2,e,I2,T,F,f2,k⟩:=E
 subst e
 refine vh (Q:=fun y H1=>af i y P H1 D.nx) (RR:=fun G C=>compPost (model X.prog X.w) X.A X.xe (ψ (assign (.Name x f) X.env)) (fun _ p=>SP X d D .next p) G C) V S I2 T F f2 W Y he k ?_
 intro l C m p H' I' hn hC r E R h4 q
 show QM _ _ (assign (.Name x f) X.env (.ref l)) _ _ _
 refine wpAny_assign_Name (yn I' U t hx (v:=.ref l) rfl (fun K I'' ⟨a,L,ha⟩=>?_) B)
 have M:C≠a:=by
  rcases ha with z|z
  .rw[z];exact r
  .exact fun y=>R x a z y.symm
 exact⟨m,hn.sameBut L M,fun h' hb=>⟨_,H',I''.turned (t':=K.toks) (it:=C) (fun b o O e=>hb.extBut b o O e) hC (Rb (Rb r)) (.inr E) R h4,q⟩⟩
end
section
variable {mp:⇑(Option Nat)}{g:TG}{tt:TT}{te:TE}{σ:St}{H:Hp}{Q:VK}
theorem Gr{K:QK}{a:QI}{xs:⇑V}(h:QI->Nat->⇑V->St->Hp->Prop)(r:∀l,H l=χ->h l 0 [] (cE mp σ) (upd H l (.lst [])))
  (s:∀l i c d H',H l=χ->h l i c d H'->aD K H' a xs/\c.length<=i)
  (t:∀l i x c d H',H l=χ->xs[i]?=ψ x->h l i c d H'->g x d H' fun f u=>tt f u fun b k=>if b=ω then te f k fun v n=>n l=ψ (.lst c)/\h l (i+1) (c++[v]) f (upd n l (.lst (c++[v])))else h l (i+1) c f k)
  (hd:∀l c d H',H l=χ->h l xs.length c d H'->Q (.ref l) H') (hz:xs.length<=QT):cL mp g tt te (Fz K a) σ H Q:=by
 intro l hn
 exists fun i m c σ H=>m=xs.length-i/\i<=xs.length/\h l i c σ H,⟨xs.length,⋯,RL _,r l hn⟩
 rintro i m c d H' ⟨rfl,hi,p⟩
 obtain⟨q,ha⟩:=s l i c d H' hn p
 by_cases j:i<xs.length
 .refine .inr ⟨⟨xs,xs[i],q,by simp[j]⟩,by omega,h l (i+1),fun o f w z=>⟨xs.length-(i+1),by omega,rfl,j,z⟩,fun x w y=>?_⟩
  obtain⟨e,y⟩:=y
  subst e
  exact t l i x c d _ hn (y xs q) p
 .have e:i=xs.length:=by omega
  subst e
  exact .inl ⟨⟨xs,q,Q2 _⟩,hd l c d H' hn p⟩
theorem C9{lo:Int}{n:Nat}(f:QI->Nat->⇑V->St->Hp->Prop)(q:∀l,H l=χ->f l 0 [] (cE mp σ) (upd H l (.lst [])))
  (r:∀l i a c H',H l=χ->f l i a c H'->a.length<=i)
  (s:∀l i a c H',H l=χ->i<n->f l i a c H'->g (.int (lo+i)) c H' fun d t=>tt d t fun b j=>if b=ω then te d j fun v k=>k l=ψ (.lst a)/\f l (i+1) (a++[v]) d (upd k l (.lst (a++[v])))else f l (i+1) a d j)
  (hd:∀l a c H',H l=χ->f l n a c H'->Q (.ref l) H') (hz:n<=QT):cL mp g tt te (Gv lo n) σ H Q:=by
 intro l hn
 exists fun i m a σ H=>m=n-i/\i<=n/\f l i a σ H,⟨n,⋯,RL _,q l hn⟩
 rintro i m a c H' ⟨rfl,hi,p⟩
 have ha:=r l i a c H' hn p
 by_cases h:i<n
 .refine .inr ⟨h,by omega,f l (i+1),fun o d u w=>⟨n-(i+1),by omega,rfl,h,w⟩,fun x u y=>?_⟩
  obtain⟨e,y⟩:=y
  subst e y
  exact s l i a c _ hn h p
 .have e:i=n:=by omega
  subst e
  exact .inl ⟨Q2 _,hd l a c H' hn p⟩
end
section
variable {X:Cx}
theorem AU:eB X (.builtin "isinstance") (fun xs H Q=>∃x n t b,xs=[x,V.ty n]/\ph X.K H x t/\U0 X.K t (.type n)=ψ b/\Q (.bl b) H):=by
 intro c s i H xs j Q I r h
 obtain⟨x,n,t,b,rfl,ty,e,q⟩:=h
 obtain⟨u,d,rfl,f,a⟩:=vals2 r
 have a:d=V8 n:=a
 subst a
 exact EV I f ty e fun g=>⟨.bl b,H,I.tok g,rfl,q⟩
theorem Ja(f:X.calm=ω):eB X (.builtin "sum") (fun xs H Q=>∃(p:QI)(ns:⇑Int),xs=[.ref p]/\aD X.K H p (ns.map V.int)/\Q (.int ns.sum) H):=by
 intro c s t H xs v Q I r h
 obtain⟨p,ns,rfl,g,q⟩:=h
 obtain⟨u,rfl,i⟩:=vals1 r
 cases i
 obtain⟨a,j,l,w⟩:=I.list g
 have hi:Tu a ns:=intsAre_of j
 have b:AllInts a.toArray:=hi.allInts
 obtain⟨d,e⟩:=b.items
 have m:s.heap.IsList p (intItems d):=by rw[<-e];exact l.isList
 refine sum_intListG (I.ok.hd f) m fun x y n k=>⟨.int ns.sum,H,I.kept k,⟨n,?_⟩,q⟩
 have o:ns=numsOf (intItems d).toList:=by rw[<-e];exact hi.numsOf.symm
 rw[o,nums_intItems,preSum_eq,SU ⋯]
theorem sQ:eB X (.builtin "sorted") (fun xs H Q=>∃(p:QI)(ns:⇑Int),xs=[.ref p]/\aD X.K H p (ns.map V.int)/\ns.length<64/\∀(l:QI)(ms:⇑Int),H l=χ->ms.Perm ns->ms.Pairwise (·<=·)->Q (.ref l) (upd H l (.lst (ms.map V.int)))):=by
 intro g s x H xs y Q I r h
 obtain⟨p,ns,rfl,j,f,q⟩:=h
 obtain⟨u,rfl,k⟩:=vals1 r
 cases k
 obtain⟨c,m,n,z⟩:=I.list j
 have hi:Tu c ns:=intsAre_of m
 have A:=hi.length
 refine sorted_ints n.isList hi "`" fun d ms t i v=>?_
 obtain⟨e,he⟩:=sortedAll_at s.heap c d
 have w:H (s.heap.objs.size+1)=none:=I.hok.fresh (SA _)
 refine⟨.ref (s.heap.objs.size+1),_,I.laid (t':=s.toks) (a:=s.heap.objs.size+1) (o:=.lst (ms.map V.int)) (fun b u e=>sortedAll_old e) (SA _) ⟨?_,d.toList,e,rn t,?_⟩,rfl,q _ ms w i v⟩
 .rw[QR,i.length_eq]
  exact QV (Tj f) "^"
 .rw[Wg]
  exact he
theorem IX(x:X.calm=ω):eB X (.builtin "all") (fun xs H Q=>∃(p:QI)(bs:⇑Bool),xs=[.ref p]/\aD X.K H p (bs.map V.bl)/\Q (.bl (bs.all id)) H):=by
 intro n s M H xs N Q I r h
 obtain⟨p,bs,rfl,y,q⟩:=h
 obtain⟨u,rfl,z⟩:=vals1 r
 cases z
 obtain⟨a,t,j,O⟩:=I.list y
 have k:p<s.heap.objs.size:=by obtain⟨_,e,_⟩:=j.isList;exact Rc e
 have c:a.length=bs.length:=by rw[<-t.length,QR]
 refine call_all_walk (Vi j.isList ?_)
 refine⟨s.heap.objs.size,_,_,_,_,_,fun i=>(bs[i]?).getD true,rfl,YE (A:=X.A.in1) (I.ok.hd x) _ p (Rn k) a.toArray,⟨⟨_,Rt _ rfl,rfl,rfl⟩,j.isList.push _⟩,?_,fun P R B=>?_⟩
 .intro i v C D S E g
  have d:a[i]?=ψ v:=by simpa using E
  have hi:i<bs.length:=by rw[<-c];exact(Rw.mp d).1
  have F:(bs.map V.bl)[i]?=ψ (V.bl bs[i]):=by simp[hi]
  obtain⟨T,w,l⟩:=t.get F
  rw[d]at w
  cases w
  have l:v=Tb bs[i]:=l
  subst l
  have G:(bs[i]?).getD true=bs[i]:=by simp[hi]
  have g:D ((bs[i]?).getD true) C:=g
  rw[G]at g
  exact UH g
 .have J:((Q1 a.toArray.size).all fun i=>(bs[i]?).getD true)=bs.all id:=by
   rw[RH,c]
   apply RZ.mpr
   rw[R7,R7]
   constructor
   .intro m b L
    obtain⟨i,hi,e⟩:=Sa L
    have:=m i (R1.mpr hi)
    simp[hi]at this
    rw[<-e]
    simpa using this
   .intro m i hi
    have f:=R1.mp hi
    have:=m bs[i] (R3 f)
    simpa[f]using this
  rw[J]
  exact⟨.bl (bs.all id),H,I.kept fun b o e=>B b o (by simp;exact Rn (Rc e)) (Rj _ e),rfl,q⟩
def IU(K:QK)(c:Bool):R2:=fun x y H Q=>∃(a b:QI)(ns d:⇑Int),x=.ref a/\y=.ref b/\aD K H a (ns.map V.int)/\aD K H b (d.map V.int)/\Q (.bl (decide (ns=d) != c)) H
theorem C3(g:X.A.units+64<cLine):fA X (Rz .NotEq) (IU X.K true):=by
 intro e s w H x y v u Q I i j h
 obtain⟨a,b,k,l,rfl,rfl,m,n,q⟩:=h
 cases i
 cases j
 obtain⟨o,p,r,z⟩:=I.list m
 obtain⟨f,c,d,t⟩:=I.list n
 refine aaA r.isList d.isList (intsAre_of p) (intsAre_of c) g ⟨.bl (!decide (k=l)),H,I,rfl,?_⟩
 rw[TM]at q
 exact q
def OD(i j:Int):Prop:=0<=j/\(W9 i:Int)*j<=2 ^ 27
end
def gX:R2:=CI fun i j=>.int (i+j)
def xo:R2:=CI fun i j=>.int (i-j)
def j7:Int:=10 ^ 1000
theorem Bu{i:Int}(c:-j7<i)(d:i<j7):i.natAbs.log2<4000:=by
 have e:j7<=2 ^ 4000:=nofun
 rcases WZ i.natAbs with a|b
 .rw[a];decide +kernel
 .refine(Wv (Sf b)).mpr ?_
  have:(i.natAbs:Int)<2 ^ 4000:=by omega
  exact_mod_cast this
theorem yB{i:Int}(a:-j7<i)(b:i<j7):W9 i<=2 ^ 20:=by
 have h:=Bu a b
 have e:(4001:Nat)<=2 ^ 20:=by decide
 unfold W9
 split
 .exact RL _
 .omega
def GI(i j:Int):Prop:=JD i j\/((-j7<i/\i<j7)/\-j7<j/\j<j7)
theorem GI.ok{i j:Int}(h:GI i j):IntMulOk i j:=h.elim JD.ok fun h=>.of_bits (yB h.1.1 h.1.2) (yB h.2.1 h.2.2)
def OX(_ j:Int):Prop:=0<j/\j<j7
theorem Cc:(1073741824:Int)<j7:=nofun
def ka:R2:=rI GI fun i j=>.int (i*j)
def oDiv:R2:=rI OX fun i j=>.int (i/j)
def oMod:R2:=rI (fun _ j=>0<j) fun i j=>.int (i%j)
def Ou(i j:Int):Prop:=PR i j\/OD i j
def FF:R2:=rI Ou fun i j=>.int (i ^ j.toNat)
def oLt:R2:=CI fun i j=>.bl (decide (i<j))
def oLe:R2:=CI fun i j=>.bl (decide (i<=j))
def N1:R2:=CI fun i j=>.bl (decide (j<i))
def Oi:R2:=CI fun i j=>.bl (decide (j<=i))
def Ap:R2:=fun x y H Q=>y=.non/\Q (.bl (decide (x=.non))) H
def Ey:R2:=fun x y H Q=>y=.non/\Q (.bl (!decide (x=.non))) H
def c9(K:QK):⇑V->Hp->VK->Prop:=fun xs H Q=>∃p ys,xs=[.ref p]/\(aD K H p ys\/d5 K H p ys)/\Q (.int ys.length) H
def OC(K:QK):⇑V->Hp->VK->Prop:=fun xs H Q=>∃x n t b,xs=[x,V.ty n]/\ph K H x t/\U0 K t (.type n)=ψ b/\Q (.bl b) H
def Bb(K:QK):⇑V->Hp->VK->Prop:=fun xs H Q=>∃(p:QI)(ns:⇑Int),xs=[.ref p]/\aD K H p (ns.map V.int)/\Q (.int ns.sum) H
noncomputable def EC(K:QK):⇑V->Hp->VK->Prop:=fun xs H Q=>∃(p:QI)(ns:⇑Int),xs=[.ref p]/\aD K H p (ns.map V.int)/\ns.length<64/\∀(l:QI)(a:⇑Int),H l=χ->a.Perm ns->a.Pairwise (·<=·)->Q (.ref l) (upd H l (.lst (a.map V.int)))
def Hj(K:QK):⇑V->Hp->VK->Prop:=fun xs H Q=>∃(p:QI)(bs:⇑Bool),xs=[.ref p]/\aD K H p (bs.map V.bl)/\Q (.bl (bs.all id)) H
def Kq:⇑V->Hp->VK->Prop:=fun xs H Q=>∃i j,xs=[.int i,.int j]/\Q (.int (if j<i then j else i)) H
def Mm:⇑V->Hp->VK->Prop:=fun xs H Q=>∃i j,xs=[.int i,.int j]/\Q (.int (if j>i then j else i)) H
def Az(K:QK):⇑V->Hp->VK->Prop:=fun xs H Q=>∃p ys,xs=[.ref p]/\(aD K H p ys\/d5 K H p ys)/\∀l,H l=χ->Q (.ref l) (upd H l (.lst ys))
section
variable {X:Cx}
theorem Jw:fA X (Sj .Add) gX:=MY
theorem Kr:fA X (Sj .Sub) xo:=Np
theorem Jq:fA X (Sj .Mult) ka:=OO fun _ _ _ _ _ _ _ a q=>mul_int q a.ok
theorem KG:fA X (Sj .FloorDiv) oDiv:=OO fun i j _ _ _ _ _ a q=>by
 have d:(0:Int)<j:=a.1
 have b:j<j7:=a.2
 have c:-j7<j:=by have:=Cc;omega
 exact floordiv_int "`" (by rw[Int.fdiv_eq_ediv_of_nonneg i "`"];exact q) (.inl (aaf (Uy (Bu c b) "^")))
theorem Kh:fA X (Sj .Mod) oMod:=M5
theorem K3:fA X (Sj .Pow) FF:=OO fun _ _ _ _ _ _ _ a q=>a.elim (fun h=>pow_int_small h.1 h.2.1 h.2.2 q) fun h=>pow_int h.1 h.2 q
theorem HA:fA X (S9 .Add) gX:=Kv
theorem GW:fA X (S9 .Sub) xo:=Kk
theorem G2:fA X (S9 .Mult) ka:=OO fun _ _ _ _ _ _ _ a q=>imul_int q a.ok
theorem MI:fA X (Rz .Lt) oLt:=OF
theorem L1:fA X (Rz .LtE) oLe:=Oh
theorem LB:fA X (Rz .Gt) N1:=Pm
theorem LZ:fA X (Rz .GtE) Oi:=OE
end
structure sH(mg:QH->Option QJ)(x:QH)(i:Int):Prop where
 ex:∃t,mg x=ψ (.int i t)
theorem sH.pe{X:Cx}{x:QH}{i:Int}{pos:Q9}(k:sH X.mg x i)(a:Gl X x)(hd:(x==("__debug__":QH))=ξ:=by decide):PE X (.Name x pos) (tC (.int i)):=by
 obtain⟨t,e⟩:=k.ex
 exact Ec a e ⟨t,rfl⟩ hd
theorem Mp{K:QK}{mg:QH->Option QJ}{h:QS}{x:QH}{i:Int}{t:Tok}(X:K.In h)(G:h.Ns RD mg)(z:Sw K RD x=ψ (ψ (.int i t))):sH mg x i:=⟨t,Th X G z⟩
theorem ah.upd{H H':Hp}(e:ah H H'){l:QI}{o:HO}(h:H l=χ):ah H (upd H' l o):=fun b u q=>by
 rw[aj (aP q h)]
 exact e b u q
theorem ah.updN{H:Hp}{l:QI}{o:HO}(h:H l=χ):ah H (L2.upd H l o):=fun b u q=>by
 rw[aj (aP q h)]
 exact q
theorem ah.seqT{K:QK}{H H':Hp}{a:QI}{xs:⇑V}(e:ah H H')(h:d5 K H a xs):d5 K H' a xs:=by
 rcases h with(h|⟨o,h⟩)|h
 .exact .inl (.inl (e _ _ h))
 .exact .inl (.inr ⟨o,e _ _ h⟩)
 .exact .inr h
section
variable {mp:⇑(Option Nat)}{te:TE}{tt:TT}{σ:St}{H:Hp}{Q:VK}
theorem take_snoc{α:Type}{xs:⇑α}{i:Nat}{x:α}(h:xs[i]?=ψ x):xs.take (i+1)=xs.take i++[x]:=by
 rw[Uh,h]
 rfl
theorem Fl{K:QK}{a:QI}{xs:⇑V}(R:V->V->Prop)(c:St)(e:cE mp σ=none::c)(hx:aD K H a xs)(hz:xs.length<=QT)
  (k:∀x∈xs,∀(H':Hp)(G:VK),ah H H'->(∀v f,R x v->ah H' f->G v f)->te (ψ x::c) H' G)
  (hd:∀l ys H',H l=χ->ah H H'->H' l=ψ (.lst ys)->Q4 R xs ys->Q (.ref l) H'):cL mp (af 0) cM te (Fz K a) σ H Q:=by
 refine Gr (xs:=xs) (fun l i b d H'=>ah H H'/\H' l=ψ (.lst b)/\Q4 R (xs.take i) b/\b.length<=i/\∃v,d=v::c) (fun l g=>⟨ah.updN g,ak,by simpa using Xd,Q2 _,none,e⟩) ?_ ?_ ?_ hz
 .rintro l i b d H' _ ⟨s,_,_,h,_⟩
  exact⟨s.seq hx,h⟩
 .rintro l i x b d H' g hi ⟨s,m,j,o,v,rfl⟩
  simp only[af,cM,Xs]
  rw[if_pos trivial]
  refine k x (Td hi) H' _ s fun v f r n=>⟨n _ _ m,(s.trans n).upd g,ak,?_,?_,ψ x,rfl⟩
  .rw[take_snoc hi]
   exact j.snoc r
  .rw[RN,TH]
   omega
 .rintro l b d H' g ⟨s,m,j,_⟩
  rw[TX]at j
  exact hd l b H' g s m j
theorem NT{lo:Int}{n:Nat}(R:Nat->V->Prop)(b:St)(d:cE mp σ=none::b)(hz:n<=QT)
  (g:∀i,i<n->∀(H':Hp)(G:VK),ah H H'->(∀v e,R i v->ah H' e->G v e)->te (ψ (.int (lo+i))::b) H' G)
  (hd:∀l ys H',H l=χ->ah H H'->H' l=ψ (.lst ys)->Q4 R (Q1 n) ys->Q (.ref l) H'):cL mp (af 0) cM te (Gv lo n) σ H Q:=by
 refine C9 (fun l i a c H'=>ah H H'/\H' l=ψ (.lst a)/\Q4 R (Q1 i) a/\a.length<=i/\∃v,c=v::b) (fun l f=>⟨ah.updN f,ak,by simpa using Xd,Q2 _,none,d⟩) ?_ ?_ ?_ hz
 .rintro l i a c H' _ ⟨s,_,_,h,_⟩
  exact h
 .rintro l i a c H' f hi ⟨s,j,k,o,v,rfl⟩
  simp only[af,cM,Xs]
  rw[if_pos trivial]
  refine g i hi H' _ s fun v e r m=>⟨m _ _ j,(s.trans m).upd f,ak,?_,?_,ψ _,rfl⟩
  .rw[UI]
   exact k.snoc r
  .rw[RN,TH]
   omega
 .rintro l a c H' f ⟨s,j,k,_⟩
  exact hd l a H' f s j k
end
section
variable {K:QK}{D:Ends}{σ:St}{H:Hp}{Q:VK}{QB:Bool->Hp->Prop}{QA:⇑V->Hp->Prop}{t u:TS}{te ta tb tc:TE}{c d:TT}{tl:TA}{i j:Int}{k n:Nat}{v x y:V}{r r':R2}{E:XK}
theorem Iq(h:t {D with nx:=u D} σ H):ax t u D σ H:=h
theorem kM(P:St->Hp->Prop)(b:∀F:St->Hp->Prop,(∀a H',P a H'->F a H')->t {D with nx:=F} σ H)(c:∀a H',P a H'->u D a H'):ax t u D σ H:=b _ c
theorem yi(h:te σ H fun x a=>D.nx (σ.set n (ψ x)) a):aV te (af n) D σ H:=h
theorem Oj(h:c σ H fun b a=>if b=ω then t D σ a else u D σ a):bj c t u D σ H:=h
theorem Eg(h:te σ H D.rt):aS te D σ H:=h
theorem NK(h:D.nx σ H):aQ D σ H:=h
theorem NM(h:te σ H fun _ a=>D.nx σ a):bI te D σ H:=h
theorem HQ(e:σ[n]?=ψ (ψ v))(h:Q v H):aa n σ H Q:=⟨v,e,h⟩
theorem Qz(h:Q v H):tC v σ H Q:=h
theorem P0(h:ta σ H fun x a=>tb σ a fun y b=>r x y b Q):az r ta tb σ H Q:=h
theorem Qj{q:V->Hp->VK->Prop}(h:ta σ H fun x a=>q x a Q):O2 q ta σ H Q:=h
theorem Oy(h:Q (.int (-i)) H):rU (fun i=>.int (-i)) (.int i) H Q:=⟨i,rfl,h⟩
theorem Pp(h:Q (.int (i+j)) H):gX (.int i) (.int j) H Q:=⟨i,j,rfl,rfl,h⟩
theorem Ph(h:Q (.int (i-j)) H):xo (.int i) (.int j) H Q:=⟨i,j,rfl,rfl,h⟩
theorem GV(a:-(2 ^ 64)<i)(b:i<2 ^ 64)(h:Q (.int (i*j)) H):ka (.int i) (.int j) H Q:=⟨i,j,rfl,rfl,.inl (.inl ⟨a,b⟩),h⟩
theorem Ng(a:-(2 ^ 64)<j)(b:j<2 ^ 64)(h:Q (.int (i*j)) H):ka (.int i) (.int j) H Q:=⟨i,j,rfl,rfl,.inl (.inr ⟨a,b⟩),h⟩
theorem Lf(a:0<j)(b:j<1073741824)(h:Q (.int (i/j)) H):oDiv (.int i) (.int j) H Q:=⟨i,j,rfl,rfl,⟨a,Int.lt_trans b Cc⟩,h⟩
theorem DP(a:0<j)(b:j<j7)(h:Q (.int (i/j)) H):oDiv (.int i) (.int j) H Q:=⟨i,j,rfl,rfl,⟨a,b⟩,h⟩
theorem Oo(a:0<j)(h:Q (.int (i%j)) H):oMod (.int i) (.int j) H Q:=⟨i,j,rfl,rfl,a,h⟩
theorem OH(a:0<=j)(b:j<=1000000)(c:i.natAbs<2 ^ 64)(h:Q (.int (i ^ j.toNat)) H):FF (.int i) (.int j) H Q:=⟨i,j,rfl,rfl,.inl ⟨a,b,c⟩,h⟩
theorem PY(h:Q (.bl (decide (i<j))) H):oLt (.int i) (.int j) H Q:=⟨i,j,rfl,rfl,h⟩
theorem P6(h:Q (.bl (decide (i<=j))) H):oLe (.int i) (.int j) H Q:=⟨i,j,rfl,rfl,h⟩
theorem P9(h:Q (.bl (decide (j<i))) H):N1 (.int i) (.int j) H Q:=⟨i,j,rfl,rfl,h⟩
theorem P7(h:Q (.bl (decide (j<=i))) H):Oi (.int i) (.int j) H Q:=⟨i,j,rfl,rfl,h⟩
theorem Ik:decide (V.int i=V.int j)=decide (i=j):=by
 by_cases h:i=j
 .subst h;simp
 .rw[decide_eq_false h,decide_eq_false fun z=>h (V.int.inj z)]
theorem Qg(h:Q (.bl (decide (i=j))) H):fS (.int i) (.int j) H Q:=⟨rfl,by rw[Ik];exact h⟩
theorem Qh(h:Q (.bl (!decide (i=j))) H):Cp (.int i) (.int j) H Q:=⟨rfl,by rw[Ik];exact h⟩
theorem OG(h:Q (.bl (decide (x=.non))) H):Ap x .non H Q:=⟨rfl,h⟩
theorem MH(h:Q (.bl (!decide (x=.non))) H):Ey x .non H Q:=⟨rfl,h⟩
theorem LR(h:te σ H fun x H'=>∃k,x=.bl k/\QB k H'):ay te σ H QB:=h
theorem Qr(h:te σ H fun x a=>∃c,x=.bl c/\QB c a):tB te σ H QB:=h
theorem Qd{b:Bool}{P:Bool->Prop}(h:P b):∃k,V.bl b=.bl k/\P k:=⟨b,rfl,h⟩
theorem Pr(h:c σ H fun b a=>if b=ω then d σ a QB else QB false a):kr c d σ H QB:=h
theorem Qq(h:c σ H fun b a=>if b=ω then QB true a else d σ a QB):tE c d σ H QB:=h
theorem Pk(h:c σ H fun b a=>QB (!b) a):rp c σ H QB:=h
theorem MR(h:ta σ H fun x a=>∃c,x=.bl c/\if c=ω then tb σ a Q else Q (.bl false) a):yp ta tb σ H Q:=h
theorem P8(h:c σ H fun b a=>if b=ω then ta σ a Q else tb σ a Q):Oz c ta tb σ H Q:=h
theorem N6(h:QA [] H):ao σ H QA:=h
theorem LX(h:te σ H fun x a=>tl σ a fun xs b=>QA (x::xs) b):ae te tl σ H QA:=h
theorem Ml{sp:Sp}(h:tl σ H fun vs a=>sp vs a Q E):aJ sp [] E tl σ H Q:=by
 show tl σ H fun vs a=>sp (vs++[]) a Q E
 simpa only[UP]using h
theorem Qc{q:⇑V->Hp->VK->Prop}(h:tl σ H fun vs a=>q vs a Q):dB q tl σ H Q:=h
theorem OS(h:Q (.int (min i j)) H):Kq [.int i,.int j] H Q:=⟨i,j,rfl,by
 have e:(if j<i then j else i)=min i j:=by omega
 rw[e];exact h⟩
theorem O8(h:Q (.int (max i j)) H):Mm [.int i,.int j] H Q:=⟨i,j,rfl,by
 have e:(if j>i then j else i)=max i j:=by omega
 rw[e];exact h⟩
theorem Li{p:QI}{ys:⇑V}(a:aD K H p ys)(h:Q (.int ys.length) H):c9 K [.ref p] H Q:=⟨p,ys,rfl,.inl a,h⟩
theorem Lr{p:QI}{ns:⇑Int}(a:aD K H p (ns.map V.int))(h:Q (.int ns.sum) H):Bb K [.ref p] H Q:=⟨p,ns,rfl,a,h⟩
theorem bq{p:QI}{xs:⇑V}(a:aD K H p xs)(ha:ux xs i=ψ v)(h:Q v H):aY K (.ref p) (.int i) H Q:=⟨p,xs,i,v,rfl,rfl,a,ha,h⟩
theorem DB{a b:QI}{ns ms:⇑Int}(c:aD K H a (ns.map V.int))(d:aD K H b (ms.map V.int))(h:Q (.bl (!decide (ns=ms))) H):IU K true (.ref a) (.ref b) H Q:=⟨a,b,ns,ms,rfl,rfl,c,d,by rw[TM];exact h⟩
noncomputable def GR(g:TG)(tb:TS)(D:Ends)(J:It)(σ:St)(H:Hp):Prop:=∃W:Nat->Nat->St->Hp->Prop,(∃m,W 0 m σ H)/\∀i m σ H,W i m σ H->
 (J.stop i H/\D.nx σ H)\/(J.go i H/\∃N:St->Hp->Prop,(∀a b,N a b->∃d,d<m/\W (i+1) d a b)/\∀x b,J.yld i H x b->g x σ b fun c e=>tb {D with nx:=N,ct:=N,bk:=D.nx} c e)
theorem Of{a:TI}{g:TG}(h:a σ H fun J b=>GR g t D J σ b):kb a g t D σ H:=h
theorem ML{R:It->Hp->Prop}(h:tl σ H fun vs a=>∃j:Int,vs=[.int j]/\-(2 ^ 62)<=j/\j<2 ^ 62/\R (Gv 0 j.toNat) a):sN tl σ H R:=h
theorem J9{P:Int->Prop}(a:-(2 ^ 62)<=i)(b:i<2 ^ 62)(h:P i):∃j:Int,([.int i]:⇑V)=[.int j]/\-(2 ^ 62)<=j/\j<2 ^ 62/\P j:=⟨i,rfl,a,b,h⟩
theorem L9{R:It->Hp->Prop}(h:tl σ H fun vs a=>∃i j:Int,vs=[.int i,.int j]/\(-(2 ^ 62)<=i/\i<2 ^ 62/\-(2 ^ 62)<=j/\j<2 ^ 62)/\R (Gv i (j-i).toNat) a):Hv tl σ H R:=h
theorem Kz{P:Int->Int->Prop}(c:-(2 ^ 62)<=i)(d:i<2 ^ 62)(e:-(2 ^ 62)<=j)(f:j<2 ^ 62)(h:P i j):∃a b:Int,([.int i,.int j]:⇑V)=[.int a,.int b]/\(-(2 ^ 62)<=a/\a<2 ^ 62/\-(2 ^ 62)<=b/\b<2 ^ 62)/\P a b:=⟨i,j,rfl,⟨c,d,e,f⟩,h⟩
theorem JI{R:It->Hp->Prop}(h:te σ H fun x b=>∃a,x=.ref a/\(∃xs,aD K b a xs)/\R (Fz K a) b):bL K te σ H R:=h
theorem br{P:QI->Prop}{a:QI}{xs:⇑V}(c:aD K H a xs)(h:P a):∃b,V.ref a=.ref b/\(∃xs,aD K H b xs)/\P b:=⟨a,rfl,⟨xs,c⟩,h⟩
theorem Qb{q:V->Option Int->Option Int->Hp->VK->Prop}{lo hi:TO}(h:te σ H fun x a=>lo σ a fun l b=>hi σ b fun u c=>q x l u c Q):CM q te lo hi σ H Q:=h
theorem MJ{R:Option Int->Hp->Prop}(h:te σ H fun x a=>∃i,x=.int i/\R (ψ i) a):fN te σ H R:=h
theorem Jr{P:Int->Prop}(h:P i):∃j,V.int i=.int j/\P j:=⟨i,rfl,h⟩
theorem GP{R:Option Int->Hp->Prop}(h:R none H):dE σ H R:=h
theorem ke{a:⇑(Option Nat)}{b:TI}{g:TG}(h:b σ H fun J d=>cL a g c te J σ d Q):bp a b g c te σ H Q:=h
theorem PU{T:String}{q:V->⇑V->Hp->VK->Prop}(h:te σ H fun x a=>Lp K T x a/\tl σ a fun xs b=>q x xs b Q):lV K T q te tl σ H Q:=h
theorem O3{T:String}{q:V->⇑V->Hp->VK->Prop}(h:te σ H fun x a=>Lp K T x a/\q x [] a Q):M8 K T q te σ H Q:=h
theorem KU(h:ta σ H fun x b=>tb σ b fun y c=>r x y c fun z a=>∃k,z=.bl k/\(if k=ω then tc σ a fun d e=>r' y d e Q else Q (.bl false) a)):zO r r' ta tb tc σ H Q:=h
end
end L2
namespace L2
end L2
namespace L2
open PySem PySem.Spec PyProof.Rows
def Qo(lo step:Int)(n:Nat):It:=⟨fun i _=>i<n,fun i H x a=>a=H/\x=.int (lo+i*step),fun i _=>n<=i⟩
section
variable {X:Cx}{tg:QQ}
end
theorem L3{lo step:Int}{n:Nat}{g:TG}{f:TS}{D:Ends}{a:St}{H:Hp}(b:Nat->St->Hp->Prop)(h:b 0 a H)
  (j:∀i a H,i<n->b i a H->g (.int (lo+i*step)) a H fun d k=>f {D with nx:=b (i+1),ct:=b (i+1),bk:=D.nx} d k) (hd:∀a H,b n a H->D.nx a H):GR g f D (Qo lo step n) a H:=by
 exists fun i m a H=>m=n-i/\i<=n/\b i a H,⟨n,⋯,RL _,h⟩
 rintro i m a H ⟨rfl,hi,p⟩
 by_cases c:i<n
 .refine .inr ⟨c,b (i+1),fun l o q=>⟨n-(i+1),by omega,rfl,c,q⟩,fun x o y=>?_⟩
  obtain⟨e,y⟩:=y
  subst e y
  exact j i a _ c p
 .have e:i=n:=by omega
  subst e
  exact .inl ⟨Q2 _,hd a H p⟩
mutual
inductive cV(K:QK)(H:Hp):V->Rp->Prop
 |non:cV K H .non .none
 |bl (b:Bool):cV K H (.bl b) (.bool b)
 |int (i:Int):cV K H (.int i) (.int i)
 |str (x:QH):cV K H (.str x) (.str x)
 |lst {a:QI}{xs:⇑V}{ds:⇑Rp}:aD K H a xs->DatAll K H xs ds->cV K H (.ref a) (.list ds)
 |tup {a:QI}{xs:⇑V}{ds:⇑Rp}:d5 K H a xs->DatAll K H xs ds->cV K H (.ref a) (.tuple ds)
inductive DatAll(K:QK)(H:Hp):⇑V->⇑Rp->Prop
 |nil:DatAll K H [] []
 |cons {x:V}{xs:⇑V}{d:Rp}{ds:⇑Rp}:cV K H x d->DatAll K H xs ds->DatAll K H (x::xs) (d::ds)
end
section
variable {X:Cx}{pins:⇑(QI×QP)}{σ:St}{H:Hp}{s:QL}
mutual
theorem dv(I:Inv X pins σ H s):∀{x:V}{d:Rp}{u:QJ},cV X.K H x d->RelV x u->∃as,Reads s.heap u d as
 |_,_,_,.non,r=>by cases r;exact⟨_,.none⟩
 |_,_,_,.bl b,r=>by cases r;exact⟨_,.bool b⟩
 |_,_,_,.int i,r=>by obtain⟨t,rfl⟩:=r;exact⟨_,.int i t⟩
 |_,_,_,.str x,r=>by obtain⟨t,rfl⟩:=r;exact⟨_,.str x t⟩
 |_,_,_,.lst hS all,r=>by
  cases r
  obtain⟨a,c,e,_⟩:=I.list hS
  obtain⟨o,f,g,n,hd⟩:=e.isList
  obtain⟨as,q⟩:=mm I all c
  exact⟨_,Reads.list f g hd (by simpa using q)⟩
 |_,_,_,.tup hS all,r=>by
  cases r
  obtain⟨a,c,e,_⟩:=I.tuple hS
  obtain⟨o,f,g,n,hd⟩:=e
  obtain⟨as,q⟩:=mm I all c
  exact⟨_,Reads.tuple f g hd (by simpa using q)⟩
theorem mm(I:Inv X pins σ H s):∀{xs:⇑V}{ds:⇑Rp}{us:⇑QJ},DatAll X.K H xs ds->bA xs us->∃as,ReadsAll s.heap us ds as
 |_,_,_,.nil,r=>by cases r;exact⟨_,.nil⟩
 |_,_,_,.cons h t,r=>by
  cases r with
  |cons c d=>
   obtain⟨as,a⟩:=dv I h c
   obtain⟨bs,b⟩:=mm I t d
   exact⟨_,.cons a b⟩
end
end
def qL(K:QK)(a:Bool):R2:=fun x y H Q=>∃d e,cV K H x d/\cV K H y e/\Us d=ω/\Us e=ω/\R8 d e=ω/\Q (.bl (same d e != a)) H
section
variable {X:Cx}
theorem C4(f:X.A.units+64<cLine):fA X (Rz .Eq) (qL X.K false):=by
 intro c s o H x y v u Q I g i h
 obtain⟨d,e,j,k,l,m,n,q⟩:=h
 obtain⟨as,a⟩:=dv I j g
 obtain⟨bs,b⟩:=dv I k i
 refine eq_dataH_same a b l m f n ⟨.bl (same d e),H,I,rfl,?_⟩
 rw[UG]at q
 exact q
theorem DT(f:X.A.units+64<cLine):fA X (Rz .NotEq) (qL X.K true):=by
 intro c s o H x y v u Q I g i h
 obtain⟨d,e,j,k,l,m,n,q⟩:=h
 obtain⟨as,a⟩:=dv I j g
 obtain⟨bs,b⟩:=dv I k i
 refine ne_dataH_same a b l m f n ⟨.bl (!same d e),H,I,rfl,?_⟩
 rw[TM]at q
 exact q
end
mutual
theorem oG:∀d:Rp,d.canLay0=ω->R8 d d=ω
 |.none,_=>by simp[R8]
 |.bool _,_=>by simp[R8]
 |.int _,_=>by simp[R8]
 |.str _,_=>by simp[R8]
 |.list xs,h=>by rw[R8];exact iu xs (by rw[Tz]at h;exact h)
 |.tuple xs,h=>by rw[R8];exact iu xs (by rw[Tz]at h;exact h)
 |.dict _,h=>by rw[Tz]at h;cases h
theorem iu:∀ds:⇑Rp,Va ds=ω->To ds ds=ω
 |[],_=>by simp[To]
 |x::xs,h=>by
  rw[Va,RI]at h
  rw[To,oG x h.1,iu xs h.2]
  rfl
end
section
variable {K:QK}{H:Hp}{Q:VK}{x y:V}
theorem Ln{d:Rp}(b:cV K H x d)(c:cV K H y d)(a:Us d=ω)(h:Q (.bl true) H):qL K false x y H Q:=
 ⟨d,d,b,c,a,a,oG d (Y5 a),by rw[same_self];exact h⟩
theorem Pj{d:Rp}(b:cV K H x d)(c:cV K H y d)(a:Us d=ω)(h:Q (.bl false) H):qL K true x y H Q:=
 ⟨d,d,b,c,a,a,oG d (Y5 a),by rw[same_self];exact h⟩
end
section
variable {X:Cx}
end
noncomputable def Lw(K:QK)(a:QI):It:=
 ⟨fun i H=>∃xs x,aD K H a xs/\xs[i]?=ψ x,fun i H x b=>∃T y,x=.ref T/\H T=χ/\b=upd H T (.tup [.int i,y])/\∀xs,aD K H a xs->xs[i]?=ψ y,fun i H=>∃xs,aD K H a xs/\xs.length<=i⟩
theorem Fd{P:Q0}{w:QX}{K:QK}{F:⇑QQ}{x1}{S:Q9}(a e it:QI)(G:e≠it):
  Turn P w K (.Tuple F x1 S) (Lw K a) [e,it] e (fun i h=>(∃g,IsEnum h e it ((i:Nat):Int) g)/\h.IsListIter it a i) where
 mem:=⋯
 obj:=fun i h st b d=>by
  obtain⟨⟨g,he⟩,o,t,C,hd⟩:=st
  rcases QW.mp d with z|d
  .subst z
   exact⟨_,he,fun v z=>by
    have z':UW _=Ud v:=z
    cases z'⟩
  .have z:b=it:=by simpa using d
   subst z
   exact⟨o,t,fun v z=>by rw[hd]at z;cases z⟩
 keep:=fun i h T st k=>by
  obtain⟨⟨g,he⟩,o,t,r⟩:=st
  exact⟨⟨g,k e ⋯ _ he⟩,o,k it ⋯ _ t,r⟩
 item:=by
  intro X U hw V C i p s σ H E I J st W
  subst U hw V
  obtain⟨⟨g,he⟩,j⟩:=st
  obtain⟨xs,x,N,Y⟩:=W
  obtain⟨Z,rv,pl,hz⟩:=I.list N
  obtain⟨u,hu,ru⟩:=rv.get Y
  obtain⟨f0,f1,f2,f3,f4,f5⟩:=J e ⋯
  obtain⟨g0,g1,g2,g3,g4,g5⟩:=J it ⋯
  have D:H s.heap.objs.size=none:=I.fresh
  refine wpAny_pyNext_enum_item he j pl.isList (x:=u) (by simpa using hu) G fun T α L ht ζ hk=>⟨_,rfl,?_⟩
  refine wpAny_letOwnedTupleGo_enum α fun O β l=>?_
  have l:SG e T O:=l
  have M:e≠s.heap.objs.size:=Rn (Rc he)
  have f:∀b o,b≠e->b≠it->s.heap.get? b=ψ o->O.get? b=ψ o:=fun b o h1 γ q=>l.extBut b o h1 (hk b o h1 γ q)
  have δ:O.get? s.heap.objs.size=ψ {cls:=.type "tuple",data:=.seq #[.int i s.toks,u]}:=l.extBut _ _ (Rb M) ht
  have neT:∀b o,s.heap.get? b=ψ o->b≠s.heap.objs.size:=fun b o q=>Rn (Rc q)
  have R:∀b y,H b=ψ y->b≠e/\b≠it:=fun b y q=>⟨fun z=>(by rw[z,f0]at q;cases q),fun z=>(by rw[z,g0]at q;cases q)⟩
  have I2:Inv X p σ (upd H s.heap.objs.size (.tup [.int i,x])) {s with heap:=O,toks:=s.toks+1}:=by
   refine I.step (g':=s.gens) (d':=s.drawn) (t':=s.toks+1) (ch:=[e,it]) (fun b d=>?_) (fun b o _ _ d q _=>?_) (fun b o _ _ d q _=>?_) (fun b o _ q n=>?_) (fun b o d q=>?_)
    (fun b ys q=>?_) (fun b o y q=>?_) (fun b ps q=>?_) (fun m hm=>?_) (fun b y q=>?_) I.bare
   .rcases QW.mp d with z|d
    .subst z;exact⟨f3,f1,f4,f5⟩
    .have z:b=it:=by simpa using d
     subst z;exact⟨g3,g1,g4,g5⟩
   .exact f b o (fun z=>d (by simp[z])) (fun z=>d (by simp[z])) q
   .exact⟨o.slots,f b o (fun z=>d (by simp[z])) (fun z=>d (by simp[z])) q⟩
   .rw[aj (neT b o q)];exact n
   .exact⟨o,f b o (fun z=>d (by simp[z])) (fun z=>d (by simp[z])) q⟩
   .rw[aj (aP q D)];exact q
   .rw[aj (aP q D)];exact q
   .exact⟨#[],by rw[aj (aP q D),q];simp⟩
   .obtain⟨o,es,ep,t,r⟩:=hm
    exact⟨o,es,ep,f _ o (Rb f1) (Rb g1) t,r⟩
   .by_cases d:b=s.heap.objs.size
    .subst d
     rw[ak]at q
     cases q
     exact⟨by show 2<=QT;decide,[.int i s.toks,u],.cons ⟨_,rfl⟩ (.cons ru .nil),_,δ,rfl,_,rfl⟩
    .rw[aj d]at q
     refine(I.hok b y q).stay (fun c v C B=>f c v ?_ ?_ B) (fun c B=>?_) fun c ys B=>?_
     .rcases C with z|z
      .rw[z];exact(R b y q).1
      .exact(R c _ z).1
     .rcases C with z|z
      .rw[z];exact(R b y q).2
      .exact(R c _ z).2
     .rw[aj (aP B D)];exact B
     .rw[aj (aP B D)];exact B
  refine⟨.ref s.heap.objs.size,_,I2,rfl,⟨s.heap.objs.size,x,rfl,D,rfl,fun ys ε=>?_⟩,⟨⟨u,?_⟩,?_⟩,fun b d=>?_⟩
  .rw[I.list_inj ε N];exact Y
  .have e1:((i+1:Nat):Int)=(i:Int)+1:=by omega
   rw[e1];exact β
  .exact L.extBut l.extBut (Rb G)
  .have:b≠s.heap.objs.size:=by
    rcases QW.mp d with z|d
    .rw[z];exact M
    .have z:b=it:=by simpa using d
     rw[z]
     obtain⟨o,t,_⟩:=j
     exact neT it o t
   rw[aj this]
   exact(J b d).1
 done:=by
  intro X U hw V C i p s σ H E I J st W
  subst U hw V
  obtain⟨⟨g,he⟩,j⟩:=st
  obtain⟨xs,N,Y⟩:=W
  obtain⟨Z,rv,pl,hz⟩:=I.list N
  have hl:=rv.length
  obtain⟨g0,g1,g2,g3,g4,g5⟩:=J it ⋯
  refine wpAny_pyNext_enum_end (I.ok.hd C) he j pl.isList "%" fun T eb=>⟨rfl,I.turned (t':=s.toks) (fun b o d e'=>eb b o d e') g0 g1 g3 g4 g5⟩
 self:=fun A i s Q E st h=>by
  obtain⟨⟨g,he⟩,j⟩:=st
  exact VR he h
section
variable {X:Cx}
def sP(K:QK)(c:TE):TI:=fun d H R=>c d H fun x b=>∃a,x=.ref a/\(∃xs,aD K b a xs)/\R (Lw K a) b
theorem K6{l:QQ}{k:TE}{g:⇑QQ}{v}{p i pt:Q9}(w:Gl X "enumerate")(hm:X.mg "enumerate"=χ)(A:PE X l k)(r:Q5 [l] X.env=[(false,eval l X.env)]:=by rfl):
  PI X (.Tuple g v pt) (.Call (.Name "enumerate" p) [l] [] i) (sP X.K k):=by
 intro d s m H R I h
 refine Call_ (iE I w hm boot_enumerate (TC (cf (tW A z9 r i d s m H (fun t c=>∃x,t=[x]/\∃a,x=.ref a/\(∃xs,aD X.K c a xs)/\R (Lw X.K a) c) I ?_) fun N f ⟨t,c,I1,B,C⟩=>?_) r rfl))
 .have mono:k m H (fun x c=>∃y,[x]=[y]/\∃a,y=.ref a/\(∃xs,aD X.K c a xs)/\R (Lw X.K a) c):=by
   have e:(fun (x:V) (c:Hp)=>∃y,[x]=[y]/\∃a,y=V.ref a/\(∃xs,aD X.K c a xs)/\R (Lw X.K a) c)=fun x c=>∃a,x=V.ref a/\(∃xs,aD X.K c a xs)/\R (Lw X.K a) c:=by
    funext x c
    simp
   rw[e]
   exact h
  exact mono
 .obtain⟨x,rfl,a,rfl,⟨xs,D⟩,q⟩:=C
  obtain⟨u,rfl,E⟩:=vals1 B
  cases E
  obtain⟨F,O,G,P⟩:=I1.list D
  refine call_enumerate_list G.isList fun J he n L M=>?_
  have I2:Inv X d m c {f with heap:=J}:=I1.kept (t':=f.toks) M
  refine VR he ?_
  refine⟨f.heap.objs.size+1,[f.heap.objs.size+1,f.heap.objs.size],_,_,c,rfl,I2,Fd a _ _ (Yh _),⟨⟨.none,he⟩,n⟩,fun b o=>?_,q⟩
  have j:f.heap.objs.size<=b:=by
   rcases QW.mp o with z|o
   .rw[z];exact SA _
   .have z:b=f.heap.objs.size:=by simpa using o
    rw[z];exact Q2 _
  exact I1.fpOk j (I1.hok.fresh j)
end
theorem Inv.turnedL{X:Cx}{pins:⇑(QI×QP)}{σ:St}{H:Hp}{s:QL}{h':QS}{t':Nat}{ch:⇑QI}(I:Inv X pins σ H s)(f:∀b∈ch,qf X pins H b)(k:∀b o,b∉ch->s.heap.get? b=ψ o->h'.get? b=ψ o):
  Inv X pins σ H {s with heap:=h',toks:=t'}:=by
 have d:∀b u,H b=ψ u->b∉ch:=fun b u e z=>by rw[(f b z).1]at e;cases e
 refine I.step (g':=s.gens) (d':=s.drawn) (ch:=ch) (fun b g=>?_) (fun b o _ _ a e _=>k b o a e) (fun b o _ _ a e _=>⟨o.slots,k b o a e⟩) (fun _ _ _ _ n=>n)
  (fun b o a e=>⟨o,k b o a e⟩) (fun _ _ e=>e) (fun _ _ _ e=>e) (fun b ps e=>⟨#[],by rw[e];simp⟩) (fun m hm=>?_) (fun b u e=>?_) I.bare
 .obtain⟨_,h1,_,h,i,j⟩:=f b g
  exact⟨h,h1,i,j⟩
 .obtain⟨o,es,l,p,r⟩:=hm
  exact⟨o,es,l,k _ o (fun z=>(f _ z).2.1 rfl) p,r⟩
 .refine(I.hok b u e).stay (fun c v a q=>k c v ?_ q) (fun _ q=>q) fun _ _ q=>q
  rcases a with z|z
  .rw[z];exact d b u e
  .exact d c _ z
section
variable {X:Cx}
end
structure Ys(J:It)(g:TG)(P:Hp->Prop)(n:Nat)(f:Nat->St->St):Prop where
 go:∀i H,i<n->P H->J.go i H
 stop:∀H,P H->J.stop n H
 yld:∀i H x H' σ (Q:St->Hp->Prop),i<n->P H->J.yld i H x H'->(∀H'',ah H H''->Q (f i σ) H'')->g x σ H' Q
theorem bR{K:QK}{a:QI}{xs:⇑V}(p:Nat):Ys (Fz K a) (af p) (fun H=>aD K H a xs) xs.length (fun i b=>b.set p (ψ (xs.getD i .non))) where
 go:=fun i H hi h=>⟨xs,xs[i],h,by simp[hi]⟩
 stop:=fun H h=>⟨xs,h,Q2 _⟩
 yld:=fun i H x c b Q hi h y q=>by
  obtain⟨e,y⟩:=y
  subst e
  have e:xs.getD i .non=x:=by simp[Q3,y xs h]
  have:=q _ (ah.refl _)
  rw[e]at this
  exact this
theorem AZ{lo:Int}{n:Nat}(p:Nat):Ys (Gv lo n) (af p) (fun _=>True) n (fun i a=>a.set p (ψ (.int (lo+i)))) where
 go:=fun i H hi _=>hi
 stop:=fun H _=>Q2 _
 yld:=fun i H x b a Q hi _ y q=>by
  obtain⟨e,y⟩:=y
  subst e y
  exact q _ (ah.refl _)
theorem mr{K:QK}{a:QI}{xs:⇑V}(p r:Nat):Ys (Lw K a) (dN K 2 (aR (af p) (aR (af r) dJ))) (fun H=>aD K H a xs) xs.length (fun i b=>(b.set p (ψ (.int i))).set r (ψ (xs.getD i .non))) where
 go:=fun i H hi h=>⟨xs,xs[i],h,by simp[hi]⟩
 stop:=fun H h=>⟨xs,h,Q2 _⟩
 yld:=fun i H x f b Q hi h y q=>by
  obtain⟨T,v,rfl,c,rfl,d⟩:=y
  have e:xs.getD i .non=v:=by simp[Q3,d xs h]
  exists T,_,rfl,d5.of ak,rfl,_,_,rfl,_,_,rfl,rfl
  have:=q _ (ah.updN c (o:=.tup [.int i,v]))
  rw[e]at this
  exact this
theorem eA{K:QK}{a:QI}{ts:⇑QI}{u v w:Nat->V}(p r t:Nat):
  Ys (Fz K a) (dN K 3 (aR (af p) (aR (af r) (aR (af t) dJ)))) (fun H=>aD K H a (ts.map V.ref)/\∀i b,ts[i]?=ψ b->d5 K H b [u i,v i,w i]) ts.length (fun i c=>((c.set p (ψ (u i))).set r (ψ (v i))).set t (ψ (w i))) where
 go:=fun i H hi h=>⟨_,.ref ts[i],h.1,by simp[hi]⟩
 stop:=fun H h=>⟨_,h.1,⋯⟩
 yld:=fun i H x d c Q hi h y q=>by
  obtain⟨e,y⟩:=y
  subst e
  have e:x=.ref ts[i]:=by
   have:=y _ h.1
   simp[hi]at this
   exact this.symm
  subst e
  exact⟨ts[i],_,rfl,h.2 i _ (by simp[hi]),rfl,_,_,rfl,_,_,rfl,_,_,rfl,rfl,q _ (ah.refl _)⟩
theorem vI{K:QK}{a:QI}{ts:⇑QI}{u v:Nat->V}(p r:Nat):
  Ys (Fz K a) (dN K 2 (aR (af p) (aR (af r) dJ))) (fun H=>aD K H a (ts.map V.ref)/\∀i b,ts[i]?=ψ b->d5 K H b [u i,v i]) ts.length (fun i c=>(c.set p (ψ (u i))).set r (ψ (v i))) where
 go:=fun i H hi h=>⟨_,.ref ts[i],h.1,by simp[hi]⟩
 stop:=fun H h=>⟨_,h.1,⋯⟩
 yld:=fun i H x d c Q hi h y q=>by
  obtain⟨e,y⟩:=y
  subst e
  have e:x=.ref ts[i]:=by
   have:=y _ h.1
   simp[hi]at this
   exact this.symm
  subst e
  exact⟨ts[i],_,rfl,h.2 i _ (by simp[hi]),rfl,_,_,rfl,_,_,rfl,rfl,q _ (ah.refl _)⟩
theorem fH{J:It}{g:TG}{P:Hp->Prop}{n:Nat}{f:Nat->St->St}{j:TS}{D:Ends}{a:St}{H:Hp}(Y:Ys J g P n f)(c:Nat->St->Hp->Prop)(k:c 0 a H)(d:∀i a H,c i a H->P H)
  (l:∀i a H H',i<n->c i a H->ah H H'->j {D with nx:=c (i+1),ct:=c (i+1),bk:=D.nx} (f i a) H') (hd:∀a H,c n a H->D.nx a H):GR g j D J a H:=by
 exists fun i m a H=>m=n-i/\i<=n/\c i a H,⟨n,⋯,RL _,k⟩
 rintro i m a H ⟨rfl,hi,p⟩
 by_cases b:i<n
 .exact .inr ⟨Y.go i H b (d _ _ _ p),c (i+1),fun o H' q=>⟨n-(i+1),by omega,rfl,b,q⟩,fun x H' y=>Y.yld i H x H' a _ b (d _ _ _ p) y fun h s=>l i a H h b p s⟩
 .have e:i=n:=by omega
  subst e
  exact .inl ⟨Y.stop H (d _ _ _ p),hd a H p⟩
section
variable {mp:⇑(Option Nat)}{g:TG}{tt:TT}{te:TE}{J:It}{P:Hp->Prop}{n:Nat}{f:Nat->St->St}{σ:St}{H:Hp}{Q:VK}
def dS(l:QI)(H H':Hp):Prop:=∀b o,b≠l->H b=ψ o->H' b=ψ o
theorem ah.x{H H':Hp}(s:ah H H')(l:QI):dS l H H':=fun b o _ h=>s b o h
theorem yG{H:Hp}{l:QI}{o:HO}:dS l H (upd H l o):=fun b u a h=>by rw[aj a];exact h
theorem eR(Y:Ys J g P n f)(st:Nat->St)(K:∀i a,(a=cE mp σ\/∃j,a=st j)->f i a=st i)(B:∀H',ah H H'->P H')(hz:n<=QT)(b:Nat->Bool)(R:QI->Nat->V->Hp->Prop)
  (w:∀l i v F q,dS l F q->R l i v F->R l i v q)
  (L:∀i,i<n->∀(H':Hp)(G:Bool->Hp->Prop),ah H H'->(∀d,ah H' d->G (b i) d)->tt (st i) H' G)
  (he:∀l i,i<n->b i=ω->∀(H':Hp)(G:VK),H l=χ->(∃o,H' l=ψ o)->ah H H'->(∀v d,R l i v d->ah H' d->G v d)->te (st i) H' G)
  (hd:∀l ys H',H l=χ->ah H H'->H' l=ψ (.lst ys)->Q4 (fun i v=>R l i v H') ((Q1 n).filter b) ys->Q (.ref l) H'):cL mp g tt te J σ H Q:=by
 intro l z
 refine⟨fun i m p a H'=>m=n-i/\i<=n/\p.length<=i/\ah H H'/\H' l=ψ (.lst p)/\Q4 (fun i v=>R l i v H') ((Q1 i).filter b) p/\(a=cE mp σ\/∃j,a=st j),
  ⟨n,⋯,RL _,Q2 _,ah.updN z,ak,.nil,.inl rfl⟩,?_⟩
 rintro i m p a H' ⟨rfl,hi,ha,s,A,C,D⟩
 by_cases h:i<n
 .refine .inr ⟨Y.go i H' h (B _ s),by omega,fun c t q=>i+1<=n/\c.length<=i+1/\ah H q/\q l=ψ (.lst c)/\Q4 (fun i v=>R l i v q) ((Q1 (i+1)).filter b) c/\(t=cE mp σ\/∃j,t=st j),fun c t q M=>⟨n-(i+1),by omega,rfl,M⟩,fun x q y=>?_⟩
  refine Y.yld i H' x q a _ h (B _ s) y fun N I=>?_
  rw[K i a D]
  refine L i h N _ (s.trans I) fun O S=>?_
  have k:=I.trans S
  cases E:b i with
  |false=>
   refine Cg ⟨h,by omega,s.trans k,k _ _ A,?_,.inr ⟨i,rfl⟩⟩
   rw[UI,W2,T1,E]
   simp only[Tr,if_false,Y6,UP]
   exact Paired.mapP C fun j v r=>w l j v _ _ (k.x l) r
  |true=>
   refine xk ?_
   refine he l i h E O _ z ⟨_,k _ _ A⟩ (s.trans k) fun v U r T=>?_
   have u:=k.trans T
   refine⟨u _ _ A,h,?_,(s.trans u).upd z,ak,?_,.inr ⟨i,rfl⟩⟩
   .rw[RN,TH];omega
   .rw[UI,W2,T1,E]
    simp only[if_true,Y6]
    exact(Paired.mapP C fun j v r=>w l j v _ _ yG (w l j v _ _ (u.x l) r)).snoc (w l i v _ _ yG r)
 .have e:i=n:=by omega
  subst e
  exact .inl ⟨Y.stop H' (B _ s),hd l p H' z s A C⟩
theorem jr{α:Type}{F:α->V}:∀{xs:⇑α}{ys:⇑V},Q4 (fun x v=>v=F x) xs ys->ys=xs.map F
 |_,_,.nil=>rfl
 |_,_,.cons e t=>by rw[e,jr t];rfl
theorem bx(Y:Ys J g P n f)(st:Nat->St)(c:∀i b,(b=cE mp σ\/∃j,b=st j)->f i b=st i)(d:∀H',ah H H'->P H')(hz:n<=QT)(F:Nat->V)
  (he:∀i,i<n->∀(H':Hp)(G:VK),ah H H'->(∀a,ah H' a->G (F i) a)->te (st i) H' G)
  (hd:∀l H',H l=χ->ah H H'->H' l=ψ (.lst ((Q1 n).map F))->Q (.ref l) H'):cL mp g cM te J σ H Q:=by
 refine eR Y st c d hz (fun _=>true) (fun _ i v _=>v=F i) (fun _ _ _ _ _ _ h=>h) (fun i hi H' G s k=>k H' (ah.refl _)) (fun l i hi _ H' G _ _ s k=>he i hi H' G s fun a m=>k _ a rfl m) fun l ys H' o s p q=>?_
 have e:=jr q
 rw[Sd.mpr (fun _ _=>rfl)]at e
 subst e
 exact hd l H' o s p
theorem cG(Y:Ys J g P n f)(st:Nat->St)(d:∀i c,(c=cE mp σ\/∃j,c=st j)->f i c=st i)(m:∀H',ah H H'->P H')(hz:n<=QT)(b:Nat->Bool)(F:Nat->V)
  (o:∀i,i<n->∀(H':Hp)(G:Bool->Hp->Prop),ah H H'->(∀a,ah H' a->G (b i) a)->tt (st i) H' G)
  (he:∀i,i<n->b i=ω->∀(H':Hp)(G:VK),ah H H'->(∀a,ah H' a->G (F i) a)->te (st i) H' G)
  (hd:∀l H',H l=χ->ah H H'->H' l=ψ (.lst (((Q1 n).filter b).map F))->Q (.ref l) H'):cL mp g tt te J σ H Q:=by
 refine eR Y st d m hz b (fun _ i v _=>v=F i) (fun _ _ _ _ _ _ h=>h) o (fun l i hi p H' G _ _ s k=>he i hi p H' G s fun a q=>k _ a rfl q) fun l ys H' r s t u=>?_
 have e:=jr u
 subst e
 exact hd l H' r s t
theorem hZ{T:QI->Nat->Prop}:∀{is:⇑Nat}{ys:⇑V},Q4 (fun i v=>∃b,v=.ref b/\T b i) is ys->∃bs:⇑QI,ys=bs.map V.ref/\Q4 (fun i b=>T b i) is bs
 |_,_,.nil=>⟨[],rfl,.nil⟩
 |_,_,.cons ⟨b,e,h⟩ t=>by
  obtain⟨bs,a,p⟩:=hZ t
  exact⟨b::bs,by rw[e,a];rfl,.cons h p⟩
end
theorem Kp{i:Int}{ns:⇑Int}:Le (.int i) (ns.map V.int)=decide (i∈ns):=by
 unfold Le
 rw[YQ]
 induction ns with
 |nil=>simp
 |cons n r b=>
  rw[S4,b]
  show((n==i) || decide (i∈r))=_
  by_cases h:n=i
  .subst h;simp
  .have:(n==i)=ξ:=by simpa using h
   rw[this,XM]
   by_cases a:i∈r
   .simp[a]
   .have:¬i∈n::r:=fun z=>by
     rcases QW.mp z with e|e
     .exact h e.symm
     .exact a e
    rw[decide_eq_false a,decide_eq_false this]
theorem EX(ns:⇑Int):(ns.map V.int).all lR=ω:=by
 rw[UK]
 exact R7.mpr fun _ _=>rfl
section
variable {K:QK}{H:Hp}{Q:VK}
theorem Om{p:QI}{ns:⇑Int}{i:Int}(a:aD K H p (ns.map V.int))(h:Q (.bl (decide (i∈ns))) H):tV K false (.int i) (.ref p) H Q:=
 ⟨p,_,rfl,.inl a,rfl,EX ns,by rw[if_neg RA,Kp];exact h⟩
theorem N9{p:QI}{bs:⇑Bool}(a:aD K H p (bs.map V.bl))(h:Q (.bl (bs.all id)) H):Hj K [.ref p] H Q:=⟨p,bs,rfl,a,h⟩
theorem Nh{b:TE}{c:St}{R:It->Hp->Prop}(h:b c H fun x d=>∃a,x=.ref a/\(∃xs,aD K d a xs)/\R (Lw K a) d):sP K b c H R:=h
end
def fC(K:QK)(H:Hp)(a:QI)(rows:⇑(⇑Int)):Prop:=∃bs:⇑QI,aD K H a (bs.map V.ref)/\Q4 (fun r b=>aD K H b (r.map V.int)) rows bs
theorem ah.rows{K:QK}{H H':Hp}{a:QI}{rows:⇑(⇑Int)}(e:ah H H')(h:fC K H a rows):fC K H' a rows:=by
 obtain⟨bs,h1,b⟩:=h
 exact⟨bs,e.seq h1,Paired.mapP b fun _ _ q=>e.seq q⟩
theorem jC{α a:Type}{F:α->a->Prop}:∀{xs:⇑α}{ys:⇑a}{i:Nat}{y:a},Q4 F xs ys->ys[i]?=ψ y->∃x,xs[i]?=ψ x/\F x y
 |_,_,_,_,.nil,e=>by simp at e
 |_,_,0,_,.cons h _,e=>by simp at e;subst e;exact⟨_,rfl,h⟩
 |_,_,i+1,_,.cons _ t,e=>by simpa using jC t (by simpa using e)
section
variable {prog:Q0}{w:QX}{A:Q6}{E:QJ->QL->Prop}{s:QL}
end
theorem kj:∀{xs:⇑V}{us:⇑QJ},xs.length=us.length->(∀(i:Nat)(x:V)(u:QJ),xs[i]?=ψ x->us[i]?=ψ u->RelV x u)->bA xs us
 |[],[],_,_=>.nil
 |x::r,u::q,a,h=>.cons (h 0 x u rfl rfl) (kj (by simpa using a) fun i y w e b=>h (i+1) y w (by simpa using e) (by simpa using b))
section
variable {K:QK}{D:Ends}{σ:St}{H:Hp}{Q:VK}{te ta tb:TE}{tl:TA}{xs:⇑V}{i j:Int}
def MO(xs:⇑V)(H:Hp)(Q:VK):Prop:=xs.length<=QT/\∀p,H p=χ->Q (.ref p) (upd H p (.lst xs))
def LA(xs:⇑V)(H:Hp)(Q:VK):Prop:=xs.length<=QT/\∀p,H p=χ->Q (.ref p) (upd H p (.tup xs))
theorem Lz(h:tl σ H fun xs a=>MO xs a Q):dy tl σ H Q:=h
theorem LN(h:tl σ H fun xs a=>LA xs a Q):jE tl σ H Q:=h
theorem Mz(hz:xs.length<=QT)(h:∀p a,H p=χ->ah H a->a p=ψ (.lst xs)->Q (.ref p) a):MO xs H Q:=⟨hz,fun p b=>h p _ b (ah.updN b) ak⟩
theorem MS(hz:xs.length<=QT)(h:∀p a,H p=χ->ah H a->a p=ψ (.tup xs)->Q (.ref p) a):LA xs H Q:=⟨hz,fun p b=>h p _ b (ah.updN b) ak⟩
theorem LD{a:QI}{lo hi:Option Int}(d:aD K H a xs)(h:∀p b,H p=χ->ah H b->b p=ψ (.lst (kX xs lo hi))->Q (.ref p) b):xq K (.ref a) lo hi H Q:=⟨a,xs,rfl,d,fun p c=>h p _ c (ah.updN c) ak⟩
theorem F8{p:QI}(c:aD K H p xs)(h:∀l a,H l=χ->ah H a->a l=ψ (.lst xs)->Q (.ref l) a):Az K [.ref p] H Q:=⟨p,xs,rfl,.inl c,fun l b=>h l _ b (ah.updN b) ak⟩
theorem C8{l b:QI}{ys:⇑V}(d:H l=ψ (.lst xs))(e:H b=ψ (.lst ys))(hz:xs.length+ys.length<=QT)(h:∀p a,H p=χ->ah H a->a p=ψ (.lst (xs++ys))->Q (.ref p) a):HE (.ref l) (.ref b) H Q:=
 ⟨l,b,xs,ys,rfl,rfl,d,e,hz,fun p c=>h p _ c (ah.updN c) ak⟩
theorem cB{l:QI}{y:V}(a:H l=ψ (.lst xs))(hz:xs.length<QT)(h:Q .non (upd H l (.lst (xs++[y])))):dD (.ref l) [y] H Q:=⟨l,xs,y,rfl,rfl,a,hz,h⟩
theorem CG{p:QI}(a:H p=ψ (.lst xs)):Lp K "list" (.ref p) H:=.inl ⟨rfl,_,aD.of a⟩
end
section
variable {A B:Prop}{c:Prop} [Decidable c]
theorem wL(a:c)(h:A):if decide c=ω then A else B:=by rw[decide_eq_true a];exact xk h
theorem gW(a:¬c)(h:B):if decide c=ω then A else B:=by rw[decide_eq_false a];exact Cg h
theorem CC(a:¬c)(h:A):if(!decide c)=ω then A else B:=by rw[decide_eq_false a];exact xk h
theorem Pt(h:B):if(!true)=ω then A else B:=Cg h
theorem Pg(h:A):if(!false)=ω then A else B:=xk h
theorem cC(a:c->A)(b:¬c->B):if decide c=ω then A else B:=K8 (fun h=>a (of_decide_eq_true h)) (fun h=>b fun z=>h (decide_eq_true z))
theorem N3(a:¬c->A)(b:c->B):if(!decide c)=ω then A else B:=by
 by_cases z:c
 .exact gG z (b z)
 .exact CC z (a z)
end
theorem IM(ns:⇑Int)(m:Nat):kX (ns.map V.int) none (ψ (m:Int))=(ns.take m).map V.int:=by
 unfold kX
 rw[HT.A2,HT.tX,QR,ZX,Xn,WU]
 rcases Yy m ns.length with h|h
 .rw[YB h]
 .rw[Yf h,SU ⋯,SU (by simpa using h)]
theorem Bk(ns:⇑Int)(m:Nat):kX (ns.map V.int) (ψ (m:Int)) none=(ns.drop m).map V.int:=by
 unfold kX
 rw[HT.A2,HT.tX,QR,YN]
 rcases Yy m ns.length with h|h
 .rw[YB h,SU ⋯]
 .rw[Yf h,XW ⋯,XW (by simpa using h)]
  simp
theorem aO:(1000:Nat)<=QT:=Tj (EU (Q2 _))
mutual
def nice:Rp->Bool
 |.none=>true
 |.bool _=>false
 |.int _=>true
 |.str x=>WG x
 |.list xs=>cI xs
 |.tuple xs=>cI xs
 |.dict _=>false
def cI:⇑Rp->Bool
 |[]=>true
 |x::xs=>nice x&&cI xs
end
mutual
theorem k8:∀d:Rp,nice d=ω->d.canLay0=ω
 |.none,_=>by simp[Tz]
 |.bool _,h=>by simp[nice]at h
 |.int _,_=>by simp[Tz]
 |.str x,h=>by rw[Tz];rw[nice]at h;exact h
 |.list xs,h=>by rw[Tz];exact dQ xs (by rw[nice]at h;exact h)
 |.tuple xs,h=>by rw[Tz];exact dQ xs (by rw[nice]at h;exact h)
 |.dict _,h=>by simp[nice]at h
theorem dQ:∀ds:⇑Rp,cI ds=ω->Va ds=ω
 |[],_=>by simp[Va]
 |x::xs,h=>by
  rw[cI,RI]at h
  rw[Va,k8 x h.1,dQ xs h.2]
  rfl
end
mutual
theorem mh:∀d e:Rp,nice d=ω->nice e=ω->R8 d e=ω
 |.list xs,.list ys,h,a=>by rw[R8];exact lZ xs ys (by rw[nice]at h;exact h) (by rw[nice]at a;exact a)
 |.tuple xs,.tuple ys,h,a=>by rw[R8];exact lZ xs ys (by rw[nice]at h;exact h) (by rw[nice]at a;exact a)
 |.bool _,_,h,_=>by simp[nice]at h
 |.dict _,_,h,_=>by simp[nice]at h
 |.none,.none,_,_ | .none,.int _,_,_ | .none,.str _,_,_ | .none,.list _,_,_ | .none,.tuple _,_,_=>by simp[R8]
 |.int _,.none,_,_ | .int _,.int _,_,_ | .int _,.str _,_,_ | .int _,.list _,_,_ | .int _,.tuple _,_,_=>by simp[R8]
 |.str _,.none,_,_ | .str _,.int _,_,_ | .str _,.str _,_,_ | .str _,.list _,_,_ | .str _,.tuple _,_,_=>by simp[R8]
 |.none,.bool _,_,a | .none,.dict _,_,a | .int _,.bool _,_,a | .int _,.dict _,_,a | .str _,.bool _,_,a | .str _,.dict _,_,a=>by simp[nice]at a
 |.list _,.none,_,_ | .list _,.int _,_,_ | .list _,.str _,_,_ | .list _,.tuple _,_,_=>by simp[R8]
 |.list _,.bool _,_,a | .list _,.dict _,_,a=>by simp[nice]at a
 |.tuple _,.none,_,_ | .tuple _,.int _,_,_ | .tuple _,.str _,_,_ | .tuple _,.list _,_,_=>by simp[R8]
 |.tuple _,.bool _,_,a | .tuple _,.dict _,_,a=>by simp[nice]at a
theorem lZ:∀ds es:⇑Rp,cI ds=ω->cI es=ω->To ds es=ω
 |[],[],_,_=>by simp[To]
 |[],_::_,_,_=>by simp[To]
 |_::_,[],_,_=>by simp[To]
 |x::xs,y::ys,h,a=>by
  rw[cI,RI]at h a
  rw[To,mh x y h.1 a.1,lZ xs ys h.2 a.2]
  rfl
end
def cK(n:Nat)(d:Rp):Prop:=nice d=ω/\d.depth<=n
theorem cK.shaped{n:Nat}{d:Rp}(h:cK n d)(hn:n<=64):Us d=ω:=by
 unfold Us
 rw[k8 d h.1,decide_eq_true (show d.depth<=64 by have:=h.2;omega)]
 rfl
theorem cK.mono{n m:Nat}{d:Rp}(h:cK n d)(hm:n<=m):cK m d:=⟨h.1,QV h.2 hm⟩
theorem DD{n:Nat}:∀{ds:⇑Rp},(∀d∈ds,cK n d)->cI ds=ω/\Vy ds<=n
 |[],_=>by simp[cI,Vy]
 |x::xs,h=>by
  obtain⟨a,e⟩:=h x RW
  obtain⟨b,f⟩:=DD fun y c=>h y (Rm _ c)
  rw[cI,a,b,Vy]
  exact⟨rfl,by omega⟩
theorem ue{n:Nat}{ds:⇑Rp}(h:∀d∈ds,cK n d):cK (n+1) (.list ds):=by
 obtain⟨a,b⟩:=DD h
 exact⟨by rw[nice];exact a,by rw[UE];omega⟩
theorem uA{n:Nat}{ds:⇑Rp}(h:∀d∈ds,cK n d):cK (n+1) (.tuple ds):=by
 obtain⟨a,b⟩:=DD h
 exact⟨by rw[nice];exact a,by rw[UE];omega⟩
theorem G5{n:Nat}(i:Int):cK n (.int i):=⟨by simp[nice],by simp[UE]⟩
theorem KL{d e:Rp}(h:d≠e):same d e=ξ:=by
 cases z:same d e with
 |false=>rfl
 |true=>exact absurd (same_iff.mp z) h
section
variable {K:QK}{H:Hp}{Q:VK}{x y:V}{d e:Rp}{n:Nat}
theorem NP(a:cV K H x d)(b:cV K H y e)(hd:cK n d)(he:cK n e)(hn:n<=64)(h:Q (.bl (same d e)) H):qL K false x y H Q:=
 ⟨d,e,a,b,hd.shaped hn,he.shaped hn,mh d e hd.1 he.1,by rw[UG];exact h⟩
theorem Ii(a:cV K H x d)(b:cV K H y e)(hd:cK n d)(he:cK n e)(hn:n<=64)(h:Q (.bl (!same d e)) H):qL K true x y H Q:=
 ⟨d,e,a,b,hd.shaped hn,he.shaped hn,mh d e hd.1 he.1,by rw[TM];exact h⟩
theorem IT(a:cV K H x d)(b:cV K H y d)(hd:cK n d)(hn:n<=64)(h:Q (.bl false) H):qL K true x y H Q:=Ii a b hd hd hn (by rw[same_self];exact h)
end
section
variable {X:Cx}
end
section
variable {X:Cx}
end
section
variable {X:Cx}
def PH(K:QK)(t:TE):TT:=fun c H Q=>t c H fun x b=>∃a xs,x=.ref a/\aD K b a xs/\Q (!xs.isEmpty) b
theorem M2{e:QQ}{t:TE}(h:PE X e t)(he:∀b,isTrue e X.env b=(do let v <-b;standAt e.pos;holding [v] (truthy v)):=by intro _;rfl):PT X e (PH X.K t):=by
 intro d s f H Q I hw
 refine isTrue_plain (cf (h d s f H _ I hw) fun v r ⟨x,g,I1,i,j⟩=>?_) (he _)
 obtain⟨a,xs,rfl,k,q⟩:=j
 cases i
 obtain⟨c,l,m,n⟩:=I1.list k
 have o:=l.length
 have u:c.length<=QT:=by rw[<-o];exact n
 refine wpAny_truthy_list m.isList (by rw[RH];have:(QT:Int)<2 ^ 63:="^";omega) ?_
 exists g,I1.tok _
 have p:c.toArray.isEmpty=xs.isEmpty:=by cases xs<;>cases c<;>simp_all
 rw[p]
 exact q
end
section
variable {prog:Q0}{w:QX}{A:Q6}{E:QJ->QL->Prop}{s:QL}
end
section
variable {prog:Q0}{w:QX}{A:Q6}{E:QJ->QL->Prop}{s:QL}
end
section
variable {X:Cx}
end
section
variable {prog:Q0}{w:QX}{A:Q6}{R:Result->QL->Prop}{I:QI}{fp wr:⇑QI}{n:Nat}{P:Nat->QJ->Prop}{St:Nat->QS->Prop}
end
section
variable {prog:Q0}{w:QX}{A:Q6}{E:QJ->QL->Prop}{s:QL}
end
section
variable {X:Cx}
end
structure gT(P:Q0)(w:QX)(K:QK)(mg:QH->Option QJ)(base:QS)(k:Nat)(x:QH)(ps:⇑QH)(sp:Sp):Prop where
 ex:∃a fd,mg x=ψ (.ref a)/\SO K (.ref a)=ω/\Binds K fd ps []/\lQ P w K mg base qR k a fd ps sp
structure bf(K:QK)(mg:QH->Option QJ)(x:QH)(st:QU)(ps:⇑QH):Prop where
 ex:∃a fd,mg x=ψ (.ref a)/\LC K x x st a fd/\∀us:⇑QJ,us.length=ps.length->bindArgs fd ⟨us,[]⟩=pure (ps.zip us)
section
variable {P:Q0}{w:QX}{K:QK}{mg:QH->Option QJ}{base:QS}
theorem bf.cal{x:QH}{st:QU}{ps N:⇑QH}{c:TS}{k:Nat}{sp:Sp}(F:bf K mg x st ps)(S:au N ps (ag st))(len:∀vs H Q E,sp vs H Q E->vs.length=ps.length)
  (g:∀(f:QI)(cdv:QJ)(A:Q6)(outer:⇑Ri)(s:QL)(H:Hp)(E:XK),cH k (A.deeper (RY x (ag st) s.heap.objs.size f cdv))->vt (bS qR P w K mg base N x (ag st) f cdv A outer s H E).nox (cT st) c)
  (hr:∀vs H Q E,sp vs H Q E->c {nx:=fun _ H'=>Q .non H',rt:=Q} (start N vs) H):gT P w K mg base (k+1) x ps sp:=by
 obtain⟨a,fd,hm,e,d⟩:=F.ex
 exact⟨a,fd,hm,e.kp,.all d,e.ok S len fun cdv A outer s H vs Q E b h=>⟨c,g a cdv A outer s H E b,hr vs H Q E h⟩⟩
theorem bf.law{x:QH}{st:QU}{N:⇑QH}{y:QH}{c:TS}{k:Nat}{sp:Sp}{d:QI}(F:bf K mg x st [y])(g:mg x=ψ (.ref d))(S:au N [y] (ag st))(len:∀vs H Q E,sp vs H Q E->vs.length=1)
  (j:∀(base:QS)(f:QI)(cdv:QJ)(A:Q6)(outer:⇑Ri)(s:QL)(H:Hp)(E:XK),cH k (A.deeper (RY x (ag st) s.heap.objs.size f cdv))->vt (bS qR P w K mg base N x (ag st) f cdv A outer s H E).nox (cT st) c)
  (hr:∀vs H Q E,sp vs H Q E->c {nx:=fun _ H'=>Q .non H',rt:=Q} (start N vs) H):
  ∃fd:Su,(∀(s:QL)(u:QJ),BindsTo s fd ⟨[u],[]⟩ [(y,u)])/\∀base:QS,lQ P w K mg base qR (k+1) d fd [y] sp:=by
 obtain⟨a,fd,hm,l,i⟩:=F.ex
 have e:=g.symm.trans hm
 cases e
 exact⟨fd,fun s u=>.of_eq (i [u] rfl),fun base=>l.ok S len fun cdv A outer s H vs Q E b h=>⟨c,j base d cdv A outer s H E b,hr vs H Q E h⟩⟩
theorem Ma{h:QS}{x:QH}{st:QU}{ps:⇑QH}{f:QI}{g:QJ}{i c:Option QI}{e:Array (Option QJ)}{kV b d a ct:QJ}(X:K.In h)(G:h.Ns RD mg)
  (j:Sw K RD x=ψ (ψ (.ref f))) (k:K.lookup f=ψ ⟨g,i,.func (Tc x x (jL st) (cT st) (ag st) .none kV b d c a ct),e⟩)
  (l:U8 K a x=ω) (m:SO K (.ref f)=ω)
  (n:∀(kV b d:QJ)(c:Option QI)(a ct:QJ)(us:⇑QJ),us.length=ps.length->bindArgs (Tc x x (jL st) (cT st) (ag st) .none kV b d c a ct) ⟨us,[]⟩=pure (ps.zip us)):bf K mg x st ps:=
 ⟨f,_,Th X G j,Ic k l m,n kV b d c a ct⟩
end
section
variable {X:Cx}{k:Nat}{ps:⇑QH}{sp:Sp}{x:QH}{p pos:Q9}{e:QQ}{es:⇑QQ}{t:TA}
theorem NO(C:gT X.prog X.w X.K X.mg X.base k x ps sp)(d:cH k X.A)(ha:PA X (e::es) t)(f:Gl X x:=by rfl)(b:(x==("__debug__":QH))=ξ:=by decide)
  (he:Q5 (e::es) X.env=(false,eval e X.env)::Q5 es X.env:=by rfl) (c:(Rx pos (Q5 es X.env)).any (·.1)=ξ:=by rfl):PE X (.Call (.Name x p) (e::es) [] pos) (aJ sp [] E0 t):=by
 obtain⟨a,i,hm,g,h,F⟩:=C.ex
 exact Et F d f hm g h .nil Ef ha b he c
theorem Iv{a:Operator}{r:R2}(h:fA X (S9 a) r):Qv X a r:=h
theorem Kn{K:QK}{mg:QH->Option QJ}{h:QS}{x:QH}(X:K.In h)(G:h.Ns RD mg)(z:Sw K RD x=ψ none):mg x=none:=aa8 X G z
end
def bV(n:Nat)(R:⇑V->Hp->VK->Prop):Sp:=fun a H Q _=>a.length=n/\R a H Q
theorem aA{n:Nat}{R:⇑V->Hp->VK->Prop}{m:Nat}(e:n=m):∀vs H Q E,bV n R vs H Q E->vs.length=m:=fun _ _ _ _ h=>h.1.trans e
def CT(K:QK):Sp:=bV 1 fun b H Q=>∃(a:QI)(ns:⇑Int),b=[.ref a]/\aD K H a (ns.map V.int)/\ns.length<=63/\∀c,Q (.bl true) c
theorem Hq{l:ZZ}{k:Nat}{q:Q0}{b:⇑QH}{XP:(QH->Option QJ)->QS->Prop}{j:QX->QS->Prop}{d:DefRec}{K:Params->QK}(hn:l.most=ψ 63)(i:d.params.defaults=[])(m:cH k callerA)
  (o:∀(w:QX)(h:QS),j w h->(K w.params).In h)
  (F:∀(w:QX)(mg:QH->Option QJ)(c:QI)(h:QS),(K w.params).In h->h.Ns RD mg->mg d.name=ψ (.ref c)->
   ∃g:Su,(∀(s:QL)(u:QJ),BindsTo s g ⟨[u],[]⟩ [("script",u)])/\∀base:QS,lQ l.prog w (K w.params) mg base qR k c g ["script"] (CT (K w.params))):
  Yk q b XP j l.row.toRowW d [] (fun f vs=>Wk f vs):=
 Jo (n:=63) (k:=k) (x:="script") (CX:=fun _=>qR) (sp:=fun w=>CT (K w.params)) hn "^" i m o
  (fun w mg c h p G e=>let ⟨g,r,t⟩:=F w mg c h p G e;⟨g,r,fun base _ _=>t base⟩) (fun _ _ a v y _ A=>⟨rfl,a,v,rfl,A,y,fun _=>rfl⟩) fun _ _ _ _ _ z=>z
theorem Gs(o:QP)(f):(o.mapFields f).dict=o.dict:=by
 unfold TY;split<;>rfl
noncomputable def Mc(base h:QS)(e T:QI)(cls:QJ):Prop:=
 (∃a b c ts,h.get? e=ψ a/\a.cls=cls/\a.dict=χ/\a.data=.fields b/\b[1]?=ψ (.ref T)/\h.get? T=ψ c/\c.data=.fields ts/\ts[3]?=ψ .none)/\base.get? T=χ/\T≠e
noncomputable def IG(base:QS)(l:⇑Ri)(e:QI)(cls:QJ)(h h':QS):Prop:=
 (∀b o,b≠e->b∉zN l->h.get? b=ψ o->h'.get? b=ψ o)/\(∀b o,b≠e->h.get? b=ψ o->∃a,h'.get? b=ψ {o with slots:=a})/\∃T,h.objs.size<=T/\Mc base h' e T cls
section
variable {M:Model}{A:Q6}{E:QJ->QL->Prop}{s:QL}
theorem lS{base:QS}{env:Ri}{outer:⇑Ri}{L e:QI}{m:QP}{vs:Array QJ}{c:QJ}{d:Bool}{Q:Unit->QL->Prop}(t:A.frames=ψ (env::outer))(u:s.heap.FunFrames base (env::outer))(I:env.frame=ψ L)
  (he:s.heap.get? e=ψ m) (v:base.StaysIn s.heap) (w:m.dict=χ) (hd:m.data=.fields vs) (hsz:1<vs.size) (h:∀h',IG base (env::outer) e m.cls s.heap h'->Q () {s with heap:=h'}):
  QM M A (do let a <-frameOf env;let pl <-entryPlaceOf L d;let b <-Yg c a .none (RF L) .none pl;setField (.ref e) 1 b) (fun _ J=>QM M A (setFlight (.ref e) none) Q E J) E s:=by
 have n:e∉(env::outer).filterMap (·.frame):=fun hm=>by
  obtain⟨_,o,r,y⟩:=u.mem hm ;rw[he]at r;injection r with r;subst r;exact y vs hd
 refine QN (wpAny_frameOf_fun t u I fun g1 p=>?_) ;refine QN (wpAny_entryPlaceOf fun pl q=>?_)
 unfold Yg newFields ;refine QN (wpAny_newObj_type ?_ (q.sizeOk5 _ _ _ _ _))
 have D:g1.get? e=ψ m:=(p.2.1 e n).trans he
 have z:base.StaysIn g1:=fun b o j=>(p.2.1 b fun hm=>by rw[(u.mem hm).1]at j;cases j).trans (v b o j)
 have F:=Rj (h:=g1) {cls:=.type "traceback",dict:=χ,data:=.fields ([c,.ref L,.none,RF L,.none]++(if pl.isEmpty then VS 6 R0 else pl)).toArray} D
 refine wpAny_setField F hd hsz ?_ ;have k:g1.objs.size≠e:=Sf (Rc D)
 have B:=Xb hd (·.setIfInBounds 1 (Rf g1.objs.size))
 have G:=ZH (TY (·.setIfInBounds 1 (Rf g1.objs.size))) F (ZO B)
 have H:=(Tv (g1.push {cls:=.type "traceback",dict:=χ,data:=.fields ([c,.ref L,.none,RF L,.none]++(if pl.isEmpty then VS 6 R0 else pl)).toArray}) (TY (·.setIfInBounds 1 (Rf g1.objs.size))) (Rb k)).trans (Rt g1 rfl)
 unfold setFlight ;refine QN (RS G B (x:=.ref g1.objs.size) (by simp[hsz]) ?_)
 rw[if_pos (show(Rf g1.objs.size != R0)=ω from by simp)]
 refine wpAny_setField H rfl (by simp only[RH,RN,RB,WB]<;>omega) (h _ ?_)
 have i : ∀ b o, b ≠ e -> g1.get? b = some o -> (((g1.push { cls := .type "traceback", dict := none, data := .fields ([c, .ref L, .none, RF L, .none] ++ (if pl.isEmpty then VS 6 R0 else pl)).toArray }).update e (TY (·.setIfInBounds 1 (Rf g1.objs.size)))).update g1.objs.size
       (TY (·.setIfInBounds 3 ((none:Option QI).elim R0 fun f=>RF f)))).get? b=ψ o:=fun b o g l=>by
  rw[Tv _ _ (Sf (Rc l)),Tv _ _ (Rb g)] ;exact Rj _ l
 exists fun b o g C l=>i b o g ((p.2.1 b C).trans l),fun b o g l=>?_
 .obtain⟨K,N⟩:=p.2.2 b o l ;exact⟨K,i b _ g N⟩
 .refine⟨g1.objs.size,Uo p.1.symm,⟨_,_,_,_,?_,Obj.cls_mapFields _ _,(Gs _ _).trans w,B,by simp[hsz],ZH _ H (ZO (Xb rfl _)),Xb rfl _,by first|(simp;done)|(rcases q with rfl|⟨_,_,_,_,_,_,_,rfl⟩<;>simp)⟩,z.fresh,k⟩
  rw[Tv _ _ k] ;exact G
theorem C5{base:QS}{env:Ri}{outer:⇑Ri}{L e:QI}{a:QP}{vs:Array QJ}{Q:Unit->QL->Prop}(b:A.frames=ψ (env::outer))(i:s.heap.FunFrames base (env::outer))(f:env.frame=ψ L)
  (he:s.heap.get? e=ψ a) (c:base.StaysIn s.heap) (d:a.dict=χ) (hd:a.data=.fields vs) (g:vs[1]?=ψ .none) (h:∀h',IG base (env::outer) e a.cls s.heap h'->Q () {s with heap:=h'}):QM M A (leaving env (.ref e)) Q E s:=by
 unfold leaving noteFrame ;simp only[f]
 refine QN (QN (RS he hd g ?_)) ;rw[if_neg "^"]
 exact lS b i f he c d hd (UB.mp g).1 h
end
theorem Dj{M:Model}{A:Q6}{E:QJ->QL->Prop}{s:QL}{base:QS}{env:Ri}{outer:⇑Ri}{L e T:QI}{cls:QJ}{k y:QP}{vs ts:Array QJ}{Q:Unit->QL->Prop}(m:A.frames=ψ (env::outer))(D:s.heap.FunFrames base (env::outer))(z:env.frame=ψ L)
  (he:s.heap.get? e=ψ k) (j:k.cls=cls) (n:k.dict=χ) (hd:k.data=.fields vs) (B:vs[1]?=ψ (.ref T)) (p:base.get? T=χ) (r:T≠e) (t:s.heap.get? T=ψ y) (d:y.data=.fields ts) (C:ts[3]?=ψ .none) (u:base.StaysIn s.heap)
  (h:∀h',(∀b o,b≠e->b≠T->b∉zN (env::outer)->s.heap.get? b=ψ o->h'.get? b=ψ o)->(∀b o,b≠e->b≠T->s.heap.get? b=ψ o->∃F,h'.get? b=ψ {o with slots:=F})->(∃l,s.heap.objs.size<=l/\Mc base h' e l cls)->Q () {s with heap:=h'}):QM M A (leaving env (.ref e)) Q E s:=by
 subst j
 unfold leaving noteFrame ;simp only[z] ;refine QN (QN (RS he hd B ?_))
 rw[if_pos (show(Rf T != R0)=ω from by simp)] ;refine QN (RS t d C ?_)
 rw[if_neg (show ¬((R0==RF L)=ω)from by simp[RF])] ;refine QN (wpAny_setField t d (UB.mp C).1 ?_)
 have a:∀b,b≠T->(s.heap.update T (TY (·.setIfInBounds 3 R0))).get? b=s.heap.get? b:=fun b c=>Tv _ _ (Rb c)
 have f:∀b o,s.heap.get? b=ψ o->(∀vs,o.data≠.fields vs)->b≠T:=fun b o c g q=>by rw[q,t]at c;injection c with c;subst c;exact g ts d
 refine lS m (D.of_keeps fun b o c g=>⟨o,(a b (f b o c g)).trans c,rfl⟩) z ((a e (Rb r)).trans he) (fun b o i=>(a b fun q=>by rw[q,p]at i;cases i).trans (u b o i)) n hd (UB.mp B).1 fun h' x=>?_
 obtain⟨G,H,l,I,J⟩:=x
 exact h h' (fun b o v w K c=>G b o v K ((a b w).trans c)) (fun b o v w c=>H b o v ((a b w).trans c)) ⟨l,QV (Uo (Ze ..).symm) I,J⟩
section
variable {X:Cx}{pins:⇑(QI×QP)}{σ:St}{H:Hp}{s:QL}{h':QS}
theorem Inv.left0{ch:⇑QI}(I:Inv X pins σ H s)(d:∀b∈ch,qf X pins H b)(k1:∀b o,b∉ch->b∉zN X.stack->s.heap.get? b=ψ o->h'.get? b=ψ o)(k2:∀b o,b∉ch->s.heap.get? b=ψ o->∃sl,h'.get? b=ψ {o with slots:=sl}):Inv X pins σ H {s with heap:=h'}:=by
 have f:∀b,b≠X.env.locals->b∉X.fs->b∉zN X.stack:=fun b h1 g z=>(QW.mp (I.stkSub b z)).elim h1 g
 refine I.step (g':=s.gens) (d':=s.drawn) (t':=s.toks) (ch:=ch) (fun b k=>?_) (fun b o h1 g a e _=>k1 b o a (f b h1 g) e) (fun b o _ _ a e _=>k2 b o a e) (fun _ _ _ _ n=>n) (fun b o a e=>?_) (fun _ _ e=>e) (fun _ _ _ e=>e) (fun b ps e=>⟨#[],by rw[e];simp⟩) (fun m hm=>?_) (fun b u e=>?_) I.bare
 .obtain⟨_,f1,_,l,p,t⟩:=d b k
  exact⟨l,f1,p,t⟩
 .obtain⟨sl,q⟩:=k2 b o a e
  exact⟨_,q⟩
 .obtain⟨o,es,w,x,r⟩:=hm
  obtain⟨sl,q⟩:=k2 _ o (fun z=>(d _ z).2.1 rfl) x
  exact⟨_,es,w,q,r⟩
 .have j:∀c u,H c=ψ u->c∉ch/\c∉zN X.stack:=fun c u a=>⟨(fun z=>by rw[(d c z).1]at a;cases a),(fun z=>by rw[I.stkFree c z]at a;cases a)⟩
  refine(I.hok b u e).stay (fun c v a q=>?_) (fun _ q=>q) fun _ _ q=>q
  rcases a with z|z
  .subst z
   obtain⟨h,i⟩:=j c u e
   exact k1 c v h i q
  .obtain⟨h,i⟩:=j c _ z
   exact k1 c v h i q
end
def G1(X:Cx)(a:⇑(QI×QP))(H:Hp)(b:QI):Prop:=
 H b=χ/\b≠X.env.locals/\b∉X.fs/\X.s₀.heap.get? b=χ/\(∀x c,X.env.cells.lookup x=ψ c->c≠b)/\∀p∈X.pn++a,p.1≠b
section
variable {X:Cx}{pins:⇑(QI×QP)}{σ:St}{H H':Hp}{s:QL}{ch:⇑QI}
abbrev Cx.wide(X:Cx)(ch:⇑QI):Cx:={X with ex:=X.ex++ch}
theorem Inv.wide(I:Inv X pins σ H s)(a:∀b∈ch,G1 X pins H b):Inv (X.wide ch) pins σ H s:=
 ⟨⟨I.ok.mod,I.ok.kind,I.ok.glob,I.ok.blt,I.ok.above,I.ok.inj,I.ok.has,I.ok.cab,I.ok.hd,I.ok.frames,I.ok.stk,(fun b d=>(Rr.mp d).elim (I.ok.exf b) fun z=>⟨(a b z).2.1,fun x c e=>(a b z).2.2.2.2.1 x c e⟩),I.ok.bs,I.ok.bsz,
  (fun b o e d=>(Rr.mp d).elim (I.ok.noex b o e) fun z=>by have q:=(I.ok.bs b o e).1;rw[(a b z).2.2.2.1]at q;cases q),(fun b d=>(Rr.mp d).elim (I.ok.exfs b) fun z=>(a b z).2.2.1),I.ok.funs,I.ok.frf⟩,I.os,I.bare,I.base.mono (fun _ z=>z) (fun _ z=>Rr.mpr (.inl z)),I.loc,I.cell,I.free,I.freeC,I.pin,I.hok,I.len⟩
theorem Inv.shut(ok:X.Ok)(c:∀b∈ch,X.s₀.heap.get? b=χ)(I:Inv (X.wide ch) pins σ H s):Inv X pins σ H s:=by
 have nx:∀b o,X.s₀.heap.get? b=ψ o->b∉X.ex->b∉X.ex++ch:=fun b o e a z=>(Rr.mp z).elim a fun z=>by rw[c b z]at e;cases e
 exact⟨ok,I.os,I.bare,⟨fun b o e n d a=>I.base.keep b o e n d (nx b o e a),fun b o e n d a=>I.base.slot b o e n d (nx b o e a),fun b o e n a=>I.base.free b o e n (nx b o e a),fun b o e a=>I.base.there b o e (nx b o e a),I.base.tups,I.base.frzs,I.base.tbls⟩,I.loc,I.cell,I.free,I.freeC,I.pin,I.hok,I.len⟩
theorem Inv.fpO{b:QI}(I:Inv X pins σ H s)(a:s.heap.get? b=χ)(hx:b∉X.ex)(hn:H' b=χ):G1 X pins H' b:=by
 refine⟨hn,fun z=>?_,fun z=>?_,?_,fun x c e z=>?_,fun p hp z=>?_⟩
 .obtain⟨m,⟨o,_,_,d,_⟩,_⟩:=I.loc
  rw[z,d]at a;cases a
 .obtain⟨_,o,d,_⟩:=I.ok.funs.mem z
  cases h0:X.s₀.heap.get? b with
  |none=>rw[d]at h0;cases h0
  |some o'=>
   obtain⟨f,q⟩:=I.base.there b o' h0 hx
   rw[q]at a;cases a
 .cases h0:X.s₀.heap.get? b with
  |none=>rfl
  |some o'=>
   obtain⟨f,q⟩:=I.base.there b o' h0 hx
   rw[q]at a;cases a
 .obtain⟨v,o,d,_⟩:=I.cell x c e
  rw[z,a]at d;cases d
 .have q:=(I.pin p hp).1
  rw[z,a]at q;cases q
theorem G1.ok{b:QI}(h:G1 X pins H b)(a:b∈ch):qf (X.wide ch) pins H b:=⟨h.1,h.2.1,h.2.2.1,.inl (Rr.mpr (.inr a)),h.2.2.2.2.1,h.2.2.2.2.2⟩
theorem Inv.left{h':QS}(I:Inv X pins σ H s)(a:∀b∈ch,G1 X pins H b)(k1:∀b o,b∉ch->b∉zN X.stack->s.heap.get? b=ψ o->h'.get? b=ψ o)(k2:∀b o,b∉ch->s.heap.get? b=ψ o->∃sl,h'.get? b=ψ {o with slots:=sl}):Inv X pins σ H {s with heap:=h'}:=
 Inv.shut I.ok (fun b c=>(a b c).2.2.2.1) (Inv.left0 (X:=X.wide ch) (I.wide a) (fun b c=>(a b c).ok c) k1 k2)
end
noncomputable def dk(P:Q0)(w:QX)(base:QS):Fy:=fun b H s E e c=>∃a T d f,e=.ref a/\c.os=s.os/\SW c.gens/\Un (zN b) [] H f s.heap c.heap/\mE P w f c.heap/\f a=χ/\f T=χ/\Mc base c.heap a T d/\s.heap.get? a=χ/\s.heap.get? T=χ/\E d none f
section
variable {P:Q0}{w:QX}{K:QK}{mg:QH->Option QJ}{base:QS}{N:⇑QH}{qual:QH}{scope:RG}{f:QI}{cd:QJ}{A:Q6}{outer:⇑Ri}{s0 s:QL}{H0 H:Hp}{E:XK}{pins:⇑(QI×QP)}{σ:St}
theorem zE{X:Cx}(ok:X.Ok)(h:X.stack=X.env::X.outer):X.env.frame=ψ X.env.locals:=by
 rcases ok.stk with e|⟨_,e⟩
 .rw[h]at e
  have:=congrArg S8 e
  simp at this
 .exact e
theorem leave_new{e:QI}{a:QP}{vs:Array QJ}(I:Inv (bS (dk P w base) P w K mg base N qual scope f cd A outer s0 H0 E) pins σ H s)(he:s.heap.get? e=ψ a)(hn:H e=χ)(d:s0.heap.get? e=χ)(g:G1 (bS (dk P w base) P w K mg base N qual scope f cd A outer s0 H0 E) pins H e)(h:a.dict=χ)(hd:a.data=.fields vs)(k:vs[1]?=ψ .none)(q:E a.cls none H):
  (bS (dk P w base) P w K mg base N qual scope f cd A outer s0 H0 E).xe (.ref e) s:=by
 have l:=zE I.ok rfl
 refine C5 (base:=base) (env:=RY qual scope s0.heap.objs.size f cd) (outer:=outer) I.ok.frames I.stack l he I.bk h hd k fun h' x=>?_
 obtain⟨m,n,T,j,p⟩:=x
 have J:=I.left (ch:=[e]) (h':=h') (fun b c=>by rw[Rv.mp c];exact g) (fun b o c r i=>m b o (fun z=>c (by simp[z])) r i) (fun b o c i=>n b o (fun z=>c (by simp[z])) i)
 exact⟨e,T,a.cls,H,rfl,J.os,J.bare,J.base,J.hok,hn,I.hok.fresh j,p,d,VB (QV I.sz j),q⟩
theorem BV:jx (dk P w base) (bS (dk P w base) P w K mg base N qual scope f cd A outer s0 H0 E) E:=by
 intro pins σ H s e v I y
 obtain⟨a,T,k,j,rfl,os,h,un,l,m,B,⟨⟨oe,vs,oT,ts,C,D,F,G,L,M,O,Q⟩,R,S⟩,x,U,q⟩:=y
 have J:Inv (bS (dk P w base) P w K mg base N qual scope f cd A outer s0 H0 E) pins σ j v:=by
  obtain⟨V,g,d,t,n⟩:=v
  obtain rfl:n=s.os:=os
  exact I.call (h':=V) (g':=g) (d':=d) (t':=t) (ch:=[]) un l h (fun b z=>absurd z ⋯)
 have W:=zE J.ok rfl
 refine Dj (base:=base) (env:=RY qual scope s0.heap.objs.size f cd) (outer:=outer) J.ok.frames J.stack W C D F G L R S M O Q J.bk fun h' X Y ⟨Z,i,tr⟩=>?_
 have p:∀b,s.heap.get? b=χ->j b=χ->G1 (bS (dk P w base) P w K mg base N qual scope f cd A outer s0 H0 E) pins j b:=fun b c hn=>I.fpO c (by simp[bS]) hn
 have J2:=J.left (ch:=[a,T]) (h':=h') (fun b c=>by
   have r:b=a\/b=T:=by simpa using c
   rcases r with z|z
   .rw[z];exact p a x m
   .rw[z];exact p T U B) (fun b o c hs u=>X b o (fun z=>c (by simp[z])) (fun z=>c (by simp[z])) hs u) (fun b o c u=>Y b o (fun z=>c (by simp[z])) (fun z=>c (by simp[z])) u)
 exact⟨a,Z,k,j,rfl,J2.os,J2.bare,J2.base,J2.hok,m,J.hok.fresh i,tr,(p a x m).2.2.2.1,VB (QV J.sz i),q⟩
end
section
variable {M:Model}{A:Q6}{E:QJ->QL->Prop}{s:QL}
theorem Kd{base:QS}{env:Ri}{outer:⇑Ri}{L e T:QI}{cls:QJ}{Q:Unit->QL->Prop}(m:A.frames=ψ (env::outer))(D:s.heap.FunFrames base (env::outer))(y:env.frame=ψ L)(F:Mc base s.heap e T cls)(n:base.StaysIn s.heap)
  (h:∀h',(∀b o,b≠e->b≠T->b∉zN (env::outer)->s.heap.get? b=ψ o->h'.get? b=ψ o)->(∀b o,b≠e->b≠T->s.heap.get? b=ψ o->∃G,h'.get? b=ψ {o with slots:=G})->(∃l,s.heap.objs.size<=l/\Mc base h' e l cls)->Q () {s with heap:=h'}):
  QM M A (noteFrame (.ref e) env) (fun _ j=>QM M A (setFlight (.ref e) none) Q E j) E s:=by
 obtain⟨⟨O,z,P,ts,he,k,p,hd,B,r,d,C⟩,t,u⟩:=F
 subst k
 unfold noteFrame ;simp only[y] ;refine QN (RS he hd B ?_)
 rw[if_pos (show(Rf T != R0)=ω from by simp)] ;refine QN (RS r d C ?_)
 rw[if_neg (show ¬((R0==RF L)=ω)from by simp[RF])] ;refine QN (wpAny_setField r d (UB.mp C).1 ?_)
 have a:∀b,b≠T->(s.heap.update T (TY (·.setIfInBounds 3 R0))).get? b=s.heap.get? b:=fun b c=>Tv _ _ (Rb c)
 have f:∀b o,s.heap.get? b=ψ o->(∀z,o.data≠.fields z)->b≠T:=fun b o c g q=>by rw[q,r]at c;injection c with c;subst c;exact g ts d
 refine lS m (D.of_keeps fun b o c g=>⟨o,(a b (f b o c g)).trans c,rfl⟩) y ((a e (Rb u)).trans he) (fun b o i=>(a b fun q=>by rw[q,t]at i;cases i).trans (n b o i)) p hd (UB.mp B).1 fun h' x=>?_
 obtain⟨H,I,l,J,K⟩:=x
 exact h h' (fun b o v w N c=>H b o v N ((a b w).trans c)) (fun b o v w c=>I b o v ((a b w).trans c)) ⟨l,QV (Uo (Ze ..).symm) J,K⟩
theorem CL{base:QS}{e T:QI}{cls:QJ}{Q:Unit->QL->Prop}(d:Mc base s.heap e T cls)(h:∀h',(∀b o,b≠T->s.heap.get? b=ψ o->h'.get? b=ψ o)->Q () {s with heap:=h'}):QM M A (setFlight (.ref e) none) Q E s:=by
 obtain⟨⟨n,p,r,ts,he,c,f,hd,g,i,a,j⟩,k,l⟩:=d
 unfold setFlight ;refine QN (RS he hd g ?_) ;rw[if_pos (show(Rf T != R0)=ω from by simp)]
 refine wpAny_setField i a (UB.mp j).1 (h _ fun b o m q=>(Tv _ _ (Rb m)).trans q)
end
abbrev Cx.marked(X:Cx)(v:QJ):Cx:={X with A:=X.A.mark (ψ v),calm:=ξ,xe:=fun _ _=>False}
section
variable {X:Cx}{pins:⇑(QI×QP)}{σ:St}{H:Hp}{s:QL}
theorem Inv.marked(I:Inv X pins σ H s)(v:QJ):Inv (X.marked v) pins σ H s:=
 ⟨⟨I.ok.mod,I.ok.kind,I.ok.glob,I.ok.blt,I.ok.above,I.ok.inj,I.ok.has,I.ok.cab,(fun h=>by cases h),I.ok.frames,I.ok.stk,I.ok.exf,I.ok.bs,I.ok.bsz,I.ok.noex,I.ok.exfs,I.ok.funs,I.ok.frf⟩,I.os,I.bare,I.base,I.loc,I.cell,I.free,I.freeC,I.pin,I.hok,I.len⟩
theorem Inv.unmarked{v:QJ}(ok:X.Ok)(I:Inv (X.marked v) pins σ H s):Inv X pins σ H s:=⟨ok,I.os,I.bare,I.base,I.loc,I.cell,I.free,I.freeC,I.pin,I.hok,I.len⟩
theorem Inv.track0{a:QI}{o:HO}(I:Inv X pins σ H s)(f:qf X pins H a)(new:cg X.prog X.w (upd H a o) s.heap a o):Inv X pins σ (upd H a o) s:=by
 have ne:∀b u,H b=ψ u->b≠a:=fun b u e z=>by rw[z,f.1]at e;cases e
 refine I.step (h':=s.heap) (g':=s.gens) (d':=s.drawn) (t':=s.toks) (ch:=[a]) (fun b d=>?_) (fun b ob _ _ _ e _=>e) (fun b ob _ _ _ e _=>⟨ob.slots,e⟩) (fun b ob g e n=>?_) (fun b ob _ e=>⟨ob,e⟩) (fun b xs e=>?_) (fun b ob u e=>?_) (fun b ps e=>⟨#[],?_⟩) (fun m hm=>hm) (fun b u e=>?_) I.bare
 .rw[Rv.mp d]
  obtain⟨_,f1,_,h,i,j⟩:=f
  exact⟨h,f1,i,j⟩
 .rw[aj fun z=>g (by simp[z])];exact n
 .rw[aj (ne _ _ e)];exact e
 .rw[aj (ne _ _ e)];exact e
 .rw[aj (ne _ _ e),e];simp
 .by_cases d:b=a
  .subst d
   rw[ak]at e
   cases e
   exact new
  .rw[aj d]at e
   refine(I.hok b u e).stay (fun c v _ q=>q) (fun c q=>?_) fun c ys q=>?_
   .rw[aj (ne _ _ q)];exact q
   .rw[aj (ne _ _ q)];exact q
theorem Inv.track{a:QI}{o:HO}(I:Inv X pins σ H s)(c:G1 X pins H a)(new:cg X.prog X.w (upd H a o) s.heap a o):Inv X pins σ (upd H a o) s:=
 Inv.shut (ch:=[a]) I.ok (fun b d=>by rw[Rv.mp d];exact c.2.2.2.1) (Inv.track0 (X:=X.wide [a]) (I.wide (fun b d=>by rw[Rv.mp d];exact c)) (c.ok ⋯) new)
theorem Inv.forget{i:Nat}{n:QH}{m:QH->Option QJ}{v:Option QJ}{h':QS}{t':Nat}(I:Inv X pins σ H s)(E:X.N.Nodup)(hi:X.N[i]?=ψ n)(hm:s.heap.Ns X.env.locals m)(F:∀(j:Nat)(x:QH)(w:V),X.N[j]?=ψ x->σ[j]?=ψ (ψ w)->NH X.env.scope x->∃u,RelV w u/\Look X.env s.heap m x u)
  (hn:h'.Ns X.env.locals (fun x=>if x=n then v else m x)) (G:SG X.env.locals s.heap h'):Inv X pins (σ.set i none) H {s with heap:=h',toks:=t'}:=by
 have f:∀b o,X.s₀.heap.get? b=ψ o->b≠X.env.locals:=fun b o e=>Rn (Rq (Rc e) I.ok.above)
 have get:∀b,b≠X.env.locals->h'.get? b=s.heap.get? b:=fun b g=>G.2 b g
 have a:∀x c,X.env.cells.lookup x=ψ c->∀w,s.heap.IsCell c w->h'.IsCell c w:=fun x c e w ⟨o,J,hd⟩=>⟨o,(get c (I.cne x c e)).trans J,hd⟩
 refine⟨I.ok,I.os,I.bare,⟨fun b o e n g h=>?_,fun b o e n g h=>?_,I.base.free,fun b o e h=>?_,I.base.tups,I.base.frzs,I.base.tbls⟩,⟨_,hn,fun j x w C y K=>?_⟩,fun x c e=>?_,I.free,I.freeC,fun p hp=>?_,fun b u e=>?_,by rw[List.length_set];exact I.len⟩
 .exact(get b (f b o e)).trans (I.base.keep b o e n g h)
 .obtain⟨sl,q⟩:=I.base.slot b o e n g h
  exact⟨sl,(get b (f b o e)).trans q⟩
 .obtain⟨o',q⟩:=I.base.there b o e h
  exact⟨o',(get b (f b o e)).trans q⟩
 .have t:j≠i:=fun z=>by
   subst z
   rw[Xc (by rw[I.len];exact(Rw.mp hi).1)]at y
   cases y
  rw[WS (Rb t)]at y
  have B:x≠n:=fun z=>t (vN E (z▸C) hi)
  obtain⟨u,r,l⟩:=F j x w C y K
  exists u,r
  rcases l with⟨L,M⟩|⟨k,c,e,z⟩
  .exact .inl ⟨L,by show(if x=n then v else m x)=ψ u;rw[if_neg B];exact M⟩
  .exact .inr ⟨k,c,e,a x c e _ z⟩
 .obtain⟨w,z⟩:=I.cell x c e
  exact⟨w,a x c e w z⟩
 .obtain⟨e,n,ne,O,d⟩:=I.pin p hp
  exact⟨(get p.1 ne).trans e,n,ne,O,d⟩
 .have D:∀c u,H c=ψ u->c≠X.env.locals:=fun c u A z=>by rw[z,I.free]at A;cases A
  refine(I.hok b u e).stay (fun c w A q=>?_) (fun _ q=>q) fun _ _ q=>q
  rcases A with z|z
  .subst z;exact(get c (D c u e)).trans q
  .exact(get c (D c _ z)).trans q
end
def XP(X:Cx)(b:⇑(QI×QP))(g:St)(E:XK)(e:QJ)(f:QL):Prop:=
 ∃a T c d,e=.ref a/\Inv X b g d f/\G1 X b d a/\G1 X b d T/\Mc X.base f.heap a T c/\E c none d
def PX(X:Cx)(e:QQ)(E:XK)(t:TE):Prop:=
 ∀(a:⇑(QI×QP))(s:QL)(b:St)(H:Hp)(Q:VK),Inv X a b H s->t b H Q->QM (model X.prog X.w) X.A (eval e X.env) (EP X a b Q) (XP X a b E) s
section
variable {X:Cx}{k:Nat}{f:QI}{fd:Su}{ps:⇑QH}{sp:Sp}{dvs:⇑V}{ds:⇑QJ}{E:XK}{x:QH}{p pos:Q9}{e:QQ}{es:⇑QQ}{t:TA}
theorem JS{c:⇑(QI×QP)}{i:St}{H:Hp}{s:QL}{Q:VK}{us:⇑QJ}{vs:⇑V}(F:lQ X.prog X.w X.K X.mg X.base (dk X.prog X.w X.base) k f fd ps sp)(n:cH k X.A)(o:Binds X.K fd ps ds)(hd:bA dvs ds)(hx:∀b,b∉X.ex)
  (I:Inv X c i H s) (r:bA vs us) (h:sp (vs++dvs) H Q E):QM (model X.prog X.w) X.A (call (.ref f) us) (EP X c i Q) (XP X c i E) s:=by
 have m:bA (vs++dvs) (us++ds):=r.append hd
 have p:(us++ds).length=ps.length:=by rw[<-m.length];exact F.len _ _ _ _ h
 refine wpAny_call (codeAny_mono (F.run X.A X.stack s H ⟨us,[]⟩ (us++ds) (vs++dvs) Q E n I.env0 (o s us I.kIn p) m h) fun r G d=>?_)
 cases r with
 |error e=>
  obtain⟨a,T,j,t,rfl,os,g,un,l,v,x,y,B,C,q⟩:=d
  exact⟨a,T,j,t,rfl,I.call' (ch:=[]) os un l g (fun b z=>absurd z ⋯),I.fpO B (hx a) v,I.fpO C (hx T) x,y,q⟩
 |ok D=>
  cases D with
  |ret u=>exact I.after d
  |next=>exact R9 d
  |brk=>exact R9 d
  |cont=>exact R9 d
end
noncomputable def GG(K:QK)(C:QJ)(i:Nat)(t:XK->TE)(h:TS):TS:=fun D g H=>
 t (fun d _ e=>SH K d C=ψ true/\∀a f,e a=χ->f.cls=d->Yd f=ω->f.dict=χ->
  h {nx:=fun b c=>D.nx (b.set i none) c,rt:=D.rt,bk:=fun b c=>D.bk (b.set i none) c,ct:=fun b c=>D.ct (b.set i none) c} (g.set i (ψ (.ref a))) (upd e a (.frz f (.own a)))) g H fun _ e=>D.nx g e
section
variable {X:Cx}{x n:QH}{C:QJ}{i:Nat}{t:XK->TE}{tb:TS}{e:QQ}{b₀:QU}{suite:⇑QU}{pos epos hpos np:Q9}
theorem Hh(hx:∀b,b∉X.ex)(j:X.stack=X.env::X.outer)(hN:X.N.Nodup)(hi:X.N[i]?=ψ n)(hn:X.env.scope.names.lookup n=ψ .local)(hl:X.env.kindOf n=ψ .local)(hg:Gl X x)(hm:X.mg x=ψ C)
  (he:∀E,PX X e E (t E)) (d:∀v,vt (X.marked v) (b₀::suite) tb) (P:(x==("__debug__":QH))=ξ:=by decide) (Q:swapsWith e none epos.line X.env=pure false:=by rfl):
  PS X (.Try [.Expr e epos] [.ExceptHandler (ψ (.Name x np)) (ψ n) (b₀::suite) hpos] [] [] pos) (GG X.K C i t tb):=by
 intro c s S H D I h
 refine wpAny_Try_except (wpAny_execs_cons ?_)
 refine wpAny_Expr_any (RX (he _ c s S H _ I h) (fun v U ⟨y,M,I1,r1,q1⟩=>?_) ?_) I.quiet Q
 .exact Uz (Uz ⟨S,M,I1,q1⟩)
 .intro ev U V
  obtain⟨a,T,η,M,rfl,J,W,fT,tr,q⟩:=V
  obtain⟨qc,qb⟩:=q
  have hf:X.env.frame=ψ X.env.locals:=zE J.ok j
  refine Kd (base:=X.base) (outer:=X.outer) (j▸J.ok.frames) (j▸J.stack) hf tr J.bk fun Y k1 k2 ⟨Z,B,F⟩=>?_
  have J2:Inv X c S M {U with heap:=Y}:=J.left (ch:=[a,T]) (fun b d=>by
   have α:b=a\/b=T:=by simpa using d
   rcases α with z|z
   .rw[z];exact W
   .rw[z];exact fT) (fun b o d Q g=>k1 b o (fun z=>d (by simp[z])) (fun z=>d (by simp[z])) (j▸Q) g) (fun b o d g=>k2 b o (fun z=>d (by simp[z])) (fun z=>d (by simp[z])) g)
  have β:G1 X c M Z:=J.fpO (VB B) (hx Z) (J.hok.fresh B)
  have γ:=F
  obtain⟨⟨r,vs,oT,ts,t1,t2,tn,t3,t4,t5,t6,t7⟩,t8,t9⟩:=γ
  subst t2
  have LT:abp (model X.prog X.w) Y (typeOf (.ref a)) r.cls:=(ack t1).andThen .now
  refine wpAny_handleBy_cons (codeAny_handlers_test ?_) (by intro z;cases z)
  refine pT (X:=X.marked (.ref a)) (J2.marked (.ref a)) hg hm ?_ P
  refine(aao J2.kIn LT qc).here ?_
  refine codeAny_handlers_suite_as ?_
  refine CL F fun h3 k3=>?_
  have J3:=Inv.left (s:={U with heap:=Y}) (h':=h3) (ch:=[Z]) J2 (fun b d=>by rw[Rv.mp d];exact β) (fun b o d _ g=>k3 b o (fun z=>d (by simp[z])) g) (fun b o d g=>⟨o.slots,k3 b o (fun z=>d (by simp[z])) g⟩)
  have G:h3.get? a=ψ r:=k3 a r (Rb t9) t1
  have J4:=J3.track (a:=a) (o:=.frz r (.own a)) W ⟨G,r,G⟩
  refine oS (X:=X.marked (.ref a)) (v:=.ref a) (J4.marked (.ref a)) hN hi (.inl hn) rfl (fun s5 I5=>?_) (.inr hn)
  refine RX (d (.ref a) c s5 _ _ _ I5 (qb a r W.1 rfl (by unfold Yd;rw[t3]) tn)) (fun fl s6 g=>?_) fun _ _ z=>z.elim
  have hp:(X.env.scope.kind==.class || (X.env.scope.kind==.module&&X.env.locals != X.env.globals))=ξ:=by rw[J.ok.kind];rfl
  have O:∀{f l R},Inv (X.marked (.ref a)) c f l s6->(∀k,Inv X c (f.set i none) l k->SP X c D fl k)->(R=fun (_:Unit) k=>SP X c D fl k)->QM (model X.prog X.w) X.A (do bindName X.env n .none;unbindBehindTheSuite X.env n hpos) R X.xe s6:=fun {f l R} I6 w e=>by
   subst e
   have I7:=Inv.unmarked J.ok I6
   obtain⟨m,L,δ⟩:=id I7.loc
   exact wpAny_nameGoes_keeps hl L hp fun h7 v7 ε ζ=>w _ (I7.forget hN hi L δ ε ζ)
  cases fl with
  |next=>
   obtain⟨f,l,I6,p⟩:=g
   exact O I6 (fun k I7=>⟨_,_,I7,p⟩) rfl
  |brk=>
   obtain⟨f,l,I6,p⟩:=g
   exact O I6 (fun k I7=>⟨_,_,I7,p⟩) rfl
  |cont=>
   obtain⟨f,l,I6,p⟩:=g
   exact O I6 (fun k I7=>⟨_,_,I7,p⟩) rfl
  |ret u=>
   obtain⟨v6,f,l,I6,r6,p⟩:=g
   exact O I6 (fun k I7=>⟨v6,_,_,I7,r6,p⟩) rfl
end
section
open PySem.W
structure Cw(K:Frag)(C:QI):Prop where
 ga:findIn K (.ref C) "__getattribute__"=ψ (ψ (.builtin "BaseException.__getattribute__"))
 gc:findIn K (.ref C) "__class__"=ψ (ψ (.builtin "object.__class__"))
 gn:findIn K (.ref C) "__getattr__"=ψ none
 ob:mroIn K C (.type "object")=ψ true
 be:mroIn K C (.type "BaseException")=ψ true
section
variable {prog:Q0}{w:QX}{A:Q6}{E:QJ->QL->Prop}{h:QS}{g:Array GenState}{d:Drawn}{t:Nat}{os:OsState}{a C:QI}{o:QP}{K:Frag}
end
section
variable {X:Cx}{pins:⇑(QI×QP)}{σ:St}{H:Hp}{s:QL}{A:Q6}{E:QJ->QL->Prop}{Q:QJ->QL->Prop}{c:QJ}{b:Bool}
end
end
def dM(C:QI)(E:XK)(t:TA):TS:=fun _ a H=>t a H fun b c=>b.length<=QT/\E (.ref C) none c
section
variable {P:Q0}{w:QX}{K:QK}{mg:QH->Option QJ}{base:QS}{N:⇑QH}{qual:QH}{scope:RG}{f C:QI}{cd:QJ}{A:Q6}{outer:⇑Ri}{s0:QL}{H0:Hp}{E:XK}{x:QH}{np cpos pos:Q9}{e:QQ}{es:⇑QQ}{t:TA}{B Bn newId nid initId inN:String}{bm bmN:⇑QJ}
theorem mE.lost{w:QX}{P:Q0}{H:Hp}{h:QS}(x:mE P w H h){b:QI}(e:h.get? b=χ):H b=none:=by
 cases q:H b with
 |none=>rfl
 |some o=>
  have ok:=x b o q
  have go:∀o,cg P w H h b o->∃u,h.get? b=ψ u:=fun o=>by
   induction o with
   |lst xs=>rintro⟨_,_,_,_,e⟩;exact⟨_,e⟩
   |tup xs=>rintro⟨_,_,_,o,e,_⟩;exact⟨_,e⟩
   |dK kvs=>rintro⟨_,_,_,_,o,_,_,e,_⟩;exact⟨_,e⟩
   |dT kvs=>rintro⟨_,_,_,_,o,_,_,e,_⟩;exact⟨_,e⟩
   |set S n=>rintro⟨o,_,_,_,e,_⟩;exact⟨_,e⟩
   |ins C dx fs=>rintro⟨_,_,_,e,_⟩;exact⟨_,e⟩
   |own x=>exact id
   |xd fs=>rintro⟨_,⟨o,_,_,a,_⟩,_⟩;exact⟨_,a⟩
   |met f x=>intro e;exact⟨_,e⟩
   |rng lo hi=>rintro⟨_,_,_,e⟩;exact⟨_,e⟩
   |frz o u c=>rintro⟨e,_⟩;exact⟨_,e⟩
   |tbl ps=>intro e;exact⟨_,e⟩
   |ext φ=>rintro⟨_,e,_⟩;exact e
  obtain⟨u,q⟩:=go o ok
  rw[e]at q;cases q
theorem Hr(O:OwnCls x C bm newId mg base)(n:ExcBaseFacts Bn newId inN bmN)(c:bm.contains (.type Bn)=ω)(FB:ExcBaseFacts B nid initId bm)
  (o:Gl (bS (dk P w base) P w K mg base N qual scope f cd A outer s0 H0 E) x) (p:(bS (dk P w base) P w K mg base N qual scope f cd A outer s0 H0 E).calm=ω)
  (ha:PA (bS (dk P w base) P w K mg base N qual scope f cd A outer s0 H0 E) (e::es) t) (d:(x==("__debug__":QH))=ξ:=by decide)
  (he:Q5 (e::es) (bS (dk P w base) P w K mg base N qual scope f cd A outer s0 H0 E).env=(false,eval e (bS (dk P w base) P w K mg base N qual scope f cd A outer s0 H0 E).env)::Q5 es (bS (dk P w base) P w K mg base N qual scope f cd A outer s0 H0 E).env:=by rfl)
  (g:(Rx cpos (Q5 es (bS (dk P w base) P w K mg base N qual scope f cd A outer s0 H0 E).env)).any (·.1)=ξ:=by rfl):
  PS (bS (dk P w base) P w K mg base N qual scope f cd A outer s0 H0 E) (.Raise (ψ (.Call (.Name x np) (e::es) [] cpos)) none pos) (dM C E t):=by
 intro a s k H D I h
 obtain⟨u,v,nm,q,bs,hdct,sn,sub,ab,col,dd,k0,k1,k2,k3,k5,mN,z,F,i,T⟩:=O.obj
 refine wpAny_Raise_call_subU (C:=C) (nm:=nm) (q:=q) (N:=v) (bs:=bs) (bm:=u) (hdct:=hdct) (sn:=sn) (sub:=sub) (ab:=ab) (col:=col) (dd:=dd) (k0:=k0) (k1:=k1) (k2:=k2) (k3:=k3) (k5:=k5)
  n c FB (mN:=mN) (T.hasType FB.hasBase) (I.ok.hd p) (by rw[he];show(false || (Rx cpos (Q5 es _)).any (·.1))=false;rw[g];rfl) i (pT I o O.bound ⟨rfl,?_⟩ d)
 have b:=ha cpos a s k H _ I h
 rw[he]at b ⊢
 refine Xg (RX b (fun S l ⟨U,j,I1,r,G,q⟩=>⟨rfl,by rw[<-r.length];exact G,I1.bk _ _ z,F.keeps I1.bk,T.keeps I1.bk,fun L Q M=>?_⟩) fun _ _ y=>y)
 have J:Inv (bS (dk P w base) P w K mg base N qual scope f cd A outer s0 H0 E) a k j {l with heap:=L}:=I1.kept (t':=l.toks) M.keeps
 obtain⟨V,R,W,X⟩:=M.there
 have hn:j Q=none:=I1.hok.lost M.new
 have m:=I1.fpO (H':=j) M.new (by simp[bS]) hn
 exact leave_new J R hn m.2.2.2.1 m rfl rfl rfl q
end
section
variable {X:Cx}
def x5(t:TE):TE:=fun a H Q=>t a H fun x b=>∃i:Int,x=.int i/\i.natAbs.log2<1920/\Q (.str (toString i:String)) b
theorem Ny{e:QQ}{c:TE}{b:Q9}(he:PE X e c):PE X (.FormattedValue e (-1) none b) (x5 c):=by
 intro a s d H Q I h
 refine wpAny_FormattedValue_plain (cf (he a s d H _ I h) fun v l ⟨x,f,I1,g,i,j,k,q⟩=>?_)
 subst j
 obtain⟨m,rfl⟩:=(show ∃t,v=SK i t from g)
 exact wpAny_formatField_int k ⟨.str (toString i:String),f,I1.tok _,⟨_,rfl⟩,q⟩
def yW:⇑TE->QH->TE
 |[],a=>fun _ H Q=>a.length<=QT/\Q (.str a) H
 |t::ts,a=>fun b H Q=>t b H fun x c=>∃y,x=.str y/\(a++y).length<=QT/\yW ts (a++y) b c Q
inductive PJ(X:Cx):⇑QQ->⇑TE->Prop where
 |nil:PJ X [] []
 |cons {e:QQ}{es:⇑QQ}{t:TE}{ts:⇑TE}:PE X e t->PJ X es ts->PJ X (e::es) (t::ts)
theorem PJ.joins:∀{es:⇑QQ}{ts:⇑TE},PJ X es ts->∀{pins:⇑(QI×QP)}{s:QL}{σ:St}{H:Hp}{Q:VK}{a:QH},Inv X pins σ H s->yW ts a σ H Q->
  Joins (model X.prog X.w) X.A X.xe (evalEach es X.env) a (fun b s1=>b.length<=QT/\EP X pins σ Q (.str b s1.toks) {s1 with toks:=s1.toks+1}) s
 |_,_,.nil,pins,s,σ,H,Q,a,I,h=>⟨h.1,.str a,H,I.tok _,⟨_,rfl⟩,h.2⟩
 |_,_,.cons he hr,pins,s,σ,H,Q,a,I,h=>by
  show QM _ _ _ _ _ _
  refine cf (he pins s σ H _ I h) fun v s1 ⟨x,g,I1,c,y,d,e,q⟩=>?_
  subst d
  obtain⟨f,rfl⟩:=(show ∃t,v=Tt y t from c)
  exact⟨y,f,rfl,e,hr.joins I1 q⟩
theorem K4{b c:QQ}{es:⇑QQ}{ts:⇑TE}{a:Q9}(h:PJ X (b::c::es) ts):PE X (.JoinedStr (b::c::es) a) (yW ts Rh):=by
 intro d s e H Q I q
 exact wpAny_JoinedStr (h.joins I q)
end
structure vz(P:Q0)(w:QX)(K:QK)(mg:QH->Option QJ)(base:QS)(k:Nat)(x:QH)(ps:⇑QH)(sp:Sp):Prop where
 ex:∃a fd,mg x=ψ (.ref a)/\SO K (.ref a)=ω/\Binds K fd ps []/\lQ P w K mg base (dk P w base) k a fd ps sp
section
variable {P:Q0}{w:QX}{K:QK}{mg:QH->Option QJ}{base:QS}
theorem LC.okX{x qual:QH}{st:QU}{f:QI}{fd:Su}{N ps:⇑QH}{k:Nat}{sp:Sp}(F:LC K x qual st f fd)(S:au N ps (ag st))(len:∀vs H Q E,sp vs H Q E->vs.length=ps.length)
  (a:∀(cdv:QJ)(A:Q6)(outer:⇑Ri)(s:QL)(H:Hp)(vs:⇑V)(Q:VK)(E:XK),cH k (A.deeper (RY qual (ag st) s.heap.objs.size f cdv))->sp vs H Q E->
   ∃t,vt (bS (dk P w base) P w K mg base N qual (ag st) f cdv A outer s H E) (cT st) t/\t {nx:=fun _ H'=>Q .non H',rt:=Q} (start N vs) H):lQ P w K mg base (dk P w base) (k+1) f fd ps sp:=by
 obtain⟨oc,od,kV,doc,pm,an,cdv,ct,osl,rfl,d,b⟩:=F.ex
 exact Lj d b S len fun A outer s H vs Q E hr c=>a cdv A outer s H vs Q E hr c
theorem bf.calX{x:QH}{st:QU}{ps N:⇑QH}{c:XK->TS}{k:Nat}{sp:Sp}(F:bf K mg x st ps)(S:au N ps (ag st))(len:∀vs H Q E,sp vs H Q E->vs.length=ps.length)
  (g:∀(f:QI)(cdv:QJ)(A:Q6)(outer:⇑Ri)(s:QL)(H:Hp)(E:XK),cH k (A.deeper (RY x (ag st) s.heap.objs.size f cdv))->vt (bS (dk P w base) P w K mg base N x (ag st) f cdv A outer s H E) (cT st) (c E))
  (hr:∀vs H Q E,sp vs H Q E->c E {nx:=fun _ H'=>Q .non H',rt:=Q} (start N vs) H):vz P w K mg base (k+1) x ps sp:=by
 obtain⟨a,fd,hm,e,d⟩:=F.ex
 exact⟨a,fd,hm,e.kp,.all d,e.okX S len fun cdv A outer s H vs Q E b h=>⟨c E,g a cdv A outer s H E b,hr vs H Q E h⟩⟩
end
section
variable {X:Cx}{k:Nat}{ps:⇑QH}{sp:Sp}{x:QH}{p pos:Q9}{e:QQ}{es:⇑QQ}{t:TA}
end
section
variable {P:Q0}{w:QX}{K:QK}{mg:QH->Option QJ}{base:QS}{N:⇑QH}{qual:QH}{scope:RG}{f:QI}{cd:QJ}{A:Q6}{outer:⇑Ri}{s0:QL}{H0:Hp}{E:XK}{k:Nat}{ps:⇑QH}{sp:Sp}{x:QH}{p pos:Q9}{e:QQ}{es:⇑QQ}{t:TA}
theorem Kc(C:vz P w K mg base k x ps sp)(d:cH k (bS (dk P w base) P w K mg base N qual scope f cd A outer s0 H0 E).A)(ha:PA (bS (dk P w base) P w K mg base N qual scope f cd A outer s0 H0 E) (e::es) t)(g:Gl (bS (dk P w base) P w K mg base N qual scope f cd A outer s0 H0 E) x:=by rfl)(b:(x==("__debug__":QH))=ξ:=by decide)
  (he:Q5 (e::es) (bS (dk P w base) P w K mg base N qual scope f cd A outer s0 H0 E).env=(false,eval e (bS (dk P w base) P w K mg base N qual scope f cd A outer s0 H0 E).env)::Q5 es (bS (dk P w base) P w K mg base N qual scope f cd A outer s0 H0 E).env:=by rfl)
  (c:(Rx pos (Q5 es (bS (dk P w base) P w K mg base N qual scope f cd A outer s0 H0 E).env)).any (·.1)=ξ:=by rfl):PE (bS (dk P w base) P w K mg base N qual scope f cd A outer s0 H0 E) (.Call (.Name x p) (e::es) [] pos) (aJ sp [] E t):=by
 obtain⟨a,j,hm,h,i,F⟩:=C.ex
 exact Et F d g hm h i .nil BV ha b he c
end
section
variable {X:Cx}{k:Nat}{x:QH}{ps:⇑QH}{sp:Sp}{e:QQ}{es:⇑QQ}{t:TA}{p pos:Q9}
theorem Nf{P:Q0}{w:QX}{base:QS}:jx (dk P w base) X E0:=by
 intro a c H s v d I b
 obtain⟨_,_,_,_,_,_,_,_,_,_,_,_,_,_,q⟩:=b
 exact q.elim
end
def aF(K:QK)(x:QH):QI:=match Sw K RD x with
 |some (ψ (.ref C))=>C
 |_=>0
theorem jR{K:QK}{x:QH}{C:QI}(e:Sw K RD x=ψ (ψ (.ref C))):aF K x=C:=by
 unfold aF;rw[e]
def keysOk(es:Array SN):Bool:=es.toList.all fun e=>match e.key with| .str _ _=>true|_=>false
theorem FH{es:Array SN}(h:keysOk es=ω):StrKeys es:=by
 intro e he
 have:=(R7.mp h) e (Zq.mpr he)
 revert this
 cases a:e.key<;>intro q<;>first|exact⟨_,_,rfl⟩|cases q
structure dR(K:QK)(mg:QH->Option QJ)(x:QH):Prop where
 bound:mg x=ψ (.ref (aF K x))
 some:(SQ K (aF K x)).isSome=ω
 ek:Cw K (aF K x)
 own:∀h:QS,K.In h->OwnCls x (aF K x) [.type "ValueError",.type "Exception",.type "BaseException",.type "object"] "ValueError.__new__" mg h
section
variable {K:QK}{mg:QH->Option QJ}{h:QS}{x:QH}{C N:QI}{nm q:QH}{bs bm:⇑QJ}{hdct:Bool}{sn:⇑QH}{sub:⇑QJ}{ab:Bool}{col:Option Bool}{dd:Option QI}{k0 k1 k2 k3 k5:Option QJ}
 {c:QJ}{d:Option QI}{es:Array SN}{ep:Nat}{sl:Array (Option QJ)}{cdat:ClassData}
theorem Nt{h:QS}(X:K.In h)(n:K.lookup N=ψ ⟨c,d,.dict es ep,sl⟩)(a:keysOk es=ω):h.Ns N (fun y=>nsFind es y):=⟨_,es,ep,X _ _ n,rfl,FH a,fun _=>rfl⟩
theorem KA(X:K.In h)(G:h.Ns RD mg)(a:Sw K RD x=ψ (ψ (.ref C)))(l:K.lookup C=ψ (excClassObj nm q C N bs [.type "ValueError",.type "Exception",.type "BaseException",.type "object"] hdct sn sub ab col dd k0 k1 k2 k3 k5 "ValueError.__new__"))
  (n:K.lookup N=ψ ⟨c,d,.dict es ep,sl⟩) (g1:RV K (.ref C) "__getattribute__"=ψ (ψ (.builtin "BaseException.__getattribute__"))) (g2:RV K (.ref C) "__class__"=ψ (ψ (.builtin "object.__class__"))) (g3:RV K (.ref C) "__getattr__"=ψ none)
  (b:Ve K C (.type "object")=ψ true) (f:Ve K C (.type "BaseException")=ψ true) (g:SQ K C=ψ cdat) (i:keysOk es=ω) (hi:nsFind es "__init__"=χ):dR K mg x:=by
 have e:=jR a
 refine⟨?_,?_,?_,fun j X'=>?_⟩
 .rw[e];exact Th X G a
 .rw[e,g];rfl
 .rw[e];exact⟨g1,g2,g3,b,f⟩
 .rw[e];exact⟨Th X G a,_,N,nm,q,bs,hdct,sn,sub,ab,col,dd,k0,k1,k2,k3,k5,_,X' _ _ l,Nt X' n i,hi,.base⟩
theorem JV{o:QI}{p r:QJ}{s t:Option QI}{b:Array SN}{g:Nat}{i j:Array (Option QJ)}{f:ClassData}(X:K.In h)(G:h.Ns RD mg)(a:Sw K RD x=ψ (ψ (.ref C)))(l:K.lookup C=ψ (excClassObj nm q C N bs (.ref o::[.type "ValueError",.type "Exception",.type "BaseException",.type "object"]) hdct sn sub ab col dd k0 k1 k2 k3 k5 "ValueError.__new__"))
  (n:K.lookup N=ψ ⟨c,d,.dict es ep,sl⟩) (u:K.lookup o=ψ {cls:=p,dict:=s,data:=.cls f,slots:=i}) (v:K.lookup f.ns=ψ ⟨r,t,.dict b g,j⟩)
  (g1:RV K (.ref C) "__getattribute__"=ψ (ψ (.builtin "BaseException.__getattribute__"))) (g2:RV K (.ref C) "__class__"=ψ (ψ (.builtin "object.__class__"))) (g3:RV K (.ref C) "__getattr__"=ψ none)
  (w:Ve K C (.type "object")=ψ true) (y:Ve K C (.type "BaseException")=ψ true) (z:SQ K C=ψ cdat) (A:keysOk es=ω) (hi:nsFind es "__init__"=χ) (k:keysOk b=ω) (m:nsFind b "__init__"=χ):dR K mg x:=by
 have e:=jR a
 refine⟨?_,?_,?_,fun B X'=>?_⟩
 .rw[e];exact Th X G a
 .rw[e,z];rfl
 .rw[e];exact⟨g1,g2,g3,w,y⟩
 .rw[e];exact⟨Th X G a,_,N,nm,q,bs,hdct,sn,sub,ab,col,dd,k0,k1,k2,k3,k5,_,X' _ _ l,Nt X' n A,hi,.own (X' _ _ u) (Nt X' v k) m .base⟩
end
section
variable {K:QK}{x y:QH}{C D:QI}{cd:ClassData}{r:Bool}{T:String}
theorem Kx(a:Sw K RD x=ψ (ψ (.ref C)))(b:Sw K RD y=ψ (ψ (.ref D)))(e:Xt K (.ref D) (.type "BaseException")=ψ true)(c:SQ K D=ψ cd)(t:YU K (.ref D)=ψ (.type "type"))(s:Xt K (.ref C) (.ref D)=ψ r):
  SH K (.ref (aF K x)) (.ref (aF K y))=ψ r:=by
 rw[jR a,jR b]
 unfold SH
 rw[if_pos (by rw[e];rfl)]
 unfold Z1
 simp only
 rw[if_pos (by rw[c,t];rfl)]
 exact s
end
section
variable {P:Q0}{w:QX}{K:QK}{mg:QH->Option QJ}{base:QS}{N:⇑QH}{qual:QH}{scope:RG}{f:QI}{cd:QJ}{A:Q6}{outer:⇑Ri}{s0:QL}{H0:Hp}{E:XK}{x:QH}{np cpos pos:Q9}{e:QQ}{es:⇑QQ}{t:TA}
theorem Gj(O:dR K mg x)(ha:PA (bS (dk P w base) P w K mg base N qual scope f cd A outer s0 H0 E) (e::es) t)(d:Gl (bS (dk P w base) P w K mg base N qual scope f cd A outer s0 H0 E) x:=by rfl)(g:(bS (dk P w base) P w K mg base N qual scope f cd A outer s0 H0 E).calm=ω:=by rfl)(b:(x==("__debug__":QH))=ξ:=by decide)
  (he:Q5 (e::es) (bS (dk P w base) P w K mg base N qual scope f cd A outer s0 H0 E).env=(false,eval e (bS (dk P w base) P w K mg base N qual scope f cd A outer s0 H0 E).env)::Q5 es (bS (dk P w base) P w K mg base N qual scope f cd A outer s0 H0 E).env:=by rfl)
  (c:(Rx cpos (Q5 es (bS (dk P w base) P w K mg base N qual scope f cd A outer s0 H0 E).env)).any (·.1)=ξ:=by rfl):
  PS (bS (dk P w base) P w K mg base N qual scope f cd A outer s0 H0 E) (.Raise (ψ (.Call (.Name x np) (e::es) [] cpos)) none pos) (dM (aF K x) E t):=fun a s i H D I h=>
 Hr (O.own base I.ok.mod.kin) YA "^" YA d g ha b he c a s i H D I h
end
theorem PS.nox{X:Cx}{st:QU}{t:TS}(h:PS X.nox st t):PS X st t:=fun pins s σ H D I hw=>
 RX (h pins s σ H D (I.wish _) hw) (fun f e q=>by
  cases f with
  |next=>obtain⟨a,b,c,d⟩:=q;exact⟨a,b,c.unwish,d⟩
  |brk=>obtain⟨a,b,c,d⟩:=q;exact⟨a,b,c.unwish,d⟩
  |cont=>obtain⟨a,b,c,d⟩:=q;exact⟨a,b,c.unwish,d⟩
  |ret u=>obtain⟨v,a,b,c,d⟩:=q;exact⟨v,a,b,c.unwish,d⟩) fun _ _ z=>z.elim
end L2
namespace L2
open PySem PySem.Spec PyProof.Rows PySem.Builtin PySem.Builtin.Str
section
variable {X:Cx}
theorem yk:∀(l:⇑(QH×Tok)),bA ((l.map (·.1)).map V.str) (strValues l)
 |[]=>.nil
 |p::l=>.cons ⟨p.2,rfl⟩ (yk l)
theorem Ea:∀{xs:⇑QH}{us:⇑QJ},bA (xs.map V.str) us->∃l:⇑(QH×Tok),us=strValues l/\l.map (·.1)=xs
 |[],_,.nil=>⟨[],rfl,rfl⟩
 |x::xs,_,.cons ⟨t,e⟩ r=>by
  obtain⟨l,a,b⟩:=Ea r
  exact⟨(x,t)::l,by rw[e,a];rfl,by rw[Rk,b]⟩
noncomputable def iF:V->⇑V->Hp->VK->Prop:=fun x c H Q=>∃(a b:QH),x=.str a/\c=[.str b]/\(b.length==0)=ξ/\a.length<=QT/\(Rg a b).length<=QT/\∀l,H l=χ->Q (.ref l) (upd H l (.lst ((Rg a b).map V.str)))
theorem IQ:Ly X "str.split" iF:=by
 intro d s l H x w v y Q I n p h
 obtain⟨a,b,rfl,rfl,m,ha,hn,q⟩:=h
 obtain⟨t,rfl⟩:=n
 obtain⟨u,rfl,j,rfl⟩:=p.one
 have f:∀(ps:⇑(QH×Tok))(k:Nat),ps.map (·.1)=Rg a b->EP X d l Q (.ref s.heap.objs.size) {s with toks:=k,heap:=s.heap.push {cls:=.type "list",data:=.seq (strValues ps).toArray}}:=fun ps k r=>by
  refine⟨.ref s.heap.objs.size,_,I.laid (t':=k) (a:=s.heap.objs.size) (o:=.lst ((Rg a b).map V.str)) (fun b o e=>Rj _ e) (Q2 _) ⟨by rw[QR];exact hn,strValues ps,0,?_,Rt _ rfl⟩,rfl,q _ (I.hok.fresh (Q2 _))⟩
  rw[<-r]
  exact yk ps
 have z:∀c∈([]:⇑Nat),True:=fun _ _=>trivial
 cases g:(decide (a.length<b.length) || decide (strKind a<strKind b))
 .cases i:(occurrences a b 0 a.length (a.length+1)).isEmpty
  .have es:Rg a b=partsBetween a (occurrences a b 0 a.length (a.length+1)) b.length:=(if_neg (ne_true_of_eq_false g)).trans (if_neg (ne_true_of_eq_false i))
   refine Sy Vs (typeIs_str _ _ _) Ww (WK _ _) (meets_str_split_sep a b t j g m i ha (by rw[<-es];exact hn)) ?_
   show EP X d l Q (.ref s.heap.objs.size) {s with toks:=_,heap:=s.heap.push {cls:=.type "list",data:=.seq (strsFrom s.toks (partsBetween a (occurrences a b 0 a.length (a.length+1)) b.length)).toArray}}
   rw[strsFrom_eq]
   exact f _ _ ((numbered_texts _ _).trans es.symm)
  .exact Sy Vs (typeIs_str _ _ _) Ww (WK _ _) (meets_str_split_not_found a b t j g m i) (f [(a,t)] s.toks ((if_neg (ne_true_of_eq_false g)).trans (if_pos i)).symm)
 .exact Sy Vs (typeIs_str _ _ _) Ww (WK _ _) (meets_str_split_cannot_occur a b t j g) (f [(a,t)] s.toks (if_pos g).symm)
noncomputable def rJoin(K:QK):V->⇑V->Hp->VK->Prop:=fun x b H Q=>∃(a:QH)(p:QI)(xs:⇑QH),x=.str a/\b=[.ref p]/\aD K H p (xs.map V.str)/\tooLong (xs.toArray.foldl (· + ·.length+a.length) 0)=ξ/\(glued a xs).length<=QT/\Q (.str (glued a xs)) H
theorem JM:Ly X "str.join" (rJoin X.K):=by
 intro c s m H x B v C Q I n o h
 obtain⟨a,p,xs,rfl,rfl,r,w,d,q⟩:=h
 obtain⟨t,rfl⟩:=n
 obtain⟨u,rfl,y⟩:=o.one
 cases y
 obtain⟨z,i,A,D⟩:=I.list r
 obtain⟨l,rfl,g⟩:=Ea i
 refine Sy XI (typeIs_str _ _ _) F.entry_str_join (F.args_str_join_2 _ _) (meets_str_join_list a t p l (by rw[g];exact w)) ⟨A.isList,?_⟩
 have b:∀(j:Tok)(k:Nat),EP X c m Q (.str (glued a xs) j) {s with toks:=k}:=fun j k=>⟨.str (glued a xs),H,I.tok k,⟨j,rfl⟩,q⟩
 rcases l with _|⟨f,_|⟨E,l⟩⟩
 .subst g
  exact⟨d,b _ _⟩
 .subst g
  have e:glued a [f.1]=f.1:=by first|rfl|simp[glued]
  have:=b f.2 s.toks
  rw[show(Sr (·.1) [f])=[f.1]from rfl,e]at this
  exact this
 .subst g
  exact⟨d,b _ _⟩
def iI:⇑V->Hp->VK->Prop:=fun xs H Q=>∃(x:QH)(n:Int),xs=[.str x]/\Vo x=ψ n/\x.length<=640/\Q (.int n) H
theorem EM:eB X (.type "int") iI:=by
 intro a s c H xs d Q I r h
 obtain⟨x,n,rfl,hn,b,q⟩:=h
 obtain⟨u,rfl,t,rfl⟩:=vals1 r
 exact abq hn b ⟨.int n,H,I.tok _,⟨_,rfl⟩,q⟩
def ud:V->⇑V->Hp->VK->Prop:=fun x c H Q=>∃(a b:QH),x=.str a/\c=[.str b]/\Q (.bl (decide (0+b.length<=a.length)&&subAt a b 0)) H
theorem xE:Ly X "str.startswith" ud:=by
 intro c s d H x i v j Q I e f h
 obtain⟨a,b,rfl,rfl,q⟩:=h
 obtain⟨t,rfl⟩:=e
 obtain⟨u,rfl,g,rfl⟩:=f.one
 exact Sy Zi (typeIs_str _ _ _) F.entry_str_startswith (F.args_str_startswith_2 _ _) (gives_str_startswith a b t g).meets (show EP X c d Q (.bool (decide (0+b.length<=a.length)&&subAt a b 0)) s from⟨.bl _,H,I,rfl,q⟩)
def Bs:V->Option Int->Option Int->Hp->VK->Prop:=fun x lo hi H Q=>∃z:QH,x=.str z/\z.length<=QT/\Q (.str (RP z lo hi)) H
theorem L0:Qf X Bs:=by
 intro c s n H x v w y lo hi A Q I o d p g h
 obtain⟨z,rfl,r,q⟩:=h
 obtain⟨t,rfl⟩:=o
 refine⟨"str",_,F.slot_str_getitem.lookup,typeIs_str _ _ _,?_⟩
 have a:∀(e:Tok)(k:Nat),EP X c n Q (.str (RP z lo hi) e) {s with toks:=k}:=fun e k=>⟨.str (RP z lo hi),H,I.tok k,⟨e,rfl⟩,q⟩
 have b:=QV (ab4 z lo hi) r
 cases p with
 |none=>
  cases g with
  |none=>exact VA (l:=χ) (u:=χ) (st:=χ) d rfl (post_val_or_str ⟨b,a⟩)
  |int j f=>exact VA (l:=χ) (u:=ψ (j,f)) (st:=χ) d rfl (post_val_or_str ⟨b,a⟩)
 |int i m=>
  cases g with
  |none=>exact VA (l:=ψ (i,m)) (u:=χ) (st:=χ) d rfl (post_val_or_str ⟨b,a⟩)
  |int j f=>exact VA (l:=ψ (i,m)) (u:=ψ (j,f)) (st:=χ) d rfl (post_val_or_str ⟨b,a⟩)
end
end L2
namespace L2
open PySem PySem.Spec PyProof.Rows
def PB(x:QH):It:=⟨fun i _=>i<x.cps.size,fun i H v a=>a=H/\v=.str ⟨#[x.cps.getD i 0]⟩,fun i _=>x.cps.size<=i⟩
theorem FW{P:Q0}{w:QX}{K:QK}{F:QQ}(it:QI)(x:QH)(t:Tok):Turn P w K F (PB x) [it] it (fun i h=>h.IsStrIter it "str_ascii_iterator" x t i) where
 mem:=⋯
 obj:=fun i h st b f=>by
  have e:b=it:=by simpa using f
  subst e
  obtain⟨o,e,c,d⟩:=st
  exact⟨o,e,fun v z=>by rw[d]at z;cases z⟩
 keep:=fun i h l st k=>by
  obtain⟨o,e,r⟩:=st
  exact⟨o,k it ⋯ o e,r⟩
 item:=by
  intro X n hw p C i a s D H E I m st g
  subst n hw p
  obtain⟨q,u,G,y,A,B⟩:=m it ⋯
  have g:i<x.cps.size:=g
  refine wpAny_pyNext_ascii_item st (c:=x.cps[i]) (by simp[g]) fun l j J=>?_
  have I1:Inv X a D H {s with heap:=l,toks:=s.toks+1}:=I.turned (t':=s.toks+1) (fun b o f e=>(J.2 b f).trans e) q u y A B
  obtain⟨o,e,c,d⟩:=id j
  have L:x.cps.getD i 0=x.cps[i]:=by simp[Array.getD,g]
  exact⟨_,rfl,B5 (s:={s with heap:=l,toks:=s.toks+1}) e c d "^" ⟨.str ⟨#[x.cps[i]]⟩,H,I1,⟨_,rfl⟩,⟨rfl,by rw[L]⟩,j,fun b f=>(m b f).1⟩⟩
 done:=by
  intro X n hw p C i a s D H E I m st g
  subst n hw p
  obtain⟨q,u,G,y,A,B⟩:=m it ⋯
  have g:x.cps.size<=i:=g
  exact wpAny_pyNext_ascii_end (I.ok.hd C) st "%" fun l M=>⟨rfl,I.turned (t':=s.toks) (fun b o f e=>M b o f e) q u y A B⟩
 self:=fun _ _ _ _ _ st h=>wpAny_pyIter_striter_ascii st h
section
variable {X:Cx}{tg:QQ}
def Be(a:TE):TI:=fun b H R=>a b H fun v c=>∃x:QH,v=.str x/\x.cps.all (· < 128)=ω/\R (PB x) c
theorem Km{l:QQ}{d:TE}(f:PE X l d):PI X tg l (Be d):=by
 intro a s g H R I h
 refine cf (f a s g H _ I h) fun v c ⟨y,i,I1,j,k⟩=>?_
 obtain⟨x,e,ha,q⟩:=k
 subst e
 obtain⟨t,rfl⟩:=j
 refine wpAny_pyIter_ascii ha ?_
 refine⟨c.heap.objs.size,[c.heap.objs.size],_,_,i,rfl,I1.kept (t':=c.toks) fun b o e=>Rj _ e,FW _ x t,⟨_,Rt _ rfl,rfl,rfl⟩,fun b m=>?_,q⟩
 have e:b=c.heap.objs.size:=by simpa using m
 subst e
 exact I1.fpOk (Q2 _) (I1.hok.fresh (Q2 _))
end
theorem zP{x:QH}(p:Nat):Ys (PB x) (af p) (fun _=>True) x.cps.size (fun i a=>a.set p (ψ (.str ⟨#[x.cps.getD i 0]⟩))) where
 go:=fun i H hi _=>hi
 stop:=fun H _=>Q2 _
 yld:=fun i H v b a Q hi _ y q=>by
  obtain⟨e,y⟩:=y
  subst e y
  exact q _ (ah.refl _)
section
variable {X:Cx}
def nJ(a:TE):TE:=fun b H Q=>a b H fun x c=>∃z:QH,x=.str z/\(reprText z).length<=QT/\Q (.str (reprText z)) c
theorem KZ{e:QQ}{f:TE}{c:Q9}(he:PE X e f):PE X (.FormattedValue e 114 none c) (nJ f):=by
 intro a s g H Q I h
 refine wpAny_FormattedValue_repr (cf (he a s g H _ I h) fun v l ⟨x,m,I1,n,z,hx,i,q⟩=>?_)
 subst hx
 obtain⟨j,rfl⟩:=n
 refine wpAny_pyReprObj_gives (typeIs_str _ z j) F.slot_str_repr F.entry_str_repr (F.args_str_repr_1 _) (gives_str_repr z j) ?_ (hx:=i)
 have b:∀(d:Tok)(k:Nat),EP X a g Q (.str (reprText z) d) {l with toks:=k}:=fun d k=>⟨.str (reprText z),m,I1.tok k,⟨d,rfl⟩,q⟩
 exact wpAny_formatField_str (b _ _) (b _ _) (hx:=i)
end
section
variable {X:Cx}{x n y:QH}{j:Nat}{py:Q9}{C:QJ}{i:Nat}{t:XK->TE}{tb:TS}{e:QQ}{b₀:QU}{suite:⇑QU}{pos epos hpos np:Q9}
end
structure GU(mg:QH->Option QJ)(x:QH)(i:QH):Prop where
 ex:∃t,mg x=ψ (.str i t)
theorem GU.pe{X:Cx}{x:QH}{i:QH}{pos:Q9}(k:GU X.mg x i)(a:Gl X x)(hd:(x==("__debug__":QH))=ξ:=by decide):PE X (.Name x pos) (tC (.str i)):=by
 obtain⟨t,e⟩:=k.ex
 exact Ec a e ⟨t,rfl⟩ hd
theorem K1{K:QK}{mg:QH->Option QJ}{h:QS}{x:QH}{i:QH}{t:Tok}(X:K.In h)(G:h.Ns RD mg)(z:Sw K RD x=ψ (ψ (.str i t))):GU mg x i:=⟨t,Th X G z⟩
def gy:R2:=fun x y H Q=>∃i j,x=.str i/\y=.str j/\i.length+j.length<=QT/\Q (.str (i++j)) H
def IA:R2:=fun x y H Q=>∃i j,x=.str i/\y=.str j/\Q (.bl (!(S2 j i 0 j.length 1).isEmpty)) H
def ub:R2:=fun x y H Q=>∃i j,x=.str i/\y=.str j/\Q (.bl (!(!(S2 j i 0 j.length 1).isEmpty))) H
def mQ:⇑V->Hp->VK->Prop:=fun xs H Q=>∃i,xs=[.int i]/\i.natAbs.log2<1920/\Q (.str (toString i)) H
def sh:⇑V->Hp->VK->Prop:=fun xs H Q=>∃z:QH,xs=[.str z]/\z.length<=QT/\Q (.int z.length) H
section
variable {X:Cx}
theorem JQ:fA X (Sj .Add) gy:=Df
theorem MT:fA X (Rz .In) IA:=Ff
theorem Gm:fA X (Rz .NotIn) ub:=zA
theorem FE:eB X (.type "str") mQ:=zh
theorem Fu:eB X (.builtin "len") sh:=Au
end
structure bU(K:QK)(c m qual:QH)(st:QU)(ps:⇑QH):Prop where
 ex:∃f fd,E3 K (aF K c) m f/\LC K m qual st f fd/\∀us:⇑QJ,us.length=ps.length->bindArgs fd ⟨us,[]⟩=pure (ps.zip us)
structure dm(CX:Fy)(P:Q0)(w:QX)(K:QK)(mg:QH->Option QJ)(base:QS)(k:Nat)(c m:QH)(ps:⇑QH)(sp:Sp):Prop where
 ex:∃f fd,E3 K (aF K c) m f/\Binds K fd ps []/\lQ P w K mg base CX k f fd ps sp
structure me(K:QK)(mg:QH->Option QJ)(c:QH):Prop where
 bound:mg c=ψ (.ref (aF K c))
 cls:fR K (aF K c)
 makes:Vh K (aF K c)=ω
 kp:SO K (.ref (aF K c))=ω
section
variable {P:Q0}{w:QX}{K:QK}{mg:QH->Option QJ}{base:QS}
theorem bU.cal{c m qual:QH}{st:QU}{ps N:⇑QH}{d:TS}{k:Nat}{sp:Sp}(F:bU K c m qual st ps)(S:au N ps (ag st))(len:∀vs H Q E,sp vs H Q E->vs.length=ps.length)
  (g:∀(f:QI)(cdv:QJ)(A:Q6)(outer:⇑Ri)(s:QL)(H:Hp)(E:XK),cH k (A.deeper (RY qual (ag st) s.heap.objs.size f cdv))->vt (bS qR P w K mg base N qual (ag st) f cdv A outer s H E).nox (cT st) d)
  (hr:∀vs H Q E,sp vs H Q E->d {nx:=fun _ H'=>Q .non H',rt:=Q} (start N vs) H):dm qR P w K mg base (k+1) c m ps sp:=by
 obtain⟨a,fd,hm,i,e⟩:=F.ex
 exact⟨a,fd,hm,.all e,i.ok S len fun cdv A outer s H vs Q E b h=>⟨d,g a cdv A outer s H E b,hr vs H Q E h⟩⟩
theorem bU.calX{c m qual:QH}{st:QU}{ps N:⇑QH}{d:XK->TS}{k:Nat}{sp:Sp}(F:bU K c m qual st ps)(S:au N ps (ag st))(len:∀vs H Q E,sp vs H Q E->vs.length=ps.length)
  (g:∀(f:QI)(cdv:QJ)(A:Q6)(outer:⇑Ri)(s:QL)(H:Hp)(E:XK),cH k (A.deeper (RY qual (ag st) s.heap.objs.size f cdv))->vt (bS (dk P w base) P w K mg base N qual (ag st) f cdv A outer s H E) (cT st) (d E))
  (hr:∀vs H Q E,sp vs H Q E->d E {nx:=fun _ H'=>Q .non H',rt:=Q} (start N vs) H):dm (dk P w base) P w K mg base (k+1) c m ps sp:=by
 obtain⟨a,fd,hm,i,e⟩:=F.ex
 exact⟨a,fd,hm,.all e,i.okX S len fun cdv A outer s H vs Q E b h=>⟨d E,g a cdv A outer s H E b,hr vs H Q E h⟩⟩
theorem Jv{h:QS}{c m qual:QH}{st:QU}{ps:⇑QH}{C f:QI}{k:QJ}{l e:Option QI}{i:Array (Option QJ)}{kV d g b ct:QJ}
  (a:Sw K RD c=ψ (ψ (.ref C))) (n:RV K (.ref C) m=ψ (ψ (.ref f))) (fn:VP K (.ref f)=ω) (o:K.lookup f=ψ ⟨k,l,.func (Tc m qual (jL st) (cT st) (ag st) .none kV d g e b ct),i⟩)
  (p:U8 K b qual=ω) (j:SO K (.ref f)=ω)
  (q:∀(kV d g:QJ)(e:Option QI)(b ct:QJ)(us:⇑QJ),us.length=ps.length->bindArgs (Tc m qual (jL st) (cT st) (ag st) .none kV d g e b ct) ⟨us,[]⟩=pure (ps.zip us)):bU K c m qual st ps:=
 ⟨f,_,by rw[jR a];exact⟨n,fn,j⟩,Ic o p j,q kV d g e b ct⟩
theorem M3{h:QS}{c:QH}{C:QI}(X:K.In h)(G:h.Ns RD mg)(a:Sw K RD c=ψ (ψ (.ref C)))(b:UN K C Rh=ω)(hd:VY K C=ω)(po:Xe K C=ω)
  (d:RV K (.ref C) "__setattr__"=ψ (ψ (.builtin "object.__setattr__"))) (mk:Vh K C=ω) (f:SO K (.ref C)=ω):me K mg c:=by
 have e:=jR a
 exact⟨by rw[e];exact Th X G a,by rw[e];exact⟨b,hd,po,d⟩,by rw[e];exact mk,by rw[e];exact f⟩
theorem Fw{c f:QH}{C:QI}(a:Sw K RD c=ψ (ψ (.ref C)))(n:RV K (.ref C) f=ψ none):cF K (aF K c) f:=by
 rw[jR a];exact n
end
section
variable {X:Cx}{k:Nat}{c m:QH}{ps:⇑QH}{sp:Sp}{o e:QQ}{es:⇑QQ}{ta:TE}{t:TA}{apos pos p:Q9}{pl:Sem Bool}
theorem JG(M:dm qR X.prog X.w X.K X.mg X.base k c m ps sp)(C:me X.K X.mg c)(g:cH k X.A)(he:PE X o ta)(ha:PA X (e::es) t)
  (a:Q5 (e::es) X.env=(false,eval e X.env)::Q5 es X.env:=by rfl) (b:(Rx pos (Q5 es X.env)).any (·.1)=ξ:=by rfl)
  (h:eval (.Call (.Attribute o m apos) (e::es) [] pos) X.env=(do
   let d <-eval o X.env
   standAt apos.atName
   let (f,first) <-holding [d] (S7 d m pl)
   callWith pos f first (Rx pos (Q5 (e::es) X.env)) (SI pos (SR [] X.env))):=by rfl):PE X (.Call (.Attribute o m apos) (e::es) [] pos) (bH (aF X.K c) m sp [] E0 ta t):=by
 obtain⟨f,j,hm,i,F⟩:=M.ex
 exact zp he C.cls hm F g i .nil Ef ha a b h
theorem Je(M:dm qR X.prog X.w X.K X.mg X.base k c m ps sp)(C:me X.K X.mg c)(b:cH k X.A)(he:PE X o ta)
  (d:eval (.Call (.Attribute o m apos) [] [] pos) X.env=(do
   let a <-eval o X.env
   standAt apos.atName
   let (f,first) <-holding [a] (S7 a m pl)
   callWith pos f first (Rx pos (Q5 [] X.env)) (SI pos (SR [] X.env))):=by rfl):PE X (.Call (.Attribute o m apos) [] [] pos) (bH (aF X.K c) m sp [] E0 ta ao):=by
 obtain⟨f,g,hm,e,F⟩:=M.ex
 exact Hu he C.cls hm F b e .nil Ef d
theorem HJ(M:dm (dk X.prog X.w X.base) X.prog X.w X.K X.mg X.base k c m ps sp)(C:me X.K X.mg c)(g:cH k X.A)(he:PE X o ta)(ha:PA X (e::es) t)
  (a:Q5 (e::es) X.env=(false,eval e X.env)::Q5 es X.env:=by rfl) (b:(Rx pos (Q5 es X.env)).any (·.1)=ξ:=by rfl)
  (h:eval (.Call (.Attribute o m apos) (e::es) [] pos) X.env=(do
   let d <-eval o X.env
   standAt apos.atName
   let (f,first) <-holding [d] (S7 d m pl)
   callWith pos f first (Rx pos (Q5 (e::es) X.env)) (SI pos (SR [] X.env))):=by rfl):PE X (.Call (.Attribute o m apos) (e::es) [] pos) (bH (aF X.K c) m sp [] E0 ta t):=by
 obtain⟨f,j,hm,i,F⟩:=M.ex
 exact zp he C.cls hm F g i .nil Nf ha a b h
theorem FA(M:dm qR X.prog X.w X.K X.mg X.base k c "__init__" ps sp)(C:me X.K X.mg c)(b:cH (k+1) X.A)(d:Gl X c:=by rfl)(a:(c==("__debug__":QH))=ξ:=by decide):PE X (.Call (.Name c p) [] [] pos) (Cz (aF X.K c) sp [] E0 ao):=by
 obtain⟨f,g,hm,e,F⟩:=M.ex
 exact HK ⟨C.makes,hm.at_,hm.fn,C.kp⟩ F b d C.bound e .nil Ef a
end
section
variable {P:Q0}{w:QX}{K:QK}{mg:QH->Option QJ}{base:QS}{N:⇑QH}{qual:QH}{scope:RG}{f:QI}{cd:QJ}{A:Q6}{outer:⇑Ri}{s0:QL}{H0:Hp}{E:XK}{k:Nat}{ps:⇑QH}{sp:Sp}{c m:QH}{apos pos:Q9}{o e:QQ}{es:⇑QQ}{ta:TE}{t:TA}{pl:Sem Bool}
theorem Il(M:dm (dk P w base) P w K mg base k c m ps sp)(C:me K mg c)(h:cH k (bS (dk P w base) P w K mg base N qual scope f cd A outer s0 H0 E).A)(he:PE (bS (dk P w base) P w K mg base N qual scope f cd A outer s0 H0 E) o ta)(ha:PA (bS (dk P w base) P w K mg base N qual scope f cd A outer s0 H0 E) (e::es) t)
  (a:Q5 (e::es) (bS (dk P w base) P w K mg base N qual scope f cd A outer s0 H0 E).env=(false,eval e (bS (dk P w base) P w K mg base N qual scope f cd A outer s0 H0 E).env)::Q5 es (bS (dk P w base) P w K mg base N qual scope f cd A outer s0 H0 E).env:=by rfl)
  (b:(Rx pos (Q5 es (bS (dk P w base) P w K mg base N qual scope f cd A outer s0 H0 E).env)).any (·.1)=ξ:=by rfl)
  (i:eval (.Call (.Attribute o m apos) (e::es) [] pos) (bS (dk P w base) P w K mg base N qual scope f cd A outer s0 H0 E).env=(do
   let d <-eval o (bS (dk P w base) P w K mg base N qual scope f cd A outer s0 H0 E).env
   standAt apos.atName
   let (g,first) <-holding [d] (S7 d m pl)
   callWith pos g first (Rx pos (Q5 (e::es) (bS (dk P w base) P w K mg base N qual scope f cd A outer s0 H0 E).env)) (SI pos (SR [] (bS (dk P w base) P w K mg base N qual scope f cd A outer s0 H0 E).env))):=by rfl):
  PE (bS (dk P w base) P w K mg base N qual scope f cd A outer s0 H0 E) (.Call (.Attribute o m apos) (e::es) [] pos) (bH (aF K c) m sp [] E ta t):=by
 obtain⟨g,l,hm,j,F⟩:=M.ex
 exact zp he C.cls hm F h j .nil BV ha a b i
end
section
variable {κ:Type} [DecidableEq κ]
def fj(kvs:⇑(κ×V))(k:κ):Option V:=(kvs.find? fun a=>decide (a.1=k)).map (·.2)
def putK(kvs:⇑(κ×V))(k:κ)(v:V):⇑(κ×V):=
 if(kvs.any fun a=>decide (a.1=k))=ω then kvs.map (fun a=>if a.1=k then(a.1,v)else a)else kvs++[(k,v)]
def qH(kvs:⇑(κ×V))(k:κ):⇑(κ×V):=kvs.filter fun a=>decide (a.1≠k)
theorem pE{p:κ×V}{r:⇑(κ×V)}{k:κ}(e:p.1=k):fj (p::r) k=ψ p.2:=by simp[fj,Uq,e]
theorem lg{p:κ×V}{r:⇑(κ×V)}{k:κ}(e:¬p.1=k):fj (p::r) k=fj r k:=by simp[fj,Uq,e]
theorem uC(k:κ):∀kvs:⇑(κ×V),(kvs.any fun a=>decide (a.1=k))=(fj kvs k).isSome
 |[]=>rfl
 |p::r=>by
  rw[S4]
  by_cases e:p.1=k
  .simp only[pE e,decide_eq_true e,Bool.true_or,ZA]
  .rw[lg e,decide_eq_false e,XM];exact uC k r
theorem rT(kvs:⇑(κ×V))(k:κ)(v:V):(putK kvs k v).length<=kvs.length+1:=by
 unfold putK
 split
 .rw[QR];omega
 .rw[RN,RB,WB];omega
theorem GZ{kvs:⇑(κ×V)}{k:κ}(v:V)(h:fj kvs k=χ):putK kvs k v=kvs++[(k,v)]:=by
 unfold putK
 rw[uC,h]
 exact if_neg "^"
theorem lB.isSome_eq{o:Option V}{u:Option QJ}(r:lB o u):o.isSome=u.isSome:=by
 cases o with
 |none=>cases u with
  |none=>rfl
  |some _=>exact(show False from r).elim
 |some _=>cases u with
  |none=>exact(show False from r).elim
  |some _=>rfl
theorem KV.val{kvs:⇑(κ×V)}{vs:⇑(κ×QJ)}(r:KV kvs vs)(k:κ):lB (fj kvs k) (valueAt vs k):=by
 unfold KV at r
 induction r with
 |nil=>exact Sx
 |@cons p q ps a h t d=>
  obtain⟨h1,f⟩:=h
  by_cases e:p.1=k
  .have c:q.1=k:=h1.symm.trans e
   have b:valueAt (q::a) k=ψ q.2:=by simp[valueAt,Uq,c]
   rw[pE e,b];exact f
  .have c:¬q.1=k:=fun z=>e (h1.trans z)
   have b:valueAt (q::a) k=valueAt a k:=by simp[valueAt,Uq,c]
   rw[lg e,b];exact d
theorem KV.any{kvs:⇑(κ×V)}{vs:⇑(κ×QJ)}(r:KV kvs vs)(k:κ):(kvs.any fun a=>decide (a.1=k))=vs.any fun a=>decide (a.1=k):=by
 unfold KV at r
 induction r with
 |nil=>rfl
 |cons h t b=>rw[S4,S4,b,h.1]
theorem KV.repl{kvs:⇑(κ×V)}{vs:⇑(κ×QJ)}(r:KV kvs vs)(k:κ){y:V}{u:QJ}(b:RelV y u):
  KV (kvs.map fun a=>if a.1=k then(a.1,y)else a) (vs.map fun a=>if a.1=k then(a.1,u)else a):=by
 unfold KV at r ⊢
 induction r with
 |nil=>exact .nil
 |@cons p q ps f h t c=>
  rw[Rk,Rk]
  refine .cons ?_ c
  obtain⟨h1,d⟩:=h
  by_cases e:p.1=k
  .rw[if_pos e,if_pos (h1.symm.trans e)];exact⟨h1,b⟩
  .rw[if_neg e,if_neg (fun z=>e (h1.trans z))];exact⟨h1,d⟩
theorem KV.put{kvs:⇑(κ×V)}{vs:⇑(κ×QJ)}(r:KV kvs vs)(k:κ){y:V}{u:QJ}(a:RelV y u):KV (putK kvs k y) (stored vs k u):=by
 unfold putK stored
 rw[r.any k]
 by_cases e:(vs.any fun b=>decide (b.1=k))=ω
 .rw[if_pos e,if_pos e];exact r.repl k a
 .rw[if_neg e,if_neg e];exact Yw r ⟨rfl,a⟩
theorem KV.drop{kvs:⇑(κ×V)}{vs:⇑(κ×QJ)}(r:KV kvs vs)(k:κ):KV (qH kvs k) (without vs k):=by
 unfold KV at r ⊢
 unfold qH without
 induction r with
 |nil=>exact .nil
 |@cons p q ps g h t c=>
  obtain⟨h1,d⟩:=h
  rw[T1,T1]
  by_cases e:p.1=k
  .have a:¬decide (p.1≠k)=ω:=by simp[e]
   have b:¬decide (q.1≠k)=ω:=by simp[h1.symm.trans e]
   rw[if_neg a,if_neg b];exact c
  .have f:¬q.1=k:=fun z=>e (h1.trans z)
   have a:decide (p.1≠k)=ω:=by simp[e]
   have b:decide (q.1≠k)=ω:=by simp[f]
   rw[if_pos a,if_pos b];exact .cons ⟨h1,d⟩ c
theorem KV.length{kvs:⇑(κ×V)}{vs:⇑(κ×QJ)}(r:KV kvs vs):kvs.length=vs.length:=Ro r
theorem BY(kvs:⇑(κ×V))(k:κ):(qH kvs k).length<=kvs.length:=Sb _ _
end
theorem sF{P:Q0}{w:QX}{k:Key}{u:QJ}(r:RelV (kV k) u):(aN P w).is k u=ω:=by
 cases k with
 |inl i=>obtain⟨t,e⟩:=(show ∃t,u=SK i t from r);subst e;exact BB P w i t
 |inr x=>obtain⟨t,e⟩:=(show ∃t,u=Tt x t from r);subst e;exact A5 P w x t
theorem yz{P:Q0}{w:QX}:∀{a:⇑Key}{us:⇑QJ},bA (a.map kV) us->ItemsAre (aN P w) a us
 |[],_,r=>by rw[TZ]at r;cases r;exact .nil
 |k::a,_,r=>by
  rw[Rk]at r
  cases r with
  |cons h t=>exact .cons (sF h) (yz t)
abbrev KT(H:Hp):⇑(⇑Key×V)->⇑(⇑Key×QI×QJ)->Prop:=Q4 fun p q=>p.1=q.1/\H q.2.1=ψ (.tup (p.1.map kV))/\RelV p.2 q.2.2
theorem KT.val{H:Hp}{kvs:⇑(⇑Key×V)}{xs:⇑(⇑Key×QI×QJ)}(r:KT H kvs xs)(k:⇑Key):lB (fj kvs k) ((atKey xs k).map (·.2)):=by
 induction r with
 |nil=>exact Sx
 |@cons p q ps a h t d=>
  obtain⟨h1,_,f⟩:=h
  by_cases e:p.1=k
  .have c:q.1=k:=h1.symm.trans e
   have b:atKey (q::a) k=ψ q.2:=by simp[atKey,Uq,c]
   rw[pE e,b];exact f
  .have c:¬q.1=k:=fun z=>e (h1.trans z)
   have b:atKey (q::a) k=atKey a k:=by simp[atKey,Uq,c]
   rw[lg e,b];exact d
theorem KT.repl{H:Hp}{kvs:⇑(⇑Key×V)}{xs:⇑(⇑Key×QI×QJ)}(r:KT H kvs xs)(k:⇑Key){y:V}{u:QJ}(c:RelV y u):
  KT H (kvs.map fun a=>if a.1=k then(a.1,y)else a) (xs.map (putAt k u)):=by
 induction r with
 |nil=>exact .nil
 |@cons p q ps g h t d=>
  rw[Rk,Rk]
  refine .cons ?_ d
  obtain⟨h1,b,f⟩:=h
  unfold putAt
  by_cases e:p.1=k
  .rw[if_pos e,if_pos (h1.symm.trans e)];exact⟨h1,b,c⟩
  .rw[if_neg e,if_neg (fun z=>e (h1.trans z))];exact⟨h1,b,f⟩
theorem KT.put{H:Hp}{kvs:⇑(⇑Key×V)}{xs:⇑(⇑Key×QI×QJ)}(r:KT H kvs xs)(k:⇑Key){b:QI}{y:V}{u:QJ}(c:H b=ψ (.tup (k.map kV)))(a:RelV y u):
  KT H (putK kvs k y) (storedH xs k b u):=by
 have e:(kvs.any fun d=>decide (d.1=k))=(atKey xs k).isSome:=by
  rw[uC,(r.val k).isSome_eq,W4]
 unfold putK storedH
 rw[e]
 by_cases q:(atKey xs k).isSome=ω
 .rw[if_pos q,if_pos q];exact r.repl k a
 .rw[if_neg q,if_neg q];exact Yw r ⟨rfl,c,a⟩
theorem KT.keeps{H H':Hp}{kvs:⇑(⇑Key×V)}{xs:⇑(⇑Key×QI×QJ)}(r:KT H kvs xs)(a:∀b ys,H b=ψ (.tup ys)->H' b=ψ (.tup ys)):KT H' kvs xs:=
 Paired.mapP r fun _ _ z=>⟨z.1,a _ _ z.2.1,z.2.2⟩
section
variable {P:Q0}{w:QX}{H:Hp}{h:QS}{a:QI}
theorem Lq{u:HO}(ok:mE P w H h)(e:Rd H a u):cg P w H h a u:=e.ok ok
theorem fw{kvs:⇑(Key×V)}(ok:mE P w H h)(e:Rd H a (.dK kvs)):kvs.length<=QT/\(a==Sq)=ξ/\∃vs,KV kvs vs/\h.DictOf (aN P w) a vs:=
 show cg P w H h a (.dK kvs)from Lq ok e
theorem HG{kvs:⇑(Key×V)}(ok:mE P w H h)(e:H a=ψ (.dK kvs)):kvs.length<=QT/\(a==Sq)=ξ/\∃vs,KV kvs vs/\h.DictOf (aN P w) a vs:=fw ok (.inl e)
theorem uz{b:⇑Key}(ok:mE P w H h)(e:H a=ψ (.tup (b.map kV))):(tupleKind (aN P w)).is h b a:=by
 obtain⟨_,c,r,o,d,f,n,g⟩:=(show cg P w H h a (.tup (b.map kV))from ok a _ e)
 exact⟨o,c.toArray,n,d,f,g,by simpa using yz r⟩
theorem yv{kvs:⇑(⇑Key×V)}(ok:mE P w H h)(e:Rd H a (.dT kvs)):kvs.length<=QT/\(a==Sq)=ξ/\
  ∃xs,KT H kvs xs/\h.DictOfH (tupleKind (aN P w)) a xs:=by
 obtain⟨z,y,xs,r,o,es,d,f,g,i,j,k⟩:=(show cg P w H h a (.dT kvs)from Lq ok e)
 refine⟨z,y,xs,r,o,es,d,f,g,i,j,fun x b=>?_,k⟩
 have all:∀{l:⇑(⇑Key×V)}{m:⇑(⇑Key×QI×QJ)},KT H l m->∀x∈m,(tupleKind (aN P w)).is h x.1 x.2.1:=by
  intro l m q
  induction q with
  |nil=>intro x b;exact nomatch b
  |@cons p q ps s c t n=>
   intro x b
   rcases QW.mp b with e|b
   .subst e
    exact uz ok (by rw[<-c.1];exact c.2.1)
   .exact n x b
 exact all r x b
theorem Ow{kvs:⇑(⇑Key×V)}(ok:mE P w H h)(e:H a=ψ (.dT kvs)):kvs.length<=QT/\(a==Sq)=ξ/\
  ∃xs,KT H kvs xs/\h.DictOfH (tupleKind (aN P w)) a xs:=yv ok (.inl e)
end
def oE(H:Hp)(a:QI)(y:V)(r:Option V):Prop:=
 (∃kvs k,Rd H a (.dK kvs)/\y=kV k/\r=fj kvs k)\/∃kvs k b,Rd H a (.dT kvs)/\y=.ref b/\H b=ψ (.tup (k.map kV))/\r=fj kvs k
noncomputable def Gu(H:Hp)(a:QI)(y v:V)(H':Hp):Prop:=
 (∃kvs k,H a=ψ (.dK kvs)/\y=kV k/\kvs.length<QT/\H'=upd H a (.dK (putK kvs k v)))\/
 ∃kvs k b,H a=ψ (.dT kvs)/\y=.ref b/\H b=ψ (.tup (k.map kV))/\kvs.length<QT/\H'=upd H a (.dT (putK kvs k v))
theorem oE.k{H:Hp}{a:QI}{kvs:⇑(Key×V)}{k:Key}(e:H a=ψ (.dK kvs)):oE H a (kV k) (fj kvs k):=.inl ⟨kvs,k,.inl e,rfl,rfl⟩
theorem Gu.k{H:Hp}{a:QI}{kvs:⇑(Key×V)}{k:Key}{v:V}(e:H a=ψ (.dK kvs))(b:kvs.length<QT):Gu H a (kV k) v (upd H a (.dK (putK kvs k v))):=.inl ⟨kvs,k,e,rfl,b,rfl⟩
section
variable {X:Cx}{pins:⇑(QI×QP)}{σ:St}{H:Hp}{s:QL}{a:QI}{y v:V}{u r:QJ}{o:Option V}{A:Q6}{E:QJ->QL->Prop}
theorem Inv.big(I:Inv X pins σ H s):Sq<s.heap.objs.size:=by
 have h:RD<s.heap.objs.size:=(I.mod.glob.keeps I.bk).lt
 exact Uy "^" h
theorem Gf{Q:QJ->QL->Prop}(q:A.units+1<cLine)(I:Inv X pins σ H s)(g:oE H a y (ψ v))(m:RelV y u)(h:∀d n,Inv X pins σ H n->RelV v d->Q d n):
  QM (model X.prog X.w) A (getItem (.ref a) u) Q E s:=by
 rcases g with⟨kvs,k,e,f,l⟩|⟨kvs,k,b,e,f,r,l⟩
 .subst f
  obtain⟨z,hd,t,rel,i⟩:=fw I.hok e
  obtain⟨d,hw,c⟩:=lB.some_of (v:=v) (o:=valueAt t k) (by rw[l];exact rel.val k)
  exact wpAny_getItem_of (sF m) i.mapOf hw (h d _ (I.tok _) c)
 .subst f
  cases(show u=Rf b from m)
  obtain⟨z,hd,xs,rel,i⟩:=yv I.hok e
  obtain⟨d,hw,c⟩:=lB.some_of (v:=v) (o:=(atKey xs k).map (·.2)) (by rw[l];exact rel.val k)
  obtain⟨p,x,j⟩:=Option.map_eq_some_iff.mp hw
  refine wpAny_getItem_heap (V7 q) (uz I.hok r) i x ?_
  rw[j]
  exact h d _ (I.tok _) c
theorem PV{Q:QJ->QL->Prop}(j:A.units+1<cLine)(I:Inv X pins σ H s)(g:oE H a y o)(f:RelV y u)(h:∀i,Inv X pins σ H i->Q (.bool o.isSome) i):
  QM (model X.prog X.w) A (Rz .In u (.ref a)) Q E s:=by
 rcases g with⟨kvs,k,e,c,l⟩|⟨kvs,k,b,e,c,m,l⟩
 .subst c
  obtain⟨z,hd,n,rel,d⟩:=fw I.hok e
  refine wpAny_in_of (sF f) hd d.mapOf ?_
  rw[<-(rel.val k).isSome_eq,<-l]
  exact h _ (I.tok _)
 .subst c
  cases(show u=Rf b from f)
  obtain⟨z,hd,xs,rel,d⟩:=yv I.hok e
  refine wpAny_in_heap (V7 j) (uz I.hok m) hd d ?_
  have q:=(rel.val k).isSome_eq
  rw[W4]at q
  rw[<-q,<-l]
  exact h _ (I.tok _)
theorem Ld{Q:QJ->QL->Prop}(j:A.units+1<cLine)(I:Inv X pins σ H s)(g:oE H a y o)(f:RelV y u)(h:∀i,Inv X pins σ H i->Q (.bool (!o.isSome)) i):
  QM (model X.prog X.w) A (Rz .NotIn u (.ref a)) Q E s:=by
 rcases g with⟨kvs,k,e,c,l⟩|⟨kvs,k,b,e,c,m,l⟩
 .subst c
  obtain⟨z,hd,n,rel,d⟩:=fw I.hok e
  refine wpAny_notIn_of (sF f) hd d.mapOf ?_
  rw[<-(rel.val k).isSome_eq,<-l]
  exact h _ (I.tok _)
 .subst c
  cases(show u=Rf b from f)
  obtain⟨z,hd,xs,rel,d⟩:=yv I.hok e
  refine wpAny_notIn_heap (V7 j) (uz I.hok m) hd d ?_
  have q:=(rel.val k).isSome_eq
  rw[W4]at q
  rw[<-q,<-l]
  exact h _ (I.tok _)
theorem uq{h':QS}{t':Nat}{c:HO}(I:Inv X pins σ H s)(d:OZ (H a))(f:SG a s.heap h')(he:∃q,h'.get? a=ψ q)(new:cg X.prog X.w (upd H a c) h' a c):
  Inv X pins σ (upd H a c) {s with heap:=h',toks:=t'}:=
 I.write (x:=a) (e:=a) d (.inl rfl) (fun b q g z=>(f.2 b g).trans z) he new
theorem vE{P:Q0}{w:QX}{H':Hp}{h':QS}{kvs:⇑(Key×V)}{vs:⇑(Key×QJ)}(z:kvs.length<=QT)(hd:(a==Sq)=ξ)(b:KV kvs vs)(dd:h'.DictOf (aN P w) a vs):
  cg P w H' h' a (.dK kvs):=⟨z,hd,vs,b,dd⟩
theorem EY{H':Hp}{Q:Unit->QL->Prop}(G:A.units+1<cLine)(I:Inv X pins σ H s)(g:Gu H a y v H')(t:RelV y u)(x:RelV v r)(h:∀B,Inv X pins σ H' B->Q () B):
  QM (model X.prog X.w) A (setItem (.ref a) u r) Q E s:=by
 rcases g with⟨kvs,k,e,i,l,j⟩|⟨kvs,k,b,e,i,C,l,j⟩
 .subst i j
  obtain⟨z,hd,J,rel,m⟩:=HG I.hok e
  have n:J.length<=QT:=by rw[<-rel.length];exact z
  have o:(putK kvs k v).length<=QT:=by have:=rT kvs k v;omega
  refine wpAny_setItem_pairs (hsz:=n) (sF t) m fun D d p=>h _ ?_
  have he:∃q,D.get? a=ψ q:=let ⟨q,_,_,f,_⟩:=d;⟨q,f⟩
  exact uq I (by rw[e];exact Sx) p he (vE o hd (rel.put k x) d)
 .subst i j
  cases(show u=Rf b from t)
  obtain⟨z,hd,xs,rel,m⟩:=Ow I.hok e
  have n:xs.length<=QT:=by rw[<-Ro rel];exact z
  have o:(putK kvs k v).length<=QT:=by have:=rT kvs k v;omega
  refine wpAny_setItem_heap (hsz:=n) (V7 G) (uz I.hok C) m fun D d p=>h _ ?_
  obtain⟨q,es,K,f,L,M,N,_,O⟩:=d
  refine uq I (by rw[e];exact Sx) p ⟨q,f⟩ ⟨o,hd,_,(rel.put k C x).keeps fun c ys F=>?_,q,es,K,f,L,M,N,O⟩
  rw[aj (Ol F e (fun z=>nomatch z))]
  exact F
end
section
variable {X:Cx}{pins:⇑(QI×QP)}{σ:St}{H:Hp}{s:QL}{a:QI}{kvs:⇑(Key×V)}{k:Key}{u:QJ}{A:Q6}{E:QJ->QL->Prop}
theorem NZ{Q:Unit->QL->Prop}(I:Inv X pins σ H s)(e:H a=ψ (.dK kvs))(f:RelV (kV k) u)(l:(fj kvs k).isSome=ω)(h:∀d,Inv X pins σ (upd H a (.dK (qH kvs k))) d->Q () d):
  QM (model X.prog X.w) A (delItem (.ref a) u) Q E s:=by
 obtain⟨z,hd,g,rel,c⟩:=HG I.hok e
 refine wpAny_delItem_slot c.typeIs "^" Za
  (U3 Za c.typeIs abe (aav _ _) (meets_dict_delitem_pairs (aN X.prog X.w) a (sF f)) ⟨g,c,by rw[<-rel.length];exact z,by rw[<-(rel.val k).isSome_eq];exact l,fun i b j=>h _ ?_⟩)
 have he:∃q,i.get? a=ψ q:=let ⟨q,_,_,m,_⟩:=b;⟨q,m⟩
 exact uq I (by rw[e];exact Sx) j he (vE (QV (BY kvs k) z) hd (rel.drop k) b)
theorem Pe{v:V}{b:⇑QJ}{Q:QJ->QL->Prop}(I:Inv X pins σ H s)(e:H a=ψ (.dK kvs))(f:RelV (kV k) u)(l:fj kvs k=ψ v)(hm:b=[]\/∃x,b=[x])
  (h:∀c j,Inv X pins σ (upd H a (.dK (qH kvs k))) j->RelV v c->Q c j):QM (model X.prog X.w) A (call (.builtin "dict.pop") (.ref a::u::b)) Q E s:=by
 obtain⟨z,hd,m,rel,n⟩:=HG I.hok e
 obtain⟨c,hw,g⟩:=lB.some_of (v:=v) (o:=valueAt m k) (by rw[<-l];exact rel.val k)
 have p:(keyPart u).isSome=ω:=by
  cases k with
  |inl i=>obtain⟨t,q⟩:=(show ∃t,u=SK i t from f);subst q;rfl
  |inr x=>obtain⟨t,q⟩:=(show ∃t,u=Tt x t from f);subst q;rfl
 have ha:argsOk "dict.pop" ⟨.ref a::u::b,[]⟩:=by
  rcases hm with q|⟨x,q⟩
  .subst q;exact aa3 _ _
  .subst q;exact ab8 _ _ _
 refine U3 YR n.typeIs acm ha (meets_dict_pop_there (aN X.prog X.w) a (sF f) b hm p)
  ⟨m,c,n,by rw[<-rel.length];exact z,hw,fun r d y=>h c _ ?_ g⟩
 have he:∃q,r.get? a=ψ q:=let ⟨q,_,_,B,_⟩:=d;⟨q,B⟩
 exact uq I (by rw[e];exact Sx) y he (vE (QV (BY kvs k) z) hd (rel.drop k) d)
theorem Pb{Q:QJ->QL->Prop}(I:Inv X pins σ H s)(e:Rd H a (.dK kvs))(h:∀t b,Inv X pins σ H b->Q (.int kvs.length t) b):QM (model X.prog X.w) A (call (.builtin "len") [.ref a]) Q E s:=by
 obtain⟨z,hd,d,rel,c⟩:=fw I.hok e
 refine call_len_dict hd c (by rw[<-rel.length];rw[sizeLine_eq]at z;omega) ?_
 rw[<-rel.length]
 exact h _ _ (I.tok _)
theorem Ky{Q:Bool->QL->Prop}(I:Inv X pins σ H s)(e:Rd H a (.dK kvs))(h:∀b,Inv X pins σ H b->Q (!kvs.isEmpty) b):QM (model X.prog X.w) A (truthy (.ref a)) Q E s:=by
 obtain⟨z,hd,c,rel,d⟩:=fw I.hok e
 refine wpAny_truthy_dict hd d (by rw[<-rel.length];rw[sizeLine_eq]at z;omega) ?_
 have q:kvs.isEmpty=c.isEmpty:=by cases rel<;>rfl
 rw[<-q]
 exact h _ (I.tok _)
end
def Pd(i:QQ):Prop:=∀a b,subscripted i false a b=operate [a,b] (getItem a b)
theorem J7{prog:Q0}{w:QX}{A:Q6}{E:QJ->QL->Prop}{s:QL}{env:Ri}{a slice:QQ}{k:Q9}{T id:String}{Q:QJ->QL->Prop}
  (m:U2 (.type T) "__getitem__"=pure (ψ (.builtin id))) (n:Pd slice)
  (h:QM (model prog w) A (eval a env) (fun o d=>QM (model prog w) A (eval slice env) (fun i b=>b.TypeIs o T/\QM (model prog w) A (getItem o i) Q E b) E d) E s):
  QM (model prog w) A (eval (.Subscript a slice k) env) Q E s:=by
 refine Subscript_ (RX h (fun o d g=>RX g (fun i b c=>?_) fun _ _ x=>x) fun _ _ x=>x)
 obtain⟨l,c⟩:=c
 unfold subscriptTail
 refine QN ?_
 rw[getitemInPython_of_ne l.not_modules]
 refine QN (wpAny_specialOf l m ?_)
 have f:QM (model prog w) A (subscripted slice false o i) (fun r e=>QM (model prog w) A (letTemporaryGo a o r >>= fun _=>pure r) Q E e) E b:=by
  rw[n o i]
  exact wpAny_operating (RX c (fun r e j=>QN (wpAny_letTemporaryGo (Q8 j))) fun _ _ x=>x)
 first
  |exact Q8 (QN f)
  |exact QN (Q8 (QN f))
  |exact QN f
theorem Bh{X:Cx}{c:⇑(QI×QP)}{f:St}{H:Hp}{s:QL}{a:QI}{y:V}{o:Option V}(I:Inv X c f H s)(g:oE H a y o):s.TypeIs (.ref a) "dict":=by
 rcases g with⟨kvs,k,e,_,_⟩|⟨kvs,k,b,e,_,_,_⟩
 .obtain⟨_,_,h,_,d⟩:=fw I.hok e
  exact d.typeIs
 .obtain⟨_,_,xs,_,d⟩:=yv I.hok e
  exact d.typeIs
def sy(d ty:TE):TE:=fun b H Q=>d b H fun x e=>ty b e fun y c=>∃a v,x=.ref a/\oE c a y (ψ v)/\Q v c
def M0(ty d:TE):TE:=fun b H Q=>ty b H fun y e=>d b e fun x c=>∃a o,x=.ref a/\oE c a y o/\Q (.bl o.isSome) c
def uk(ty d:TE):TE:=fun b H Q=>ty b H fun y e=>d b e fun x c=>∃a o,x=.ref a/\oE c a y o/\Q (.bl (!o.isSome)) c
def vk(d ty e:TE):TS:=fun D b H=>e b H fun v f=>d b f fun x g=>ty b g fun y h=>∃a c,x=.ref a/\Gu h a y v c/\D.nx b c
section
variable {X:Cx}{o i e value:QQ}{pos pos' tpos:Q9}{td ty tv:TE}
theorem K7(e:X.A.units+1<cLine)(f:PE X o td)(hi:PE X i ty)(j:Pd i):PE X (.Subscript o i pos) (sy td ty):=by
 intro b s d H Q I h
 refine J7 acw.lookup j (cf (f b s d H _ I h) fun u k ⟨x,l,I1,m,n⟩=>cf (hi b k d l _ I1 n) fun w z ⟨y,p,I2,q,a,v,r,g,t⟩=>?_)
 subst r
 obtain rfl:u=Rf a:=m
 exact⟨Bh I2 g,Gf e I2 g q fun B C I3 c=>⟨v,p,I3,c,t⟩⟩
theorem Mn(d:X.A.units+1<cLine)(hi:PE X i ty)(e:PE X o td):PC X .In i o (M0 ty td):=by
 intro b s c H Q I h
 refine cf (hi b s c H _ I h) fun t f ⟨y,j,I1,k,l⟩=>cf (e b f c j _ I1 l) fun u v ⟨x,m,I2,n,a,p,q,g,r⟩=>?_
 subst q
 obtain rfl:u=Rf a:=n
 exact PV d I2 g k fun w I3=>⟨.bl p.isSome,m,I3,rfl,r⟩
theorem yD(d:X.A.units+1<cLine)(hi:PE X i ty)(e:PE X o td):PC X .NotIn i o (uk ty td):=by
 intro b s c H Q I h
 refine cf (hi b s c H _ I h) fun t f ⟨y,j,I1,k,l⟩=>cf (e b f c j _ I1 l) fun u v ⟨x,m,I2,n,a,p,q,g,r⟩=>?_
 subst q
 obtain rfl:u=Rf a:=n
 exact Ld d I2 g k fun w I3=>⟨.bl (!p.isSome),m,I3,rfl,r⟩
theorem J8(d:X.A.units+1<cLine)(e:PE X o td)(hi:PE X i ty)(f:PE X value tv)(j:swapsWith value (ψ (.Subscript o i pos')) pos.line X.env=pure false):
  PS X (.Assign [.Subscript o i pos'] value pos) (vk td ty tv):=by
 intro b s c H D I h
 refine wpAny_Assign_Subscript (cf (f b s c H _ I h) fun r k ⟨v,l,I1,m,n⟩=>cf (e b k c l _ I1 n) fun u p ⟨x,q,I2,t,w⟩=>cf (hi b p c q _ I2 w) fun F G ⟨y,J,I3,z,a,B,C,g,E⟩=>?_) j
 subst C
 obtain rfl:u=Rf a:=t
 exact EY d I3 g z m fun K I4=>⟨c,B,I4,E⟩
end
theorem Hg{P:Q0}{w:QX}{H:Hp}(h:QS)(a:Sq<h.objs.size):cg P w H (h.push {cls:=.type "dict",data:=.dict #[]}) h.objs.size (.dK []):=
 ⟨RL _,beq_eq_false_iff_ne.mpr (Rb (Rn a)),[],.nil,Wj h⟩
def uQ:TE:=fun _ H Q=>∀p,H p=χ->Q (.ref p) (upd H p (.dK []))
section
variable {X:Cx}{pos:Q9}
theorem Iz:PE X (.Dict [] [] pos) uQ:=fun b s c H Q I h=>
 wpAny_Dict_empty ⟨.ref s.heap.objs.size,_,I.laid (a:=s.heap.objs.size) (o:=.dK []) (t':=s.toks) (fun _ _ q=>Rj _ q) (Q2 _) (Hg s.heap I.big),rfl,h _ (I.hok.fresh (Q2 _))⟩
end
structure M1(X:Cx)(o:QQ)(m:QH)(apos:Q9)(e:QQ)(cpos:Q9):Prop where
 base:TQ o m X.env (eval o X.env)=eval o X.env
 few:((Rx cpos (Q5 [e] X.env)).all (fun x=>!x.1)&&(SI cpos (SR [] X.env)).all (fun x=>x.1.isSome)
  && decide (([e]:⇑QQ).length+([]:⇑Keyword).length+(if([]:⇑Keyword).isEmpty then 0 else 1)<30))=ω
 line:(apos.endLine==cpos.line)=ω
 trees:Rx cpos (Q5 [e] X.env)=[(false,eval e X.env)]
def Qp(H:Hp)(a:QI):Prop:=(∃kvs,Rd H a (.dK kvs))\/∃kvs,Rd H a (.dT kvs)
theorem MX{X:Cx}{f:⇑(QI×QP)}{j:St}{H:Hp}{s:QL}{a:QI}(I:Inv X f j H s)(d:Qp H a):
  s.TypeIs (.ref a) "dict"/\(∀b,Rf a=.ref b->∃c,s.heap.get? b=ψ c/\c.dict=χ)/\(a==Sq)=ξ:=by
 rcases d with⟨kvs,e⟩|⟨kvs,e⟩
 .obtain⟨_,hd,k,_,g⟩:=fw I.hok e
  refine⟨g.typeIs,fun b q=>?_,hd⟩
  cases q
  obtain⟨c,_,_,h,i,_⟩:=g
  exact⟨c,h,i.2.1⟩
 .obtain⟨_,hd,xs,_,g⟩:=yv I.hok e
  refine⟨g.typeIs,fun b q=>?_,hd⟩
  cases q
  obtain⟨c,_,_,h,i,_⟩:=g
  exact⟨c,h,i.2.1⟩
section
variable {X:Cx}{pins:⇑(QI×QP)}{σ:St}{H:Hp}{s:QL}{a:QI}{y d:V}{u r:QJ}{o:Option V}{A:Q6}{E:QJ->QL->Prop}
end
def zj(e ty:TE):TE:=fun b H Q=>e b H fun x c=>∃a,x=.ref a/\Qp c a/\ty b c fun y d=>∃kvs k v,d a=ψ (.dK kvs)/\y=kV k/\fj kvs k=ψ v/\Q v (upd d a (.dK (qH kvs k)))
section
variable {X:Cx}{o e f:QQ}{apos cpos:Q9}{td ty tx:TE}
theorem Co(g:PE X o td)(he:PE X e ty)(m:M1 X o "pop" apos e cpos):PE X (.Call (.Attribute o "pop" apos) [e] [] cpos) (zj td ty):=by
 intro b s f H Q I h
 refine wpAny_Call_method m.base m.few m.line V4 YR ach (cf (g b s f H _ I h) fun u i ⟨x,j,I1,n,a,p,d,q⟩=>?_)
 subst p
 obtain rfl:u=Rf a:=n
 obtain⟨r,t,_⟩:=MX I1 d
 exists r,t
 rw[m.trees]
 refine UX rfl (Xg (W0 (cf (he b i f j _ I1 q) fun C D ⟨y,E,I2,w,kvs,k,v,z,A,l,B⟩=>Wr ?_)))
 subst A
 exact Pe I2 z w l (.inl rfl) fun F G I3 c=>⟨v,_,I3,c,B⟩
end
section
variable {X:Cx}{pins:⇑(QI×QP)}{σ:St}{H:Hp}{s:QL}{a:QI}{kvs:⇑(Key×V)}{A:Q6}{E:QJ->QL->Prop}
end
section
variable {X:Cx}{pins:⇑(QI×QP)}{σ:St}{H:Hp}{s:QL}{a:QI}{y:V}{u:QJ}{A:Q6}{E:QJ->QL->Prop}
end
section
variable {X:Cx}
theorem Gb:eB X (.builtin "len") (fun xs H Q=>∃a kvs,xs=[V.ref a]/\H a=ψ (.dK kvs)/\Q (.int kvs.length) H):=by
 intro b s d H xs e Q I r h
 obtain⟨a,kvs,rfl,ha,q⟩:=h
 obtain⟨u,rfl,c⟩:=vals1 r
 cases c
 exact Pb I (.inl ha) fun t f I'=>⟨.int kvs.length,H,I',⟨t,rfl⟩,q⟩
end
section
variable {κ:Type} [DecidableEq κ]
end
end L2
namespace L2
open PySem PySem.Spec PyProof.Rows PySem.W
section
variable {X:Cx}{pins:⇑(QI×QP)}{σ:⇑(Option V)}{H H':Hp}{s:QL}{h':QS}
def yx(v d:QI):HO:=.ext fun h=>h.IsItemsView v d
theorem vJ{k:Key}{u:QJ}{prog:Q0}{w:QX}(h:(aN prog w).is k u=ω):RelV (kV k) u:=by
 rcases cu (show wH k u=ω from h)with⟨i,t,rfl,rfl⟩|⟨x,t,rfl,rfl⟩
 .exact⟨t,rfl⟩
 .exact⟨t,rfl⟩
theorem mj{a:Type}:∀{kvs:⇑(a×V)}{vs:⇑(a×QJ)},KV kvs vs->∀(i:Nat)(p:a×QJ),vs[i]?=ψ p->∃q,kvs[i]?=ψ q/\q.1=p.1/\RelV q.2 p.2
 |_,_,.nil,i,p,h=>by simp at h
 |q::_,_,.cons b _,0,p,h=>by
  simp at h
  subst h
  exact⟨q,rfl,b.1,b.2⟩
 |_,_,.cons _ t,i+1,p,h=>by
  obtain⟨q,c,d⟩:=mj t i p (by simpa using h)
  exact⟨q,by simpa using c,d⟩
end
theorem lh:U2 (.type "list") "keys"=pure none:=by rw[We,builtinLookup_eq_fast];kernel_rfl
section
variable {prog:Q0}{w:QX}{A:Q6}{E:QJ->QL->Prop}{s:QL}
theorem F4{a:QI}{o:QP}{xs:Array QJ}{k:Nat}{Q:Option QJ->QL->Prop}(hx:s.heap.get? a=ψ o)(l:o.cls=.type "list")(f:o.data=.seq xs k)(hd:o.dict=χ)(p:A.handled=χ)
  (h:∀h' m,(∀b o,s.heap.get? b=ψ o->h'.get? b=ψ o)->Q none {s with heap:=h',toks:=m}):QM (model prog w) A (getAttr? (.ref a) "keys") Q E s:=by
 obtain⟨c,q,dat,r⟩:=o
 simp only at l f hd
 subst l f hd
 obtain⟨t,g,d,m,os⟩:=s
 have n:∀i,(⟨t,g,d,i,os⟩:QL).TypeIs (.ref a) "list":=fun _=>⟨_,hx,rfl⟩
 have u:=sub_AttributeError
 have v:=Xm.lookup
 have x:=Xm.bind (.ref a)
 have y:=am_list_getattr_none
 have z:=lh
 unfold getAttr? getAttrBy? getAttrBy
 repeat (any_goals (first|assumption|exact n _|((with_reducible show QM _ _ (call (Zr "list.__getattribute__") _ _) _ _ _);refine Sy Xm (n _) am_entry_list_getattribute (acz _ _) (meets_getattribute_miss_list a xs k r "keys" _ lh "^") ⟨hx,p,fun h' i e j=>?_⟩)|wp_step))
 obtain⟨B,C,he⟩:=j.there
 show QM _ _ (V6 _ _ _ _ _ _ _) _ _ _
 unfold V6
 repeat (any_goals (first|assumption|wp_step))
 exact h _ _ j.keeps
end
section
variable {prog:Q0}{w:QX}{K:Type} [DecidableEq K] {knd:KeyKind prog w K}{A:Q6}{R:Result->QL->Prop}{I:QI}{fp wr:⇑QI}{G:Array GenState->Array GenState->Prop}{n:Nat}{P:Nat->QJ->Prop}{St:Nat->QL->Prop}
theorem mo:entryFor table "dict.update.loop"=ψ Sg.«dict.update.loop»:=entryFor_of_tree (by kernel_rfl)
theorem dO:plainId "dict.update.loop"=ω:=nofun
def tZ(knd:KeyKind prog w K)(h:QS)(T:QI)(b:K×QJ):Prop:=∃o a m,h.get? T=ψ o/\o.cls=.type "tuple"/\o.data=.seq #[a,b.2] m/\knd.is b.1 a=ω
theorem C0(W:WalksS prog w A.in1 I fp wr G n P St)(D:QI)(y:D∉fp)(vs:⇑(K×QJ))(ts:⇑QI)(res:QJ)(δ:vs.length=n)(ε:ts.length=n)(B:∀i v,P i v->∃t,ts[i]?=ψ t/\v=.ref t)(hT:∀t∈ts,t≠D/\t∉wr)(hn:n<=1000)(nd:(vs.map (·.1)).Nodup):
  ∀(k i:Nat)(s:QL),n-i=k->i<=n->St i s->(∀(j:Nat)(t:QI)(p:K×QJ),ts[j]?=ψ t->vs[j]?=ψ p->tZ knd s.heap t p)->s.heap.DictOf knd D (vs.take i)->
   (∀c,Moved (D::wr) G s c->c.heap.DictOf knd D vs->R (.ok (.ret res)) c)->
   SM (model prog w) A (.builtin "dict.update.loop" ⟨[.ref D,.ref I,.int i 0,res],[]⟩) R s:=by
 have C:D∉wr:=fun h=>y (W.sub _ h)
 have g:∀b∈wr,b∈D::wr:=fun b E=>Rm _ E
 have d:∀{kvs:⇑(K×QJ)}{h V:QS},h.DictOf knd D kvs->(∀o,h.get? D=ψ o->V.get? D=ψ o)->V.DictOf knd D kvs:=fun x k=>let ⟨o,es,ep,ho,r⟩:=x;⟨o,es,ep,k o ho,r⟩
 intro k
 induction k with
 |zero=>
  intro i s hk hi l hP U X
  have Y:i=n:=by omega
  subst Y
  rw[SU "`"]at U
  refine codeAny_builtin mo ?_
  rw[Um dO _]
  show QM _ A.in1 (R5 (.ref I) >>= _) _ _ s
  refine QN (W.done s _ _ l fun c hm=>?_)
  show QM _ A.in1 (ZE D [] >>= fun _=>ret res) _ _ c
  exact QN (Q8 (Q8 (X c (hm.mono g) (d U fun o e=>hm.heap D _ C e))))
 |succ k ih=>
  intro i s hk hi l hP U X
  have F:i<n:=by omega
  refine codeAny_builtin mo ?_
  rw[Um dO _]
  show QM _ A.in1 (R5 (.ref I) >>= _) _ _ s
  refine QN (W.item i s _ _ F l fun v c Z H hm=>?_)
  obtain⟨t,ht,rfl⟩:=B i v Z
  have f:vs[i]?=ψ vs[i]:=QZ "`"
  generalize vs[i]=p at f
  have α:=d U fun o e=>hm.heap D _ C e
  have J:∀(j:Nat)(t:QI)(p:K×QJ),ts[j]?=ψ t->vs[j]?=ψ p->tZ knd c.heap t p:=fun j t p L e2=>by
   obtain⟨o,a,m,u,M⟩:=hP j t p L e2
   exact⟨o,a,m,hm.heap _ _ (hT t (Td L)).2 u,M⟩
  obtain⟨o,a,m,u,M,h3,h4⟩:=J i t p ht f
  show QM _ A.in1 (holding [Rf t] _ >>= _) _ _ c
  refine QN (TJ ?_)
  refine QN (wpAny_tryCatch ?_)
  unfold Zu
  refine QN (VE (T:="tuple") ⟨o,u,M⟩ ?_)
  rw[if_pos "^"]
  refine QN (Ta u h3 (Q8 ?_))
  show QM _ A.in1 (holding [a,p.2] (dictSet D a p.2)) _ _ c
  refine TJ (wpAny_dictSet_pairs (knd:=knd) h4 α (fun V N q=>?_) (by rw[RJ,sizeLine_eq];omega))
  have O:stored (vs.take i) p.1 p.2=vs.take (i+1):=by
   unfold stored
   rw[if_neg]
   .rw[Uh,f];rfl
   .intro z
    obtain⟨x,hx,e⟩:=VV.mp z
    obtain⟨j,hj,ej⟩:=Sa hx
    have β:j<i/\j<vs.length:=by rw[RJ]at hj;omega
    rw[Vl]at ej
    have e:x.1=p.1:=by simpa using e
    obtain⟨ζ,ei⟩:=Rw.mp f
    have:=Se.mp nd j i "%" "%" β.1
    simp only[Ui]at this
    rw[ej,ei]at this
    exact this e
  rw[O]at N
  refine Q8 ⟨plainId_quiet dO _,?_⟩
  refine ih (i+1) _ "`" F (W.frame _ c _ _ H (SA _) fun b E o e=>?_) (fun j t p L e2=>?_) N fun γ Q S=>?_
  .rw[q.2 b (fun h:b=D=>y (by rw[<-h];exact E))];exact e
  .obtain⟨o,a,m,u,M⟩:=J j t p L e2
   exact⟨o,a,m,by rw[q.2 _ (hT t (Td L)).1];exact u,M⟩
  .refine X γ (Moved.trans W.gtrans ((hm.mono g).then_heap (SA _) fun b o E e=>?_) Q) S
   rw[q.2 b (fun h:b=D=>E (by rw[h];exact RW))];exact e
end
section
variable {prog:Q0}{w:QX}{K:Type} [DecidableEq K] {knd:KeyKind prog w K}{A:Q6}{E:QJ->QL->Prop}{s:QL}
theorem tj{l:QI}{ts:⇑QI}{vs:⇑(K×QJ)}{Q:QJ->QL->Prop}(N:A.handled=χ)(G:∃m,s.heap.get? l=ψ {cls:=.type "list",data:=.seq (ts.map Rf).toArray m})(f:ts.length=vs.length)
  (O:∀(j:Nat)(t:QI)(p:K×QJ),ts[j]?=ψ t->vs[j]?=ψ p->tZ knd s.heap t p) (R:(vs.map (·.1)).Nodup) (hn:vs.length<=1000)
  (h:∀(h':QS)(S:Nat),(∀b o,s.heap.get? b=ψ o->h'.get? b=ψ o)->h'.DictOf knd s.heap.objs.size vs->Q (.ref s.heap.objs.size) {s with heap:=h',toks:=S}):
  QM (model prog w) A (call (.type "dict") [.ref l]) Q E s:=by
 obtain⟨m,G⟩:=G
 refine callType_codes (Q₁:=fun u g=>u=.ref s.heap.objs.size/\g={s with heap:=s.heap.push {cls:=.type "dict",data:=.dict #[]}}) Yt (Zg _) YI (kt_code_dict_new _ ⟨rfl,rfl⟩) ?_
 rintro u g ⟨rfl,rfl⟩
 have a:(s.heap.push {cls:=.type "dict",data:=.dict #[]}).DictOf knd s.heap.objs.size []:=Wj s.heap
 have d:(s.heap.push {cls:=.type "dict",data:=.dict #[]}).get? l=ψ {cls:=.type "list",data:=.seq (ts.map Rf).toArray m}:=Rj _ G
 exists a.typeIs,ZI _ _
 unfold Sg.«dict.__init__»
 refine QN ?_
 unfold YH
 refine QN (wpAny_notOrdered_dict a.typeIs ?_)
 show QM _ _ (pure (s.heap.objs.size,[Rf l])) _ _ _
 refine Q8 ?_
 show QM _ _ (Wa "dict.__init__" s.heap.objs.size (.ref l) [] .none) _ _ _
 unfold Wa
 refine QN (VE (T:="list") ⟨_,d,rfl⟩ ?_)
 rw[if_pos "^"]
 refine QN (F4 d rfl rfl rfl N fun x U y=>?_)
 simp only[ZT,if_true]
 refine QN (wpAny_rule ?_)
 have B:x.IsList l (ts.map Rf).toArray:=⟨_,y _ _ d,rfl,m,rfl⟩
 refine QN (Vi B ?_)
 have c:s.heap.objs.size<x.objs.size:=by
  obtain⟨o,_,_,I,_⟩:=a
  exact Rc (y _ _ I)
 have C:l<x.objs.size:=Rc (y _ _ d)
 have J:l<s.heap.objs.size:=Rc G
 have k:∀b o,s.heap.get? b=ψ o->(x.push {cls:=.type "list_iterator",data:=.fields #[.ref l,.int 0 0]}).get? b=ψ o:=fun b o e=>Rj _ (y _ _ (Rj _ e))
 have n:(ts.map Rf).toArray.size=vs.length:=by simp[f]
 have D:∀t∈ts,t<s.heap.objs.size:=fun t F=>by
  obtain⟨j,V,e⟩:=Sa F
  obtain⟨o,_,_,L,_⟩:=O j t vs[j] (by rw[QZ V,e]) (QZ "`")
  exact Rc L
 refine Q8 ⟨plainId_quiet dO _,?_⟩
 refine C0 (knd:=knd) ((YE (A:=A.in1.in1) N x.objs.size l (Rn C) (ts.map Rf).toArray).toS) s.heap.objs.size (by simp only[QW,RM,or_false,not_or];exact⟨Rn c,Sf J⟩)
  vs ts .none n.symm (by rw[n,f]) (fun i v q=>?_) (fun t F=>⟨Rn (D t F),fun z=>?_⟩) (by rw[n];exact hn) R _ 0 _ rfl (RL _) ⟨⟨_,Rt _ rfl,rfl,rfl⟩,B.push _⟩ (fun j t p W X=>?_) ?_ fun P hm Y=>?_
 .have q:(ts.map Rf).toArray[i]?=ψ v:=q
  rw[List.getElem?_toArray,RU]at q
  cases e:ts[i]? with
  |none=>rw[e]at q;cases q
  |some t=>rw[e]at q;exact⟨t,rfl,(RE q).symm⟩
 .rw[Rv.mp z]at F
  exact Z0 c (D _ F)
 .obtain⟨o,M,Z,L,h3⟩:=O j t p W X
  exact⟨o,M,Z,k _ _ L,h3⟩
 .obtain⟨o,es,ep,I,r⟩:=a
  exact⟨o,es,ep,Rj _ (y _ _ I),r⟩
 .rw[Moved.eq_with hm]
  refine⟨rfl,h P.heap P.toks (fun b o e=>hm.heap b o (fun z=>?_) (k b o e)) Y⟩
  have H:=Rc e
  rcases QW.mp z with z|z
  .rw[z]at H;exact Sn _ H
  .rw[Rv.mp z]at H;exact Z0 c H
end
noncomputable def IK(K:QK):⇑V->Hp->VK->Prop:=fun xs H Q=>∃(l:QI)(ts:⇑QI)(kvs:⇑(Key×V)),xs=[.ref l]/\H l=ψ (.lst (ts.map V.ref))/\Q4 (fun (p:Key×V) t=>d5 K H t [kV p.1,p.2]) kvs ts/\(kvs.map (·.1)).Nodup/\kvs.length<=1000/\
 ∀d,H d=χ->Q (.ref d) (upd H d (.dK kvs))
section
variable {X:Cx}
theorem Ee:∀{ts:⇑QI}{its:⇑QJ},bA (ts.map V.ref) its->its=ts.map Rf
 |[],_,.nil=>rfl
 |t::ts,_,.cons h r=>by
  cases(show _=Rf t from h)
  rw[Ee r];rfl
theorem CO(N:X.calm=ω):eB X (.type "dict") (IK X.K):=by
 intro G s σ H xs us Q I r h
 obtain⟨l,ts,kvs,rfl,J,g,L,hn,q⟩:=h
 obtain⟨u,rfl,O⟩:=vals1 r
 cases O
 obtain⟨z,i,m,k,P⟩:=(show cg X.prog X.w H s.heap l (.lst (ts.map V.ref))from I.hok l _ J)
 have R:=Ee k
 subst R
 have v:kvs.length=ts.length:=Ro g
 have M:∀(f:⇑(Key×V))(bs:⇑QI),Q4 (fun (p:Key×V) t=>d5 X.K H t [kV p.1,p.2]) f bs->∃b:⇑(Key×QJ),KV f b/\∀(j:Nat)(t:QI)(p:Key×QJ),bs[j]?=ψ t->b[j]?=ψ p->tZ (aN X.prog X.w) s.heap t p:=by
  intro f bs y
  induction y with
  |nil=>exact⟨[],.nil,fun j t p e=>by simp at e⟩
  |@cons p t f bs S _ A=>
   obtain⟨b,T,U⟩:=A
   obtain⟨i,k,⟨o,W,Y,n,Z⟩,_⟩:=I.tuple S
   cases k with
   |@cons _ B _ _ rk C=>
   cases C with
   |@cons _ x _ _ rx C=>
   cases C
   refine⟨(p.1,x)::b,.cons ⟨rfl,rx⟩ T,fun j t' p' D E=>?_⟩
   cases j with
   |zero=>
    simp at D E
    subst D;subst E
    exact⟨o,B,n,W,Y,Z,sF rk⟩
   |succ j=>exact U j t' p' (by simpa using D) (by simpa using E)
 obtain⟨b,c,d⟩:=M kvs ts g
 have F:kvs.length=b.length:=Ro c
 have ek:b.map (·.1)=kvs.map (·.1):=by
  clear d F M g q L hn v J
  induction c with
  |nil=>rfl
  |cons h _ A=>rw[Rk,Rk,A,h.1]
 refine tj (knd:=aN X.prog X.w) (I.ok.hd N) ⟨m,P⟩ "`" d (by rw[ek];exact L) "`" fun h' tk k' dd=>?_
 refine⟨.ref s.heap.objs.size,_,I.laid (t':=tk) (a:=s.heap.objs.size) (o:=.dK kvs) k' (Q2 _) (vE (QV hn "^") (beq_eq_false_iff_ne.mpr (Rb (Rn I.big))) c dd),rfl,q _ (I.hok.fresh (Q2 _))⟩
end
section
variable {X:Cx}{pins pins0:⇑(QI×QP)}{σ σ0:⇑(Option V)}{H H0:Hp}{s s0:QL}{d:QI}{u u' u0:HO}{o:QP}
theorem Inv.retag(I:Inv X pins σ H s)(hd:H d=ψ u)(h1:∀a,u≠.own a)(j:∀xs,u≠.tup xs)(k:∀xs,X.H₀ d≠some (.tup xs))(l:∀o v,X.H₀ d≠some (.frz o v))(m:∀ps,X.H₀ d≠some (.tbl ps))
  (new:cg X.prog X.w (upd H d u') s.heap d u'):Inv X pins σ (upd H d u') s:=by
 have ne:∀{b:QI},H b=χ->b≠d:=fun h z=>by rw[z,hd]at h;cases h
 refine⟨I.ok,I.os,I.bare,⟨I.base.keep,I.base.slot,fun b ob q n r=>?_,I.base.there,fun b xs q=>?_,fun b ob w q=>?_,fun b ps q=>?_⟩,I.loc,I.cell,?_,fun x c e=>?_,fun p hp=>?_,fun b w q=>?_,I.len⟩
 .have:=I.base.free b ob q n r
  rw[aj (ne this)];exact this
 .rw[aj (fun z=>k xs (by rw[<-z];exact q))];exact I.base.tups b xs q
 .rw[aj (fun z=>l ob w (by rw[<-z];exact q))];exact I.base.frzs b ob w q
 .rw[aj (fun z=>m ps (by rw[<-z];exact q))];exact I.base.tbls b ps q
 .rw[aj (ne I.free)];exact I.free
 .rw[aj (ne (I.freeC x c e))];exact I.freeC x c e
 .obtain⟨t,g,y⟩:=I.pin p hp
  exact⟨t,by rw[aj (ne g)];exact g,y⟩
 .by_cases i:b=d
  .subst i
   rw[ak]at q
   cases q
   exact new
  .rw[aj i]at q
   refine(I.hok b w q).stay (fun c v _ f=>f) (fun c f=>?_) fun c xs f=>?_
   .rw[aj (fun z=>by rw[z,hd]at f;exact h1 b (RE f))];exact f
   .rw[aj (fun z=>by rw[z,hd]at f;exact j xs (RE f))];exact f
theorem Inv.base_dK{kvs:⇑(Key×V)}(I:Inv X pins σ H s)(hd:H d=ψ (.dK kvs)):(∀xs,X.H₀ d≠some (.tup xs))/\(∀o v,X.H₀ d≠some (.frz o v))/\∀ps,X.H₀ d≠some (.tbl ps):=by
 refine⟨fun xs z=>?_,fun o v z=>?_,fun ps z=>?_⟩
 .have:=I.base.tups d xs z;rw[hd]at this;cases this
 .have:=I.base.frzs d o v z;rw[hd]at this;cases this
 .obtain⟨m,this⟩:=I.base.tbls d ps z;rw[hd]at this;cases this
theorem Inv.freeze{kvs:⇑(Key×V)}(I:Inv X pins σ H s)(hd:H d=ψ (.dK kvs))(b:s.heap.get? d=ψ o):Inv X pins σ (upd H d (.frz o (.dK kvs))) s:=by
 obtain⟨c,e,f⟩:=I.base_dK hd
 exact I.retag hd (fun a z=>nomatch z) (fun xs z=>nomatch z) c e f ⟨b,(show cg X.prog X.w H s.heap d (.dK kvs)from I.hok d _ hd)⟩
theorem Inv.thaw{kvs b:⇑(Key×V)}(I0:Inv X pins0 σ0 H0 s0)(h0:H0 d=ψ (.dK b))(I:Inv X pins σ H s)(hd:H d=ψ (.frz o (.dK kvs))):Inv X pins σ (upd H d (.dK kvs)) s:=by
 obtain⟨c,e,f⟩:=I0.base_dK h0
 exact I.retag hd (fun a z=>nomatch z) (fun xs z=>nomatch z) c e f (show cg X.prog X.w H s.heap d (.frz o (.dK kvs))from I.hok d _ hd).2
end
noncomputable def PK(d:QI)(o:QP)(kvs:⇑(Key×V)):It:=
 ⟨fun i H=>H d=ψ (.frz o (.dK kvs))/\i<kvs.length,fun i H x a=>∃T p,x=.ref T/\H T=χ/\kvs[i]?=ψ p/\a=upd H T (.tup [kV p.1,p.2]),fun i H=>H d=ψ (.frz o (.dK kvs))/\kvs.length<=i⟩
theorem iG{X:Cx}{a:⇑(QI×QP)}{h:⇑(Option V)}{H:Hp}{s:QL}{d:QI}{o:QP}{kvs:⇑(Key×V)}{es:Array SN}{ep:Nat}(I:Inv X a h H s)(hd:H d=ψ (.frz o (.dK kvs)))(c:o.data=.dict es ep):
  ∃vs,KV kvs vs/\s.heap.DictAt (aN X.prog X.w) d vs ep:=by
 obtain⟨e,_,_,vs,b,m,i,j,f,k,g,l⟩:=(show cg X.prog X.w H s.heap d (.frz o (.dK kvs))from I.hok d _ hd)
 rw[e]at f
 cases f
 rw[c]at g
 cases g
 exact⟨vs,b,o,es,e,k,c,l⟩
theorem DY{P:Q0}{w:QX}{K:QK}{F:⇑QQ}{x1}{S:Q9}(d it:QI)(o:QP)(es:Array SN)(ep:Nat)(M:o.data=.dict es ep)(kvs:⇑(Key×V))(η:d≠it):
  Turn P w K (.Tuple F x1 S) (PK d o kvs) [it] it (fun i h=>∃ok u,IsItemIter h it d i kvs.length ep ok u) where
 mem:=⋯
 obj:=fun i h st b e=>by
  obtain⟨ok,u,he⟩:=st
  have z:b=it:=by simpa using e
  subst z
  exact⟨_,he,fun v z=>by
   have z':UW _=Ud v:=z
   cases z'⟩
 keep:=fun i h T st k=>by
  obtain⟨ok,u,he⟩:=st
  exact⟨ok,u,k it ⋯ _ he⟩
 item:=by
  intro X U hw W N i t s σ H E I Y st Z
  subst U hw W
  obtain⟨ok,u,he⟩:=st
  obtain⟨hd,hi⟩:=Z
  obtain⟨g,j,x⟩:=iG I hd M
  have f:kvs.length=g.length:=Ro j
  obtain⟨O,g1,g2,g3,g4,g5⟩:=Y it ⋯
  have C:H s.heap.objs.size=none:=I.fresh
  have G:g[i]?=ψ g[i]:=QZ "`"
  obtain⟨p,α,β,γ⟩:=mj j i _ G
  rw[f]at he
  refine wpAny_pyNext_items_item (k:=(g[i]).1) (v:=(g[i]).2) he x G fun y T J δ ht θ hk=>⟨_,rfl,?_⟩
  refine wpAny_letOwnedTupleGo_items δ fun R ε l=>?_
  have l:SG it T R:=l
  have L:it≠s.heap.objs.size:=Rn (Rc he)
  have a:∀b o,b≠it->s.heap.get? b=ψ o->R.get? b=ψ o:=fun b o h1 q=>l.extBut b o h1 (hk b o h1 q)
  have ζ:R.get? s.heap.objs.size=ψ {cls:=.type "tuple",data:=.seq #[y,(g[i]).2]}:=l.extBut _ _ (Rb L) ht
  have neT:∀b o,s.heap.get? b=ψ o->b≠s.heap.objs.size:=fun b o q=>Rn (Rc q)
  have nH:∀b D,H b=ψ D->b≠it:=fun b D q z=>by rw[z,O]at q;cases q
  have I2:Inv X t σ (upd H s.heap.objs.size (.tup [kV p.1,p.2])) {s with heap:=R,toks:=s.toks}:=by
   refine I.step (g':=s.gens) (d':=s.drawn) (t':=s.toks) (ch:=[it]) (fun b e=>?_) (fun b o _ _ e q _=>?_) (fun b o _ _ e q _=>?_) (fun b o _ q n=>?_) (fun b o e q=>?_)
    (fun b ys q=>?_) (fun b o D q=>?_) (fun b ps q=>?_) (fun m hm=>?_) (fun b D q=>?_) I.bare
   .have z:b=it:=by simpa using e
    subst z;exact⟨g3,g1,g4,g5⟩
   .exact a b o (fun z=>e (by simp[z])) q
   .exact⟨o.slots,a b o (fun z=>e (by simp[z])) q⟩
   .rw[aj (neT b o q)];exact n
   .exact⟨o,a b o (fun z=>e (by simp[z])) q⟩
   .rw[aj (aP q C)];exact q
   .rw[aj (aP q C)];exact q
   .exact⟨#[],by rw[aj (aP q C),q];simp⟩
   .obtain⟨o,es,ep,M,r⟩:=hm
    exact⟨o,es,ep,a _ o (Rb g1) M,r⟩
   .by_cases e:b=s.heap.objs.size
    .subst e
     rw[ak]at q
     cases q
     exact⟨by show 2<=QT;decide,[y,(g[i]).2],.cons (by rw[β];exact vJ J) (.cons γ .nil),_,ζ,rfl,_,rfl⟩
    .rw[aj e]at q
     refine(I.hok b D q).stay (fun c v N B=>a c v ?_ B) (fun c B=>?_) fun c ys B=>?_
     .rcases N with z|z
      .rw[z];exact nH b D q
      .exact nH c _ z
     .rw[aj (aP B C)];exact B
     .rw[aj (aP B C)];exact B
  refine⟨.ref s.heap.objs.size,_,I2,rfl,⟨s.heap.objs.size,p,rfl,C,α,rfl⟩,⟨y,(g[i]).2,?_⟩,fun b e=>?_⟩
  .rw[f];exact ε
  .have z:b=it:=by simpa using e
   rw[z,aj L];exact O
 done:=by
  intro X U hw W N i t s σ H E I Y st Z
  subst U hw W
  obtain⟨ok,u,he⟩:=st
  obtain⟨hd,hi⟩:=Z
  obtain⟨g,j,x⟩:=iG I hd M
  have f:kvs.length=g.length:=Ro j
  obtain⟨O,g1,g2,g3,g4,g5⟩:=Y it ⋯
  rw[f]at he
  refine wpAny_pyNext_items_end (I.ok.hd N) he x (Tp "`") fun T eb=>⟨rfl,I.turned (t':=s.toks) (fun b o e e'=>eb b o e e') O g1 g3 g4 g5⟩
 self:=fun A i s Q E st h=>by
  obtain⟨ok,u,he⟩:=st
  have hT:s.TypeIs (.ref it) "dict_itemiterator":=⟨_,he,rfl⟩
  refine wpAny_pyIter_slot hT Yn (Up Yn hT kcp_entry ?_ (aaa _))
  show QM _ _ (ret (.ref it)) _ _ s
  exact Q8 ⟨_,rfl,"dict_itemiterator",_,hT,ab7.lookup,h⟩
section
variable {X:Cx}
def wu(b:TE):TI:=fun c H R=>b c H fun x a=>∃(d:QI)(kvs:⇑(Key×V)),x=.ref d/\a d=ψ (.dK kvs)/\∀(o:QP)(v:QI),a v=χ->v≠d->R (PK d o kvs) (upd (upd a v (yx v d)) d (.frz o (.dK kvs)))
theorem GO{e:QQ}{J:TE}{n:⇑QQ}{O}{apos g pt:Q9}(he:PE X e J)
  (l:TQ e "items" X.env (eval e X.env)=eval e X.env:=by rfl) (m:(apos.endLine==g.line)=ω:=by rfl):
  PI X (.Tuple n O pt) (.Call (.Attribute e "items" apos) [] [] g) (wu J):=by
 intro i s K H R I h
 refine wpAny_Call_method0_late l m (cf (he i s K H _ I h) fun v c ⟨x,A,I1,P,d,kvs,Q,hd,S⟩=>?_)
 subst Q
 cases(show v=Rf d from P)
 obtain⟨z,B,C,D,p⟩:=fw I1.hok (.inl hd)
 have q:kvs.length=C.length:=Ro D
 have L:∀a,Rf d=.ref a->∃M,c.heap.get? a=ψ M/\M.dict=none:=fun a e=>by
  cases e
  obtain⟨o,_,_,t,hex,_⟩:=id p
  exact⟨o,t,hex.2.1⟩
 refine⟨"dict","dict.items",V4,XQ,aat,p.typeIs,L,UX rfl (WV ?_)⟩
 refine U3 XQ p.typeIs abl (aai _) (meets_dict_items (aN X.prog X.w) d B) ⟨⟨C,p⟩,?_⟩
 have T:A c.heap.objs.size=none:=I1.hok.fresh (Q2 _)
 have f:d<c.heap.objs.size:=I1.hok.lt hd
 have IV:Inv X i K (upd A c.heap.objs.size (yx c.heap.objs.size d)) {c with heap:=c.heap.push {cls:=.type "dict_items",data:=.fields #[.ref d]},toks:=c.toks}:=
  I1.laid (t':=c.toks) (fun b u e=>Rj _ e) (Q2 _) ⟨⟨_,Rt _ rfl,rfl,rfl⟩,⟨_,Rt _ rfl⟩,fun W L x k=>by
   obtain⟨o,t,r⟩:=x
   exact⟨o,k o t,r⟩⟩
 have E:upd A c.heap.objs.size (yx c.heap.objs.size d) d=ψ (.dK kvs):=by rw[aj (Rn f)];exact hd
 obtain⟨o,es,N,t,hex,j,r⟩:=id p
 have y:(c.heap.push {cls:=.type "dict_items",data:=.fields #[.ref d]}).get? d=ψ o:=Rj _ t
 have IF:=IV.freeze E y
 have F:(c.heap.push {cls:=.type "dict_items",data:=.fields #[.ref d]}).DictAt (aN X.prog X.w) d C N:=⟨o,es,y,hex,j,r⟩
 show QM _ _ (pyIter (.ref c.heap.objs.size)) _ _ _
 refine wpAny_pyIter_items (knd:=aN X.prog X.w) (d:=d) ⟨_,Rt _ rfl,rfl,rfl⟩ F ?_
 have G:c.heap.objs.size<(c.heap.push {cls:=.type "dict_items",data:=.fields #[.ref d]}).objs.size:=by rw[Sh];exact VW _
 refine⟨_,[_],_,PK d o kvs,_,rfl,IF.kept (t':=c.toks) (fun b u e=>Rj _ e),DY d _ o es N j kvs (Rn (Uy f G)),⟨.none,.none,?_⟩,fun b U=>?_,S o _ T (Sf f)⟩
 .rw[q]
  exact Rt _ rfl
 .have V:b=(c.heap.push {cls:=.type "dict_items",data:=.fields #[.ref d]}).objs.size:=by simpa using U
  subst V
  exact IF.fpOk (Q2 _) (IF.hok.fresh (Q2 _))
def fQ(c:TE):TE:=fun e H Q=>∃(d:QI)(a:⇑(Key×V)),H d=ψ (.dK a)/\c e H fun v b=>∃o kvs,b d=ψ (.frz o (.dK kvs))/\Q v (upd b d (.dK kvs))
theorem Kb{e:QQ}{b:TE}(he:PE X e b):PE X e (fQ b):=by
 intro a s f H Q I h
 obtain⟨d,c,hd,q⟩:=h
 refine cf (he a s f H _ I q) fun v k ⟨x,l,I1,g,o,kvs,i,j⟩=>?_
 exact⟨x,_,Inv.thaw I hd I1 i,g,j⟩
end
section
variable {X:Cx}
def Pn(t:TE):TT:=fun c H Q=>t c H fun x b=>∃a kvs,x=.ref a/\b a=ψ (.dK kvs)/\Q (!kvs.isEmpty) b
theorem Nq{e:QQ}{t:TE}(h:PE X e t)(he:∀b,isTrue e X.env b=(do let v <-b;standAt e.pos;holding [v] (truthy v)):=by intro _;rfl):PT X e (Pn t):=by
 intro c s d H Q I hw
 refine isTrue_plain (cf (h c s d H _ I hw) fun v j ⟨x,f,I1,g,i⟩=>?_) (he _)
 obtain⟨a,kvs,rfl,hd,q⟩:=i
 cases g
 exact Ky I1 (.inl hd) fun k I'=>⟨f,I',q⟩
def ur:⇑V->Hp->VK->Prop:=fun xs H Q=>∃a kvs,xs=[V.ref a]/\H a=ψ (.dK kvs)/\Q (.int kvs.length) H
theorem CN:eB X (.builtin "len") ur:=Gb
end
section
variable {K:QK}{σ:St}{H:Hp}{Q:VK}{D:Ends}{R:Hp->Prop}{ta td ty tv:TE}{t:TA}{f m n:QH}{sp:Sp}{E:XK}{C c d dx:QI}{fs:⇑(QH×V)}{v y:V}{kvs:⇑(Key×V)}
def OJ(K:QK)(f:QH)(Q:VK):VK:=fun x b=>∃a C dx fs v,x=.ref a/\b a=ψ (.ins C dx fs)/\fR K C/\cF K C f/\fs.lookup f=ψ v/\Q v b
theorem Pu(h:ta σ H (OJ K f Q)):cz K ta f σ H Q:=h
theorem bJ(h:H c=ψ (.ins C dx fs))(cl:fR K C)(a:cF K C f)(l:fs.lookup f=ψ v)(q:Q v H):OJ K f Q (.ref c) H:=⟨c,C,dx,fs,v,rfl,h,cl,a,l,q⟩
def O5(K:QK)(f:QH)(y:V)(R:Hp->Prop):VK:=fun x b=>∃a C dx fs,x=.ref a/\b a=ψ (.ins C dx fs)/\fR K C/\cF K C f/\fs.length<1000/\R (upd b a (.ins C dx (bP f y fs)))
theorem NG(h:tv σ H fun y a=>ta σ a (O5 K f y (D.nx σ))):o5 K ta tv f D σ H:=h
theorem jZ(h:H c=ψ (.ins C dx fs))(cl:fR K C)(a:cF K C f)(l:fs.length<1000)(q:R (upd H c (.ins C dx (bP f y fs)))):O5 K f y R (.ref c) H:=⟨c,C,dx,fs,rfl,h,cl,a,l,q⟩
noncomputable def Pc(K:QK)(f:QH)(tv:TE)(g:V->V->Hp->VK->Prop)(σ:St)(R:Hp->Prop):VK:=fun x d=>∃a C dx fs v,x=.ref a/\d a=ψ (.ins C dx fs)/\fR K C/\cF K C f/\fs.lookup f=ψ v/\
 tv σ d fun y h=>g v y h fun z e=>∃c b,e a=ψ (.ins C c b)/\b.length<1000/\R (upd e a (.ins C c (bP f z b)))
theorem MD{a:V->V->Hp->VK->Prop}(h:ta σ H (Pc K f tv a σ (D.nx σ))):ia K ta tv a f D σ H:=h
theorem yR{d:V->V->Hp->VK->Prop}(h:H c=ψ (.ins C dx fs))(cl:fR K C)(g:cF K C f)(l:fs.lookup f=ψ v)
  (q:tv σ H fun y i=>d v y i fun z e=>∃b a,e c=ψ (.ins C b a)/\a.length<1000/\R (upd e c (.ins C b (bP f z a)))):Pc K f tv d σ R (.ref c) H:=⟨c,C,dx,fs,v,rfl,h,cl,g,l,q⟩
def Ki(C:QI)(m:QH)(sp:Sp)(E:XK)(t:TA)(σ:St)(Q:VK):VK:=fun x b=>∃a dx fs,x=.ref a/\b a=ψ (.ins C dx fs)/\fs.lookup m=χ/\t σ b fun c d=>sp (x::c) d Q E
theorem L7(h:ta σ H (Ki C m sp E t σ Q)):bH C m sp [] E ta t σ H Q:=by
 have e:(fun x b=>∃a dx fs,x=V.ref a/\b a=ψ (HO.ins C dx fs)/\fs.lookup m=χ/\t σ b fun c d=>sp (x::(c++[])) d Q E)=Ki C m sp E t σ Q:=by
  unfold Ki
  simp only[UP]
 show ta σ H (fun x b=>∃a dx fs,x=V.ref a/\b a=ψ (HO.ins C dx fs)/\fs.lookup m=χ/\t σ b fun c d=>sp (x::(c++[])) d Q E)
 rw[e]
 exact h
theorem bC(h:H c=ψ (.ins C dx fs))(l:fs.lookup m=χ)(q:t σ H fun vs a=>sp (.ref c::vs) a Q E):Ki C m sp E t σ Q (.ref c) H:=⟨c,dx,fs,rfl,h,l,q⟩
theorem HR(h:∀x dx,H x=χ->H dx=χ->dx≠x->sp [.ref x] (upd (upd H dx (.own x)) x (.ins C dx [])) (fun v a=>v=.non/\Q (.ref x) a) E):Cz C sp [] E ao σ H Q:=h
def Qu(Q:VK)(x y:V)(H:Hp):Prop:=∃a v,x=.ref a/\oE H a y (ψ v)/\Q v H
theorem LY(h:td σ H fun x a=>ty σ a fun y b=>Qu Q x y b):sy td ty σ H Q:=h
theorem wK(h:H d=ψ (.dK kvs))(l:fj kvs (.inr n)=ψ v)(q:Q v H):Qu Q (.ref d) (.str n) H:=⟨d,v,rfl,by rw[<-l];exact oE.k (k:=.inr n) h,q⟩
def Qs(v:V)(R:Hp->Prop)(x y:V)(H:Hp):Prop:=∃a b,x=.ref a/\Gu H a y v b/\R b
theorem Me(h:tv σ H fun v a=>td σ a fun x b=>ty σ b fun y c=>Qs v (D.nx σ) x y c):vk td ty tv D σ H:=h
theorem zD(h:H d=ψ (.dK kvs))(l:kvs.length<QT)(q:R (upd H d (.dK (putK kvs (.inr n) v)))):Qs v R (.ref d) (.str n) H:=⟨d,_,rfl,Gu.k (k:=.inr n) h l,q⟩
def NJ(Q:VK)(b:Bool)(y x:V)(H:Hp):Prop:=∃a o,x=.ref a/\oE H a y o/\Q (.bl (o.isSome != b)) H
theorem Oq(h:ty σ H fun y c=>td σ c fun x b=>NJ Q false y x b):M0 ty td σ H Q:=by
 have e:(fun y c=>td σ c fun x b=>NJ Q false y x b)=fun y c=>td σ c fun x b=>∃a o,x=.ref a/\oE b a y o/\Q (.bl o.isSome) b:=by
  unfold NJ
  simp only[UG]
 rw[e]at h
 exact h
theorem Mt(h:ty σ H fun y c=>td σ c fun x b=>NJ Q true y x b):uk ty td σ H Q:=by
 have e:(fun y c=>td σ c fun x b=>NJ Q true y x b)=fun y c=>td σ c fun x b=>∃a o,x=.ref a/\oE b a y o/\Q (.bl (!o.isSome)) b:=by
  unfold NJ
  simp only[TM]
 rw[e]at h
 exact h
theorem Ek{a:Bool}(h:H d=ψ (.dK kvs))(q:Q (.bl ((fj kvs (.inr n)).isSome != a)) H):NJ Q a (.str n) (.ref d) H:=⟨d,_,rfl,oE.k (k:=.inr n) h,q⟩
def Qi(ty:TE)(σ:St)(Q:VK):VK:=fun x b=>∃a,x=.ref a/\Qp b a/\ty σ b fun y c=>∃kvs k v,c a=ψ (.dK kvs)/\y=kV k/\fj kvs k=ψ v/\Q v (upd c a (.dK (qH kvs k)))
theorem ON(h:td σ H (Qi ty σ Q)):zj td ty σ H Q:=h
theorem O9{R:Bool->Hp->Prop}(h:td σ H fun x b=>∃a kvs,x=.ref a/\b a=ψ (.dK kvs)/\R (!kvs.isEmpty) b):Pn td σ H R:=h
theorem wm(h:H d=ψ (.dK kvs))(q:Q (.int kvs.length) H):ur [.ref d] H Q:=⟨d,kvs,rfl,h,q⟩
theorem Dy(h:∀p a,H p=χ->ah H a->a p=ψ (.dK [])->Q (.ref p) a):uQ σ H Q:=fun p b=>h p _ b (ah.updN b) ak
theorem MZ{b:Bool}{z:QH}{nm:String}(e:U0 K (.type "str") (.type nm)=ψ b)(h:Q (.bl b) H):OC K [.str z,.ty nm] H Q:=⟨_,_,_,b,rfl,.str z,e,h⟩
end
theorem Mo{K:QK}:U0 K (.type "str") (.type "str")=ψ true:=by rfl
theorem dZ{α a b:Type}{F:a->b->Prop}{f:α->a}:∀{xs:⇑α}{ys:⇑b},Q4 (fun x y=>F (f x) y) xs ys->Q4 F (xs.map f) ys
 |_,_,.nil=>.nil
 |_,_,.cons h t=>.cons h (dZ t)
theorem d9{α f:Type}{F:α->f->Prop}:∀{c:⇑α}{d:⇑f}{i:Nat}{a:α},Q4 F c d->c[i]?=ψ a->∃b,d[i]?=ψ b/\F a b
 |_,_,_,_,.nil,e=>by simp at e
 |_,_,0,_,.cons r _,e=>by simp at e;subst e;exact⟨_,rfl,r⟩
 |_,_,i+1,x,.cons _ t,e=>by
  obtain⟨u,g,h⟩:=d9 (i:=i) (a:=x) t (by simpa using e)
  exact⟨u,by simpa using g,h⟩
section
variable {mp:⇑(Option Nat)}{g:TG}{tt:TT}{te:TE}{J:It}{P:Hp->Prop}{n:Nat}{f:Nat->St->St}{σ:St}{H:Hp}{Q:VK}
theorem lD(Y:Ys J g P n f)(st:Nat->St)(t:∀i d,(d=cE mp σ\/∃j,d=st j)->f i d=st i)(u:∀H',ah H H'->P H')(hz:n<=QT)(b:Nat->Bool)(row:Nat->⇑V)
  (w:∀i,i<n->∀(H':Hp)(G:Bool->Hp->Prop),ah H H'->(∀c,ah H' c->G (b i) c)->tt (st i) H' G)
  (he:∀i,i<n->b i=ω->∀(H':Hp)(G:VK),ah H H'->(∀a c,H' a=χ->ah H' c->c a=ψ (.tup (row i))->G (.ref a) c)->te (st i) H' G)
  (hd:∀l bs H',H l=χ->ah H H'->H' l=ψ (.lst (bs.map V.ref))->Q4 (fun i a=>H' a=ψ (.tup (row i))) ((Q1 n).filter b) bs->Q (.ref l) H'):cL mp g tt te J σ H Q:=by
 refine eR Y st t u hz b (fun l i v H'=>∃a,v=.ref a/\a≠l/\H' a=ψ (.tup (row i))) (fun l i v B C s ⟨a,e,p,h⟩=>⟨a,e,p,s a _ p h⟩) w
  (fun l i hi x H' G p ⟨o,y⟩ s k=>he i hi x H' G s fun a c m z h=>k _ c ⟨a,rfl,(fun e=>by rw[e,y]at m;cases m),h⟩ z) fun l ys H' m s h A=>?_
 obtain⟨bs,rfl,r⟩:=hZ (T:=fun a i=>a≠l/\H' a=ψ (.tup (row i))) A
 exact hd l bs H' m s h (Paired.mapP r fun _ _ q=>q.2)
end
theorem BI{K:QK}{d:QI}{o:QP}{kvs:⇑(Key×V)}(p r:Nat)(u v:Nat->V)(b:∀i q,kvs[i]?=ψ q->kV q.1=u i/\q.2=v i):
  Ys (PK d o kvs) (dN K 2 (aR (af p) (aR (af r) dJ))) (fun H=>H d=ψ (.frz o (.dK kvs))) kvs.length (fun i a=>(a.set p (ψ (u i))).set r (ψ (v i))) where
 go:=fun i H hi h=>⟨h,hi⟩
 stop:=fun H h=>⟨h,Q2 _⟩
 yld:=fun i H x g a Q hi h y q=>by
  obtain⟨T,w,rfl,c,hw,rfl⟩:=y
  obtain⟨e,f⟩:=b i w hw
  exists T,_,rfl,d5.of ak,rfl,_,_,rfl,_,_,rfl,rfl
  have:=q _ (ah.updN c (o:=.tup [kV w.1,w.2]))
  rw[<-e,<-f]at this
  exact this
section
variable {K:QK}{mp:⇑(Option Nat)}{te td:TE}{σ:St}{H:Hp}{Q:VK}{d:QI}{kvs:⇑(Key×V)}
theorem DE(m:∀k:VK,k (.ref d) H->td σ H k)(hd:H d=ψ (.dK kvs))(hz:kvs.length<=QT)(u v:Nat->V)(A:∀i q,kvs[i]?=ψ q->kV q.1=u i/\q.2=v i)
  (st:Nat->St) (B:∀i c,(c=cE mp σ\/∃j,c=st j)->(c.set 0 (ψ (u i))).set 1 (ψ (v i))=st i) (row:Nat->⇑V)
  (he:∀i,i<kvs.length->∀(H':Hp)(G:VK),(∀a f,H' a=χ->ah H' f->f a=ψ (.tup (row i))->G (.ref a) f)->te (st i) H' G)
  (C:∀l bs h,H l=χ->ah H h->h l=ψ (.lst (bs.map V.ref))->Q4 (fun i a=>h a=ψ (.tup (row i))) (Q1 kvs.length) bs->Q (.ref l) h):
  fQ (bp mp (wu td) (dN K 2 (aR (af 0) (aR (af 1) dJ))) cM te) σ H Q:=by
 exists d,kvs,hd
 refine ke ?_
 refine m _ ⟨d,kvs,rfl,hd,fun o w hw D=>?_⟩
 have n:∀a,upd (upd H w (yx w d)) d (.frz o (.dK kvs)) a=χ->H a=none:=fun a ha=>by
  by_cases b:a=d
  .subst b;rw[ak]at ha;cases ha
  .rw[aj b]at ha
   by_cases y:a=w
   .subst y;exact hw
   .rwa [aj y]at ha
 refine lD (BI 0 1 u v A) st B (fun H' s=>s _ _ ak) hz (fun _=>true) row (fun i hi H' G s k=>k H' (ah.refl _)) (fun i hi _ H' G _ k=>he i hi H' G k) fun l bs H' p s b z=>?_
 rw[Sd.mpr (fun _ _=>rfl)]at z
 have g:H' d=ψ (.frz o (.dK kvs)):=s _ _ ak
 have r:l≠d:=fun e=>by rw[e,ak]at p;cases p
 refine⟨o,kvs,g,C l bs _ (n l p) (fun a x ha=>?_) (by rw[aj r];exact b) (Paired.mapP z fun i a q=>?_)⟩
 .by_cases b:a=d
  .subst b
   rw[ak,<-hd];exact ha
  .rw[aj b]
   have t:a≠w:=fun e=>by rw[e,hw]at ha;cases ha
   exact s _ _ (by rw[aj b,aj t];exact ha)
 .rw[aj (fun e=>by rw[e,g]at q;cases q)];exact q
end
def Oa(d:QI)(o:QP)(kvs:⇑(Key×V)):It:=
 ⟨fun i H=>H d=ψ (.frz o (.dK kvs))/\i<kvs.length,fun i H x a=>a=H/\∃p,kvs[i]?=ψ p/\x=kV p.1,fun i H=>H d=ψ (.frz o (.dK kvs))/\kvs.length<=i⟩
theorem F6{P:Q0}{w:QX}{K:QK}{U:QQ}(d it:QI)(o:QP)(es:Array SN)(ep:Nat)(R:o.data=.dict es ep)(kvs:⇑(Key×V)):
  Turn P w K U (Oa d o kvs) [it] it (fun i h=>h.IsKeyIter it d i kvs.length ep) where
 mem:=⋯
 obj:=fun i h st b m=>by
  have z:b=it:=by simpa using m
  subst z
  obtain⟨t,e,c,B⟩:=st
  exact⟨t,e,fun v z=>by rw[B]at z;cases z⟩
 keep:=fun i h y st k=>by
  obtain⟨t,e,r⟩:=st
  exact⟨t,k it ⋯ t e,r⟩
 item:=by
  intro X C hw D S i j s T H E I A st F
  subst C hw D
  obtain⟨hd,hi⟩:=F
  obtain⟨f,g,n⟩:=iG I hd R
  have a:kvs.length=f.length:=Ro g
  obtain⟨G,J,W,L,M,N⟩:=A it ⋯
  have u:f[i]?=ψ f[i]:=QZ "`"
  obtain⟨p,O,Q,Y⟩:=mj g i _ u
  have q:s.heap.IsKeyIter it d i f.length ep:=by rw[<-a];exact st
  refine wpAny_pyNext_dict_item (knd:=aN X.prog X.w) (k:=(f[i]).1) (v:=(f[i]).2) q n u fun Z y x l sb=>?_
  have I1:Inv X j T H {s with heap:=y,toks:=s.toks}:=I.turned (t':=s.toks) (fun b o m e=>(sb.2 b m).trans e) G J L M N
  obtain⟨t,e,c,B⟩:=id l
  refine⟨_,rfl,B5 (s:={s with heap:=y}) e c B "^" ⟨kV p.1,H,I1,by rw[Q];exact vJ x,⟨rfl,p,O,rfl⟩,by rw[a];exact l,fun b m=>(A b m).1⟩⟩
 done:=by
  intro X C hw D S i j s T H E I A st F
  subst C hw D
  obtain⟨hd,hi⟩:=F
  obtain⟨f,g,n⟩:=iG I hd R
  have a:kvs.length=f.length:=Ro g
  obtain⟨G,J,W,L,M,N⟩:=A it ⋯
  have q:s.heap.IsKeyIter it d i f.length ep:=by rw[<-a];exact st
  exact wpAny_pyNext_dict_end (knd:=aN X.prog X.w) (I.ok.hd S) q n (Tp "`") fun y eb=>⟨rfl,I.turned (t':=s.toks) (fun b o m e'=>eb b o m e') G J L M N⟩
 self:=fun _ _ _ _ _ st h=>wpAny_pyIter_keyiter st h
section
variable {X:Cx}{tg:QQ}
def Bp(b:TE):TI:=fun c H R=>b c H fun x a=>∃(d:QI)(kvs:⇑(Key×V)),x=.ref d/\a d=ψ (.dK kvs)/\∀(o:QP),R (Oa d o kvs) (upd a d (.frz o (.dK kvs)))
theorem Ju{l:QQ}{m:TE}(t:PE X l m):PI X tg l (Bp m):=by
 intro c s y H R I h
 refine cf (t c s y H _ I h) fun v g ⟨x,G,I1,A,d,kvs,B,hd,C⟩=>?_
 subst B
 cases(show v=Rf d from A)
 obtain⟨z,i,n,j,D⟩:=fw I1.hok (.inl hd)
 have f:kvs.length=n.length:=Ro j
 obtain⟨o,es,p,q,hex,a,r⟩:=id D
 have IF:=I1.freeze hd q
 have k:g.heap.DictAt (aN X.prog X.w) d n p:=⟨o,es,q,hex,a,r⟩
 refine U6 (knd:=aN X.prog X.w) i k ?_
 refine⟨_,[_],_,Oa d o kvs,_,rfl,IF.kept (t':=g.toks) (fun b u e=>Rj _ e),F6 d _ o es p a kvs,⟨_,Rt _ rfl,rfl,by rw[f];rfl⟩,fun b E=>?_,C o⟩
 have F:b=g.heap.objs.size:=by simpa using E
 subst F
 exact IF.fpOk (Q2 _) (IF.hok.fresh (Q2 _))
end
theorem Eo{d:QI}{o:QP}{kvs:⇑(Key×V)}(p:Nat)(u:Nat->V)(b:∀i q,kvs[i]?=ψ q->kV q.1=u i):
  Ys (Oa d o kvs) (af p) (fun H=>H d=ψ (.frz o (.dK kvs))) kvs.length (fun i a=>a.set p (ψ (u i))) where
 go:=fun i H hi h=>⟨h,hi⟩
 stop:=fun H h=>⟨h,Q2 _⟩
 yld:=fun i H x f a Q hi h y q=>by
  obtain⟨e,w,hw,c⟩:=y
  subst e c
  rw[b i w hw]
  exact q _ (ah.refl _)
section
variable {K:QK}{mp:⇑(Option Nat)}{tt:TT}{te td:TE}{σ:St}{H:Hp}{Q:VK}{d:QI}{kvs:⇑(Key×V)}
theorem Ge(m:∀k:VK,k (.ref d) H->td σ H k)(hd:H d=ψ (.dK kvs))(hz:kvs.length<=QT)(u:Nat->V)(y:∀i q,kvs[i]?=ψ q->kV q.1=u i)
  (st:Nat->St) (z:∀i g,(g=cE mp σ\/∃j,g=st j)->g.set 0 (ψ (u i))=st i) (b:Nat->Bool) (F:Nat->V)
  (A:∀i,i<kvs.length->∀(H':Hp)(G:Bool->Hp->Prop),dS d H H'->(∀c,ah H' c->G (b i) c)->tt (st i) H' G)
  (he:∀i,i<kvs.length->b i=ω->∀(H':Hp)(G:VK),dS d H H'->(∀c,ah H' c->G (F i) c)->te (st i) H' G)
  (B:∀l n,H l=χ->ah H n->n l=ψ (.lst (((Q1 kvs.length).filter b).map F))->Q (.ref l) n):
  fQ (bp mp (Bp td) (af 0) tt te) σ H Q:=by
 exists d,kvs,hd
 refine ke ?_
 refine m _ ⟨d,kvs,rfl,hd,fun o=>?_⟩
 have p:∀a,upd H d (.frz o (.dK kvs)) a=χ->H a=none:=fun a ha=>by
  by_cases f:a=d
  .subst f;rw[ak]at ha;cases ha
  .rwa [aj f]at ha
 have r:∀H',ah (upd H d (.frz o (.dK kvs))) H'->dS d H H':=fun H' s a x ha h=>s _ _ (by rw[aj ha];exact h)
 refine cG (Eo 0 u y) st z (fun H' s=>s _ _ ak) hz b F (fun i hi H' G s k=>A i hi H' G (r H' s) k) (fun i hi C H' G s k=>he i hi C H' G (r H' s) k) fun l H' t s f=>?_
 have v:H' d=ψ (.frz o (.dK kvs)):=s _ _ ak
 have w:l≠d:=fun e=>by rw[e,ak]at t;cases t
 refine⟨o,kvs,v,B l _ (p l t) (fun a x ha=>?_) (by rw[aj w];exact f)⟩
 by_cases f:a=d
 .subst f
  rw[ak,<-hd];exact ha
 .rw[aj f]
  exact r H' s a x f ha
end
section
variable {X:Cx}
def Gi(K:QK)(a:Bool):R2:=fun x y H Q=>∃(ds:⇑Rp)(d:Rp),cV K H y (.list ds)/\cV K H x d/\cK 8 (.list ds)/\cK 8 d/\Q (.bl ((ds.any fun y=>same y d) != a)) H
theorem CF{ds:⇑Rp}{d:Rp}(b:cI ds=ω)(c:nice d=ω):(ds.any fun y=>U7 y d)=ds.any fun y=>same y d:=by
 induction ds with
 |nil=>rfl
 |cons a r e=>
  rw[cI,RI]at b
  rw[S4,S4,e b.2,SeqAt.same_eq_eqv a d (mh a d b.1 c)]
theorem zZ{ds:⇑Rp}(h:cK 8 (.list ds)):cI ds=ω/\Vy ds<=8:=by
 obtain⟨a,b⟩:=h
 rw[nice]at a
 rw[UE]at b
 exact⟨a,by omega⟩
theorem Md(m:X.A.units+64<cLine):fA X (Rz .In) (Gi X.K false):=by
 intro e s n H x y u v Q I g i h
 obtain⟨ds,d,j,k,l,c,q⟩:=h
 obtain⟨as,a⟩:=dv I j i
 obtain⟨bs,b⟩:=dv I k g
 obtain⟨f,o⟩:=zZ l
 refine SeqAt.in_list_reads a b (dQ ds f) (k8 d c.1) (by have:=c.2;omega) ?_
 rw[CF f c.1]
 rw[UG]at q
 exact⟨.bl _,H,I,rfl,q⟩
theorem Ke(m:X.A.units+64<cLine):fA X (Rz .NotIn) (Gi X.K true):=by
 intro e s n H x y u v Q I g i h
 obtain⟨ds,d,j,k,l,c,q⟩:=h
 obtain⟨as,a⟩:=dv I j i
 obtain⟨bs,b⟩:=dv I k g
 obtain⟨f,o⟩:=zZ l
 refine SeqAt.notIn_list_reads a b (dQ ds f) (k8 d c.1) (by have:=c.2;omega) ?_
 rw[CF f c.1]
 rw[TM]at q
 exact⟨.bl _,H,I,rfl,q⟩
end
end L2
namespace L2
open PySem PySem.Spec PyProof.Rows PySem.W PySem.SeqAt PySem.MeetsSeq
open PySem.AutoSeq1 (wpAny_loadPart')
theorem xg(l:QI)(items:Array QJ)(n:Nat)(x:QJ)(e:QJ->Bool)(j:Nat)(u:j<items.size)(q:e items[j]=ω)(k:Nat)(o:items.size<=QT):
  ∀i:Nat,j-i=k->i<=j->(∀m (hm:m<items.size),i<=m->m<j->e items[m]=ξ)->Meets (Sg.«list.remove.loop» ⟨[.ref l,x,RF i],[]⟩)
   (fun A R s=>s.heap.get? l=ψ {cls:=.type "list",dict:=χ,data:=.seq items n,slots:=#[]}/\(∀y,y∈items->EqAt A.in1 s y x (e y))/\R (.ok (.ret .none)) {s with heap:=s.heap.update l (Vj fun xs=>xs.eraseIdxIfInBounds j)}):=by
 induction k with
 |zero=>
  intro i v r b a w A R s h
  obtain⟨z,g,d,B,os⟩:=s;obtain⟨f,he,h⟩:=h
  have p:i=j:=by omega
  subst p
  wp_walk using wpAny_loadPart' f
  have hi:items[((i:Nat):Int).toNat]?=ψ items[i]:=by simp[u]
  rw[hi]
  refine QN (he _ (XH u) a w _ _ ?_)
  rw[q]
  have t:(items.eraseIdxIfInBounds i).size<=QT+1:=QV (size_erased items _) (Yr o)
  wp_walk using(wpAny_updateSeq f rfl (hz:=o) (_hz':=t)),wpAny_loadPart' f
  simpa using h
 |succ k C=>
  intro i v r b a w A R s h
  obtain⟨z,g,d,B,os⟩:=s;obtain⟨f,he,h⟩:=h
  have c:i<items.size:=by omega
  wp_walk using wpAny_loadPart' f
  have hi:items[((i:Nat):Int).toNat]?=ψ items[i]:=by simp[c]
  have D:((i:Int)+1)=((i+1:Nat):Int):=by push_cast;rfl
  rw[hi]
  refine QN (he _ (XH c) a w _ _ ?_)
  rw[b i c (Q2 _) "`"]
  wp_walk
  rw[D]
  exact⟨plainId_quiet plain_remove_loop _,codeAny_builtin entry_remove_loop (by
   rw[Um plain_remove_loop _]
   exact C (i+1) "`" "`" (fun m hm F E=>b m hm "`" E) a w A R _ ⟨f,he,h⟩)⟩
theorem xI(l:QI)(items:Array QJ)(n:Nat)(x:QJ)(e:QJ->Bool)(j:Nat)(k:j<items.size)(b:e items[j]=ω)(c:∀m (hm:m<items.size),m<j->e items[m]=ξ)(f:items.size<=QT):
  Meets (Sg.«list.remove» ⟨[.ref l,x],[]⟩)
   (fun A R s=>s.heap.get? l=ψ {cls:=.type "list",dict:=χ,data:=.seq items n,slots:=#[]}/\(∀y,y∈items->EqAt A.in1 s y x (e y))/\R (.ok (.ret .none)) {s with heap:=s.heap.update l (Vj fun xs=>xs.eraseIdxIfInBounds j)}):=by
 intro a w A R s h
 obtain⟨p,g,d,q,os⟩:=s;obtain⟨i,he,h⟩:=h
 wp_walk using wpAny_loadPart' i
 exact⟨plainId_quiet plain_remove_loop _,codeAny_builtin entry_remove_loop (by
  rw[Um plain_remove_loop _]
  exact xg l items n x e j k b _ f 0 rfl (RL _) (fun m hm _ o=>c m hm o) a w A R _ ⟨i,he,h⟩)⟩
section
variable {X:Cx}
noncomputable def mB(K:QK):V->⇑V->Hp->VK->Prop:=fun x a H Q=>∃(l:QI)(xs:⇑V)(y:V)(ds:⇑Rp)(d:Rp)(j:Nat),x=.ref l/\a=[y]/\H l=ψ (.lst xs)/\DatAll K H xs ds/\cV K H y d/\cK 8 (.list ds)/\cK 8 d/\
 ds[j]?=ψ d/\(∀m,m<j->ds[m]?≠some d)/\Q .non (upd H l (.lst (xs.eraseIdx j)))
theorem B4{x:Rp}:∀{ts:⇑Rp},cI ts=ω->x∈ts->nice x=ω
 |b::r,a,c=>by
  rw[cI,RI]at a
  rcases QW.mp c with e|e
  .rw[e];exact a.1
  .exact B4 a.2 e
theorem EN(V:X.A.units+64<cLine):Ly X "list.remove" (mB X.K):=by
 intro w s W H x Y v Z Q I J L h
 obtain⟨l,xs,y,ds,d,j,rfl,rfl,B,M,N,O,k,C,o,q⟩:=h
 cases J
 obtain⟨u,rfl,P⟩:=L.one
 obtain⟨z,a,n,r,hl,e⟩:=I.lstM B
 obtain⟨D,m2⟩:=zZ O
 obtain⟨as,E⟩:=mm I M r
 obtain⟨bs,R⟩:=dv I N P
 have c:=dQ ds D
 have f:=readsAll_map ds _ _ c E
 have G:a.length=ds.length:=by rw[<-f,QR]
 have S:j<ds.length:=(Rw.mp C).1
 have g:∀(m:Nat)(hm:m<a.toArray.size),U7 (readOf s.heap a.toArray[m]) d=same (ds.getD m .none) d:=fun m hm=>by
  have p:m<a.length:=by simpa using hm
  have b:m<ds.length:=by omega
  have T:ds.getD m .none=readOf s.heap a[m]:=by
   have:ds[m]?=ψ (readOf s.heap a[m]):=by rw[<-f,RU,QZ p];rfl
   rw[Rl,this];rfl
  have U:a.toArray[m]=a[m]:=⋯
  rw[U,<-T]
  refine(same_eq_eqv _ d (mh _ d ?_ k.1)).symm
  have:ds.getD m .none∈ds:=by rw[Rl,QZ b];exact R3 b
  exact B4 D this
 have i:j<a.toArray.size:=by rw[RH];omega
 refine Sy Xz ⟨_,e,rfl⟩ F.entry_list_remove (F.args_list_remove_2 _ _)
  (xI l a.toArray n u (fun y=>U7 (readOf s.heap y) d) j i ?_ ?_ (by rw[RH];omega)) ⟨e,items_eqAt (by simpa using E) R c (k8 d k.1) (by have:=k.2;omega),?_⟩
 .show U7 (readOf s.heap a.toArray[j]) d=ω
  rw[g j i,Rl,C]
  exact same_self d
 .intro m hm t
  show U7 (readOf s.heap a.toArray[m]) d=ξ
  rw[g m hm]
  refine KL fun z=>o m t ?_
  have b:m<ds.length:=by omega
  rw[QZ b]
  rw[Rl,QZ b]at z
  exact congrArg some z
 refine⟨.non,_,I.lset (its':=a.eraseIdx j) B e ?_ (r.eraseIdx j) ?_,rfl,q⟩
 .show a.toArray.eraseIdxIfInBounds j=(a.eraseIdx j).toArray
  rw[YM]
 .have:=rg xs j
  omega
end
end L2
namespace L2
open PySem PySem.Spec PyProof.Rows PySem.W
section
variable {X:Cx}
def Jg:⇑V->Hp->VK->Prop:=fun xs H Q=>∃(d:QI)(kvs:⇑(Key×V)),xs=[.ref d]/\H d=ψ (.dK kvs)/\∀l,H l=χ->Q (.ref l) (upd H l (.lst (kvs.map fun p=>kV p.1)))
theorem D0(D:X.calm=ω):eB X (.type "list") Jg:=by
 intro B s N H xs O Q I r h
 obtain⟨d,kvs,rfl,hd,q⟩:=h
 obtain⟨u,rfl,E⟩:=vals1 r
 cases E
 obtain⟨z,l,m,f,F⟩:=fw I.hok (.inl hd)
 obtain⟨ep,n⟩:=F.dictAt
 have b:kvs.length=m.length:=Ro f
 refine kdl_call (kdl_dict (knd:=aN X.prog X.w) (kvs:=m) (ep:=ep) l) (I.ok.hd D) n (by rw[<-b];exact z) fun P G g c J K e=>?_
 have t:g.toList.length=m.length:=by rw[Vm];exact e.1
 refine⟨.ref s.heap.objs.size,_,I.laid (t':=G) (a:=s.heap.objs.size) (o:=.lst (kvs.map fun p=>kV p.1)) J (Q2 _) ⟨by rw[QR];exact z,g.toList,c,?_,by rw[Wg];exact K⟩,rfl,q _ (I.hok.fresh (Q2 _))⟩
 refine kj (by rw[QR,t,b]) fun i x u C L=>?_
 obtain⟨k,y,M,j⟩:=e.2 i u (by rw[<-Wu];exact L)
 obtain⟨p,v,A,_⟩:=mj f i _ M
 rw[RU,v]at C
 cases C
 show RelV (kV p.1) u
 rw[A]
 exact vJ j
def lF(v d:QI):HO:=.ext fun h=>h.IsValuesView v d
def Gy:V->⇑V->Hp->VK->Prop:=fun x a H Q=>∃(d:QI)(kvs:⇑(Key×V)),x=.ref d/\a=[]/\H d=ψ (.dK kvs)/\∀v,H v=χ->Q (.ref v) (upd H v (lF v d))
theorem JO:P2 X "dict.values" Gy:=by
 intro a s l H x xs v m Q I f r h
 obtain⟨d,kvs,rfl,rfl,e,q⟩:=h
 cases r
 cases(show v=Rf d from f)
 obtain⟨z,hd,g,i,c⟩:=fw I.hok (.inl e)
 refine U3 Vz c.typeIs Zj (YJ _) (meets_dict_values (aN X.prog X.w) d hd) ⟨⟨g,c⟩,?_⟩
 refine⟨.ref s.heap.objs.size,upd H s.heap.objs.size (lF s.heap.objs.size d),I.laid (t':=s.toks) (fun b u e=>Rj _ e) (Q2 _) ⟨⟨_,Rt _ rfl,rfl,rfl⟩,⟨_,Rt _ rfl⟩,fun n p x k=>?_⟩,rfl,q _ (I.hok.fresh (Q2 _))⟩
 obtain⟨o,j,r⟩:=x
 exact⟨o,k o j,r⟩
def BN:⇑V->Hp->VK->Prop:=fun xs H Q=>∃(v d:QI)(kvs:⇑(Key×V)),xs=[.ref v]/\H v=ψ (lF v d)/\H d=ψ (.dK kvs)/\∀l,H l=χ->Q (.ref l) (upd H l (.lst (kvs.map (·.2))))
theorem z0(C:X.calm=ω):eB X (.type "list") BN:=by
 intro A s P H xs R Q I r h
 obtain⟨v,d,kvs,rfl,D,hd,q⟩:=h
 obtain⟨u,rfl,E⟩:=vals1 r
 cases E
 obtain⟨z,F,j,f,G⟩:=fw I.hok (.inl hd)
 obtain⟨ep,l⟩:=G.dictAt
 have b:kvs.length=j.length:=Ro f
 have m:s.heap.IsValuesView v d:=(show cg X.prog X.w H s.heap v (lF v d)from I.hok v _ D).1
 refine kdl_call (kdl_values (knd:=aN X.prog X.w) (kvs:=j) (ep:=ep)) (I.ok.hd C) ⟨m,l⟩ (by rw[<-b];exact z) fun S J g c K L e=>?_
 have n:g.toList.length=j.length:=by rw[Vm];exact e.1
 refine⟨.ref s.heap.objs.size,_,I.laid (t':=J) (a:=s.heap.objs.size) (o:=.lst (kvs.map (·.2))) K (Q2 _) ⟨by rw[QR];exact z,g.toList,c,?_,by rw[Wg];exact L⟩,rfl,q _ (I.hok.fresh (Q2 _))⟩
 refine kj (by rw[QR,n,b]) fun i x u B M=>?_
 obtain⟨k,N⟩:=e.2 i u (by rw[<-Wu];exact M)
 obtain⟨p,t,O,y⟩:=mj f i _ N
 rw[RU,t]at B
 cases B
 exact y
end
def Og(d:QI)(o:QP)(kvs:⇑(Key×V)):It:=
 ⟨fun i H=>H d=ψ (.frz o (.dK kvs))/\i<kvs.length,fun i H x a=>a=H/\∃p,kvs[i]?=ψ p/\x=p.2,fun i H=>H d=ψ (.frz o (.dK kvs))/\kvs.length<=i⟩
theorem FO{P:Q0}{w:QX}{K:QK}{T:QQ}(d it:QI)(o:QP)(es:Array SN)(ep:Nat)(Q:o.data=.dict es ep)(kvs:⇑(Key×V)):
  Turn P w K T (Og d o kvs) [it] it (fun i h=>h.IsValIter it d i kvs.length ep) where
 mem:=⋯
 obj:=fun i h st b m=>by
  have z:b=it:=by simpa using m
  subst z
  obtain⟨t,e,c,A⟩:=st
  exact⟨t,e,fun v z=>by rw[A]at z;cases z⟩
 keep:=fun i h x st k=>by
  obtain⟨t,e,r⟩:=st
  exact⟨t,k it ⋯ t e,r⟩
 item:=by
  intro X B hw C R i j s S H E I y st D
  subst B hw C
  obtain⟨hd,hi⟩:=D
  obtain⟨f,g,n⟩:=iG I hd Q
  have a:kvs.length=f.length:=Ro g
  obtain⟨F,G,U,J,L,M⟩:=y it ⋯
  have u:f[i]?=ψ f[i]:=QZ "`"
  obtain⟨p,N,W,O⟩:=mj g i _ u
  have q:s.heap.IsValIter it d i f.length ep:=by rw[<-a];exact st
  refine wpAny_pyNext_values_item (knd:=aN X.prog X.w) (k:=(f[i]).1) (v:=(f[i]).2) q n u fun x l Y=>?_
  have I1:Inv X j S H {s with heap:=x,toks:=s.toks}:=I.turned (t':=s.toks) (fun b o m e=>(Y.2 b m).trans e) F G J L M
  obtain⟨t,e,c,A⟩:=id l
  refine⟨_,rfl,B5 (s:={s with heap:=x}) e c A "^" ⟨p.2,H,I1,O,⟨rfl,p,N,rfl⟩,by rw[a];exact l,fun b m=>(y b m).1⟩⟩
 done:=by
  intro X B hw C R i j s S H E I y st D
  subst B hw C
  obtain⟨hd,hi⟩:=D
  obtain⟨f,g,n⟩:=iG I hd Q
  have a:kvs.length=f.length:=Ro g
  obtain⟨F,G,U,J,L,M⟩:=y it ⋯
  have q:s.heap.IsValIter it d i f.length ep:=by rw[<-a];exact st
  exact wpAny_pyNext_values_end (knd:=aN X.prog X.w) (I.ok.hd R) q n (Tp "`") fun x Z=>⟨rfl,I.turned (t':=s.toks) (fun b o m e'=>Z b o m e') F G J L M⟩
 self:=fun _ _ _ _ _ st h=>wpAny_pyIter_valiter st h
section
variable {X:Cx}{tg:QQ}
def HU(b:TE):TI:=fun c H R=>b c H fun x a=>∃(d:QI)(kvs:⇑(Key×V)),x=.ref d/\a d=ψ (.dK kvs)/\∀(o:QP)(v:QI),a v=χ->v≠d->R (Og d o kvs) (upd (upd a v (lF v d)) d (.frz o (.dK kvs)))
theorem JU{e:QQ}{F:TE}{apos f:Q9}(he:PE X e F)
  (l:TQ e "values" X.env (eval e X.env)=eval e X.env:=by rfl) (m:(apos.endLine==f.line)=ω:=by rfl):
  PI X tg (.Call (.Attribute e "values" apos) [] [] f) (HU F):=by
 intro g s G H R I h
 refine wpAny_Call_method0_late l m (cf (he g s G H _ I h) fun v c ⟨x,y,I1,M,d,kvs,N,hd,O⟩=>?_)
 subst N
 cases(show v=Rf d from M)
 obtain⟨z,A,B,C,n⟩:=fw I1.hok (.inl hd)
 have p:kvs.length=B.length:=Ro C
 have J:∀a,Rf d=.ref a->∃K,c.heap.get? a=ψ K/\K.dict=none:=fun a e=>by
  cases e
  obtain⟨o,_,_,q,hex,_⟩:=id n
  exact⟨o,q,hex.2.1⟩
 refine⟨"dict","dict.values",V4,Vz,Zc,n.typeIs,J,UX rfl (WV ?_)⟩
 refine U3 Vz n.typeIs Zj (YJ _) (meets_dict_values (aN X.prog X.w) d A) ⟨⟨B,n⟩,?_⟩
 have P:y c.heap.objs.size=none:=I1.hok.fresh (Q2 _)
 have i:d<c.heap.objs.size:=I1.hok.lt hd
 have IV:Inv X g G (upd y c.heap.objs.size (lF c.heap.objs.size d)) {c with heap:=c.heap.push {cls:=.type "dict_values",data:=.fields #[.ref d]},toks:=c.toks}:=
  I1.laid (t':=c.toks) (fun b u e=>Rj _ e) (Q2 _) ⟨⟨_,Rt _ rfl,rfl,rfl⟩,⟨_,Rt _ rfl⟩,fun T J x k=>by
   obtain⟨o,q,r⟩:=x
   exact⟨o,k o q,r⟩⟩
 have D:upd y c.heap.objs.size (lF c.heap.objs.size d) d=ψ (.dK kvs):=by rw[aj (Rn i)];exact hd
 obtain⟨o,es,L,q,hex,j,r⟩:=id n
 have t:(c.heap.push {cls:=.type "dict_values",data:=.fields #[.ref d]}).get? d=ψ o:=Rj _ q
 have IF:=IV.freeze D t
 have E:(c.heap.push {cls:=.type "dict_values",data:=.fields #[.ref d]}).DictAt (aN X.prog X.w) d B L:=⟨o,es,t,hex,j,r⟩
 show QM _ _ (pyIter (.ref c.heap.objs.size)) _ _ _
 refine wpAny_pyIter_values (knd:=aN X.prog X.w) (d:=d) ⟨_,Rt _ rfl,rfl,rfl⟩ E ?_
 refine⟨_,[_],_,Og d o kvs,_,rfl,IF.kept (t':=c.toks) (fun b u e=>Rj _ e),FO d _ o es L j kvs,⟨_,Rt _ rfl,rfl,by rw[p];rfl⟩,fun b Q=>?_,O o _ P (Sf i)⟩
 have S:b=(c.heap.push {cls:=.type "dict_values",data:=.fields #[.ref d]}).objs.size:=by simpa using Q
 subst S
 exact IF.fpOk (Q2 _) (IF.hok.fresh (Q2 _))
end
section
variable {prog:Q0}{w:QX}{κ:Type} [DecidableEq κ] {knd:KeyKind prog w κ}{A:Q6}{E:QJ->QL->Prop}{s:QL}
theorem jy{it d:QI}{i ep:Nat}{kvs:⇑(κ×QJ)}{k:κ}{v:QJ}{Q:QJ->QL->Prop}(st:s.heap.IsKeyIter it d i kvs.length ep)(hm:s.heap.DictAt knd d kvs ep)(hx:kvs[i]?=ψ (k,v))
  (q:∀a h',knd.is k a=ω->h'.IsKeyIter it d (i+1) kvs.length ep->SG it s.heap h'->Q a {s with heap:=h'}):QM (model prog w) A (S6 (.ref it)) Q E s:=by
 unfold S6
 exact QN (kdk_special st hm hx fun a h' b c e=>Q8 (q a h' b c e))
theorem ly{it d:QI}{i ep:Nat}{kvs:⇑(κ×QJ)}{Q:QJ->QL->Prop}(c:A.handled=χ)(st:s.heap.IsKeyIter it d i kvs.length ep)(hm:s.heap.DictAt knd d kvs ep)(none_:kvs[i]?=χ)
  (q:∀h' e,Heap.ExtBut it s.heap h'->(∃x,h'.get? e=ψ x/\x.cls=.type "StopIteration")->E (.ref e) {s with heap:=h'}):QM (model prog w) A (S6 (.ref it)) Q E s:=by
 obtain⟨j,g1,g2,g3⟩:=id st
 obtain⟨k,es,f,l,g,n,h,o⟩:=id hm
 have len:es.size=kvs.length:=by have:=h.length;simpa using this
 have b:es.size<=i:=by rw[len];exact List.getElem?_eq_none_iff.mp none_
 unfold S6
 refine QN (UQ (name:=Vc "__next__") st.typeIs ZM (Up ZM st.typeIs abX ?_ (aaH _)))
 refine QN (Q8 (QN (QN ?_)))
 first|refine QN (wpAny_typeNameOfWhole_keyiter st.typeIs (Q8 (QN (wpAny_fieldsOf g1 g3 ?_))))|refine QN (wpAny_typeNameOf_keyiter st.typeIs (Q8 (QN (wpAny_fieldsOf g1 g3 ?_))))
 rw[show abb "dict_keyiterator"=ξ from by decide]
 simp only[Tr,if_false]
 show QM _ _ (if(Rf d==R0)=ω then _ else _) _ _ s
 refine wpAny_ite_split (fun z=>absurd z RA) fun _=>QN (Q8 (QN (wpAny_dictEntries f g ?_)))
 rw[if_neg (by rw[len];simp)]
 refine QN (Q8 (QN (wpAny_dictEpoch f g ?_)))
 rw[if_neg ⋯]
 refine Q8 ?_
 simp only[show ¬(((i:Nat):Int)<0)from by omega,if_false,Ws,Array.getElem?_eq_none b]
 refine QN ?_
 first|refine QN (wpAny_typeNameOfWhole_keyiter st.typeIs (Q8 ?_))|refine QN (wpAny_typeNameOf_keyiter st.typeIs (Q8 ?_))
 show QM _ _ (setField (.ref it) 0 .none >>= _) _ _ s
 refine QN (wpAny_setField g1 g3 ⋯ ?_)
 show QM _ _ (newExc (.type "StopIteration") [] >>= _) _ _ _
 refine QN ?_
 simp only[newExc,newTuple]
 refine QN (wpAny_newObj_type (QN (m:=firstArgMember _ _) (wpAny_of_eq (a:=R0) (by first|rfl|(simp only[firstArgMember];rfl)) (wpAny_newObj_type ?_ (by size_fits)))) (by size_fits))
 simp only[raiseNew]
 refine QN (wpAny_handled ?_)
 first|rw[show A.in1.handled=χ from c]|rw[c]
 exact QN (Q8 (wpAny_throw (q _ _ (((aaL ..).extBut.push _).push _) ⟨_,Rt _ rfl,rfl⟩)))
theorem uW(j:A.handled=χ)(it d:QI)(a:d≠it)(kvs:⇑(κ×QJ))(ep:Nat):
  Draws prog w A it [it,d] kvs.length (fun i v=>∃k x,kvs[i]?=ψ (k,x)/\knd.is k v=ω) (fun i h=>h.IsKeyIter it d i kvs.length ep/\h.DictAt knd d kvs ep) where
 live:=fun _ _ st=>let ⟨o,l,_⟩:=st.1;⟨o,l⟩
 frame:=fun _ _ _ st c=>⟨st.1.at fun o e=>c it ⋯ o e,st.2.at' fun o e=>c d ⋯ o e⟩
 item:=fun i s Q E hi st m=>by
  obtain⟨⟨k,x⟩,f⟩:∃p,kvs[i]?=ψ p:=⟨kvs[i],by simp[hi]⟩
  exact jy st.1 st.2 f fun b n q r g=>m b n s.toks ⟨k,x,f,q⟩ ⟨r,st.2.extBut g.extBut a⟩ g
 done:=fun s Q E st t=>ly j st.1 st.2 ⋯ t
def nu(d:QI)(n ep:Nat):QP:={cls:=.type "dict_keyiterator",data:=.fields #[.ref d,.int 0 0,.int n 0,.int ep 0]}
def zf(it:QI):QP:={cls:=.type "enumerate",data:=.fields #[.none,.bool false,.ref it,RF 0,.none,.none]}
theorem xi(d:QI)(lo:(d==Sq)=ξ)(kvs:⇑(κ×QJ))(ep:Nat):
  MeetsIn prog w (Sg.«enumerate.__new__» ⟨[.type "enumerate",.ref d],[]⟩) (fun _ R s=>s.heap.DictAt knd d kvs ep/\R (.ok (.ret (.ref (s.heap.push (nu d kvs.length ep)).objs.size))) {s with heap:=(s.heap.push (nu d kvs.length ep)).push (zf s.heap.objs.size)}):=by
 refine Yb fun A R s h=>?_
 obtain⟨b,g,e,f,os⟩:=s
 obtain⟨hm,h⟩:=h
 have a:=sub_enumerate
 wp_walk
 refine wpAny_stack_any fun st=>Q8 ?_
 split
 .rename_i c _ _ _ _ _
  cases(c==V8 "enumerate")
  .wp_walk using(U6 (knd:=knd) lo hm)
   exact⟨_,rfl,h⟩
  .wp_walk using(U6 (knd:=knd) lo hm)
   exact⟨_,rfl,h⟩
 .wp_walk using(U6 (knd:=knd) lo hm)
  exact⟨_,rfl,h⟩
end
noncomputable def Lc(d:QI)(o:QP)(kvs:⇑(Key×V)):It:=
 ⟨fun i H=>H d=ψ (.frz o (.dK kvs))/\i<kvs.length,fun i H x a=>∃T p,x=.ref T/\H T=χ/\kvs[i]?=ψ p/\a=upd H T (.tup [.int i,kV p.1]),fun i H=>H d=ψ (.frz o (.dK kvs))/\kvs.length=i⟩
theorem CP{P:Q0}{w:QX}{K:QK}{R:⇑QQ}{x1}{α:Q9}(d e it:QI)(o:QP)(es:Array SN)(ep:Nat)(x:o.data=.dict es ep)(kvs:⇑(Key×V))(G:e≠it)(S:d≠it)(β:d≠e):
  Turn P w K (.Tuple R x1 α) (Lc d o kvs) [e,it] e (fun i h=>(∃g,IsEnum h e it ((i:Nat):Int) g)/\h.IsKeyIter it d i kvs.length ep) where
 mem:=⋯
 obj:=fun i h st b a=>by
  obtain⟨⟨g,he⟩,o,x,J,hd⟩:=st
  rcases QW.mp a with z|a
  .subst z
   exact⟨_,he,fun v z=>by
    have z':UW _=Ud v:=z
    cases z'⟩
  .have z:b=it:=by simpa using a
   subst z
   exact⟨o,x,fun v z=>by rw[hd]at z;cases z⟩
 keep:=fun i h h' st k=>by
  obtain⟨⟨g,he⟩,o,x,r⟩:=st
  exact⟨⟨g,k e ⋯ _ he⟩,o,k it ⋯ _ x,r⟩
 item:=by
  intro X T hw hK J i D s σ H E I U st hg
  subst T hw hK
  obtain⟨⟨g,he⟩,B⟩:=st
  obtain⟨hd,hi⟩:=hg
  obtain⟨F,C,L⟩:=iG I hd x
  have j:kvs.length=F.length:=Ro C
  have l:s.heap.IsKeyIter it d i F.length ep:=by rw[<-j];exact B
  obtain⟨f0,f1,f2,f3,f4,f5⟩:=U e ⋯
  obtain⟨g0,g1,g2,g3,g4,g5⟩:=U it ⋯
  have O:H s.heap.objs.size=none:=I.fresh
  refine wpAny_pyNext_enum_itemD (uW (knd:=aN X.prog X.w) (A:=X.A.in1) (I.ok.hd J) it d S F ep) he ⟨l,L⟩ "`" G (by simp[G,Rb β]) fun u h' tk T γ W ht κ hk=>⟨_,rfl,?_⟩
  obtain⟨k,y,δ,Y⟩:=T
  obtain⟨p,ε,ζ,_⟩:=mj C i _ δ
  have ru:RelV (kV p.1) u:=by rw[ζ];exact vJ Y
  refine wpAny_letOwnedTupleGo_enum γ fun h2 η t=>?_
  have t:SG e h' h2:=t
  have Z:e≠s.heap.objs.size:=Rn (Rc he)
  have f:∀b o,b≠e->b≠it->s.heap.get? b=ψ o->h2.get? b=ψ o:=fun b o h1 θ q=>t.extBut b o h1 (hk b o h1 θ q)
  have ι:h2.get? s.heap.objs.size=ψ {cls:=.type "tuple",data:=.seq #[.int i tk,u]}:=t.extBut _ _ (Rb Z) ht
  have neT:∀b o,s.heap.get? b=ψ o->b≠s.heap.objs.size:=fun b o q=>Rn (Rc q)
  have nH:∀b M,H b=ψ M->b≠e/\b≠it:=fun b M q=>⟨fun z=>(by rw[z,f0]at q;cases q),fun z=>(by rw[z,g0]at q;cases q)⟩
  have I2:Inv X D σ (upd H s.heap.objs.size (.tup [.int i,kV p.1])) {s with heap:=h2,toks:=tk+1}:=by
   refine I.step (g':=s.gens) (d':=s.drawn) (t':=tk+1) (ch:=[e,it]) (fun b a=>?_) (fun b o _ _ a q _=>?_) (fun b o _ _ a q _=>?_) (fun b o _ q n=>?_) (fun b o a q=>?_)
    (fun b ys q=>?_) (fun b o M q=>?_) (fun b ps q=>?_) (fun m hm=>?_) (fun b M q=>?_) I.bare
   .rcases QW.mp a with z|a
    .subst z;exact⟨f3,f1,f4,f5⟩
    .have z:b=it:=by simpa using a
     subst z;exact⟨g3,g1,g4,g5⟩
   .exact f b o (fun z=>a (by simp[z])) (fun z=>a (by simp[z])) q
   .exact⟨o.slots,f b o (fun z=>a (by simp[z])) (fun z=>a (by simp[z])) q⟩
   .rw[aj (neT b o q)];exact n
   .exact⟨o,f b o (fun z=>a (by simp[z])) (fun z=>a (by simp[z])) q⟩
   .rw[aj (aP q O)];exact q
   .rw[aj (aP q O)];exact q
   .exact⟨#[],by rw[aj (aP q O),q];simp⟩
   .obtain⟨o,es,ep,x,r⟩:=hm
    exact⟨o,es,ep,f _ o (Rb f1) (Rb g1) x,r⟩
   .by_cases a:b=s.heap.objs.size
    .subst a
     rw[ak]at q
     cases q
     exact⟨by show 2<=QT;decide,[.int i tk,u],.cons ⟨_,rfl⟩ (.cons ru .nil),_,ι,rfl,_,rfl⟩
    .rw[aj a]at q
     refine(I.hok b M q).stay (fun c v J N=>f c v ?_ ?_ N) (fun c N=>?_) fun c ys N=>?_
     .rcases J with z|z
      .rw[z];exact(nH b M q).1
      .exact(nH c _ z).1
     .rcases J with z|z
      .rw[z];exact(nH b M q).2
      .exact(nH c _ z).2
     .rw[aj (aP N O)];exact N
     .rw[aj (aP N O)];exact N
  refine⟨.ref s.heap.objs.size,_,I2,rfl,⟨s.heap.objs.size,p,rfl,O,ε,rfl⟩,⟨⟨u,?_⟩,?_⟩,fun b a=>?_⟩
  .have e1:((i+1:Nat):Int)=(i:Int)+1:=by omega
   rw[e1];exact η
  .rw[j]
   exact W.1.at fun o e=>t.extBut _ _ (Rb G) e
  .have:b≠s.heap.objs.size:=by
    rcases QW.mp a with z|a
    .rw[z];exact Z
    .have z:b=it:=by simpa using a
     rw[z]
     obtain⟨o,x,_⟩:=B
     exact neT it o x
   rw[aj this]
   exact(U b a).1
 done:=by
  intro X T hw hK J i D s σ H E I U st hg
  subst T hw hK
  obtain⟨⟨g,he⟩,B⟩:=st
  obtain⟨hd,hi⟩:=hg
  obtain⟨F,C,L⟩:=iG I hd x
  have j:kvs.length=F.length:=Ro C
  obtain⟨g0,g1,g2,g3,g4,g5⟩:=U it ⋯
  have l:s.heap.IsKeyIter it d i F.length ep:=by rw[<-j];exact B
  have en:i=F.length:=by omega
  subst en
  exact wpAny_pyNext_enum_endD (uW (knd:=aN X.prog X.w) (A:=X.A.in1) (I.ok.hd J) it d S F ep) he ⟨l,L⟩ fun h' eb=>⟨rfl,I.turned (t':=s.toks) (fun b o a e'=>eb b o a e') g0 g1 g3 g4 g5⟩
 self:=fun A i s Q E st h=>by
  obtain⟨⟨g,he⟩,_⟩:=st
  exact VR he h
section
variable {X:Cx}
def DH(b:TE):TI:=fun c H R=>b c H fun x a=>∃(d:QI)(kvs:⇑(Key×V)),x=.ref d/\a d=ψ (.dK kvs)/\∀(o:QP),R (Lc d o kvs) (upd a d (.frz o (.dK kvs)))
theorem Jc{l:QQ}{B:TE}{k:⇑QQ}{M}{p m pt:Q9}(N:Gl X "enumerate")(hm:X.mg "enumerate"=χ)(O:PE X l B)(J:Q5 [l] X.env=[(false,eval l X.env)]:=by rfl):
  PI X (.Tuple k M pt) (.Call (.Name "enumerate" p) [l] [] m) (DH B):=by
 intro n s K H R I h
 refine Call_ (iE I N hm boot_enumerate (TC (cf (tW O z9 J m n s K H (fun f c=>∃x,f=[x]/\∃(d:QI)(kvs:⇑(Key×V)),x=.ref d/\c d=ψ (.dK kvs)/\∀(o:QP),R (Lc d o kvs) (upd c d (.frz o (.dK kvs)))) I ?_) fun W a ⟨f,c,I1,P,Q⟩=>?_) J rfl))
 .have e:(fun (x:V) (c:Hp)=>∃y,[x]=[y]/\∃(d:QI)(kvs:⇑(Key×V)),y=V.ref d/\c d=ψ (HO.dK kvs)/\∀(o:QP),R (Lc d o kvs) (upd c d (.frz o (.dK kvs))))=fun x c=>∃(d:QI)(kvs:⇑(Key×V)),x=.ref d/\c d=ψ (.dK kvs)/\∀(o:QP),R (Lc d o kvs) (upd c d (.frz o (.dK kvs))):=by
   funext x c
   simp
  show B K H (fun (x:V) (c:Hp)=>∃y,[x]=[y]/\∃(d:QI)(kvs:⇑(Key×V)),y=V.ref d/\c d=ψ (HO.dK kvs)/\∀(o:QP),R (Lc d o kvs) (upd c d (.frz o (.dK kvs))))
  rw[e]
  exact h
 .obtain⟨x,rfl,d,kvs,rfl,hd,q⟩:=Q
  obtain⟨u,rfl,S⟩:=vals1 P
  cases S
  obtain⟨z,C,f,D,T⟩:=fw I1.hok (.inl hd)
  have t:kvs.length=f.length:=Ro D
  obtain⟨o,es,j,L,hex,g,r⟩:=id T
  have IF:=I1.freeze hd L
  have E:a.heap.DictAt (aN X.prog X.w) d f j:=⟨o,es,L,hex,g,r⟩
  have i:d<a.heap.objs.size:=I1.hok.lt hd
  refine callType_newIn acg "^" (abu _) (aca _) (fun F=>aaU F _) acA (xi (knd:=aN X.prog X.w) d C f j) ⟨E,?_⟩
  have v:(a.heap.push (nu d f.length j)).objs.size=a.heap.objs.size+1:=Sh ..
  show _/\_
  rw[v]
  have he:IsEnum ((a.heap.push (nu d f.length j)).push (zf a.heap.objs.size)) (a.heap.objs.size+1) a.heap.objs.size 0 .none:=by
   have:=Rt (a.heap.push (nu d f.length j)) (o:=zf a.heap.objs.size) rfl
   rw[v]at this;exact this
  refine⟨⟨_,he,rfl⟩,VR he ?_⟩
  have U:∀b u,a.heap.get? b=ψ u->((a.heap.push (nu d f.length j)).push (zf a.heap.objs.size)).get? b=ψ u:=fun b u e=>Rj _ (Rj _ e)
  refine⟨a.heap.objs.size+1,[a.heap.objs.size+1,a.heap.objs.size],_,Lc d o kvs,_,rfl,IF.kept (t':=a.toks) U,CP d _ _ o es j g kvs (Yh _) (Rn i) (Rn (Vr i)),⟨⟨.none,he⟩,⟨_,Rj _ (Rt _ rfl),rfl,by rw[t];rfl⟩⟩,fun b G=>?_,q o⟩
  have A:a.heap.objs.size<=b:=by
   rcases QW.mp G with z|G
   .rw[z];exact SA _
   .have z:b=a.heap.objs.size:=by simpa using G
    rw[z];exact Q2 _
  exact IF.fpOk A (IF.hok.fresh A)
end
theorem G8{K:QK}{d:QI}{o:QP}{kvs:⇑(Key×V)}(p r:Nat)(u:Nat->V)(b:∀i q,kvs[i]?=ψ q->kV q.1=u i):
  Ys (Lc d o kvs) (dN K 2 (aR (af p) (aR (af r) dJ))) (fun H=>H d=ψ (.frz o (.dK kvs))) kvs.length (fun i a=>(a.set p (ψ (.int i))).set r (ψ (u i))) where
 go:=fun i H hi h=>⟨h,hi⟩
 stop:=fun H h=>⟨h,rfl⟩
 yld:=fun i H x e a Q hi h y q=>by
  obtain⟨T,w,rfl,c,hw,rfl⟩:=y
  exists T,_,rfl,d5.of ak,rfl,_,_,rfl,_,_,rfl,rfl
  have:=q _ (ah.updN c (o:=.tup [.int i,kV w.1]))
  rw[<-b i w hw]at this
  exact this
section
variable {prog:Q0}{w:QX}{κ:Type} [DecidableEq κ] {knd:KeyKind prog w κ}{A:Q6}{E:QJ->QL->Prop}{s:QL}
variable {z TI TO i1 i2 d l:QI}{n ep:Nat}{kvs:⇑(κ×QJ)}{ys:Array QJ}{a b:QJ}
abbrev dc(s:QL)(z TO i1 i2:QI)(h':QS):Prop:=∀c o,c≠z->c≠TO->c≠i1->c≠i2->s.heap.get? c=ψ o->h'.get? c=ψ o
theorem E9{k:κ}{v y:QJ}{Q:QJ->QL->Prop}(D:So z TI TO i1 i2 d l)(hz:R6 s.heap z TI TO .none)(G:Ry s.heap TI (.ref i1) (.ref i2))(H:Ry s.heap TO a b)
  (Z:s.heap.IsKeyIter i1 d n kvs.length ep) (hd:s.heap.DictAt knd d kvs ep) (h2:s.heap.IsListIter i2 l n) (hl:s.heap.IsList l ys) (hx:kvs[n]?=ψ (k,v)) (hy:ys[n]?=ψ y)
  (q:∀x h',knd.is k x=ω->R6 h' z TI TO (RF s.heap.objs.size)->Ry h' TO x y->h'.IsKeyIter i1 d (n+1) kvs.length ep->h'.IsListIter i2 l (n+1)->Ry h' s.heap.objs.size x y->h'.objs.size=s.heap.objs.size+1->dc s z TO i1 i2 h'->Q (.ref s.heap.objs.size) {s with heap:=h'}):
  QM (model prog w) A (Sg.«zip.__next__» ⟨[.ref z],[]⟩) (fun I s'=>∃v,I=.done (.ret v)/\Q v s') E s:=by
 show QM _ _ (field (.ref z) 2 >>= _) _ _ _
 refine QN (RS hz rfl (x:=.bool false) rfl (QN (RS hz rfl (x:=.ref TI) rfl (QN (Ta G rfl (QN ?_))))))
 unfold V1
 refine QN (RS hz rfl (x:=.none) rfl (Q8 ?_))
 simp only[if_true]
 refine QN (wpAny_rule (QN (RS hz rfl (x:=.ref TO) rfl (QN (UJ hz ⋯ fun m1 J g=>QN ?_)))))
 have J:R6 m1 z TI TO .ellipsis:=J
 simp only[X9,ZD,UU,U4]
 refine QN (QN (wpAny_onRaise ?_))
 show QM _ _ (S6 (.ref i1) >>= _) _ _ _
 refine QN (jy (knd:=knd) (Z.at fun o e=>g.extBut _ _ D.i1z e) (hd.extBut g.extBut D.l1z) hx fun x m2 m g1 i=>Q8 ?_)
 have U:Ry m2 TO a b:=i.extBut _ _ D.TOi1 (g.extBut _ _ D.TOz H)
 refine QN (Ta U rfl (QN (wpAny_updateSeq_pair U fun m3 K j=>QN (wpAny_letGo (Q8 (QN (QN (wpAny_onRaise ?_))))))))
 have K:Ry m3 TO x b:=K
 show QM _ _ (S6 (.ref i2) >>= _) _ _ _
 refine QN (Ya (h2.at fun o e=>j.extBut _ _ D.TOi2.symm (i.extBut _ _ D.i12.symm (g.extBut _ _ D.i2z e))) (hl.at fun o e=>j.extBut _ _ D.l2TO (i.extBut _ _ D.l2i1 (g.extBut _ _ D.l2z e))) hy fun m4 g2 p=>Q8 ?_)
 have V:Ry m4 TO x b:=p.extBut _ _ D.TOi2 K
 refine QN (Ta V rfl (QN (wpAny_updateSeq_pair V fun f B r=>QN (wpAny_letGo (Q8 (Q8 ?_))))))
 have B:Ry f TO x y:=B
 refine QN (Ta B rfl (QN (wpAny_newTuple ?_)))
 have sz:f.objs.size=s.heap.objs.size:=by rw[r.1,p.1,j.1,i.1,g.1]
 have W:R6 f z TI TO .ellipsis:=r.extBut _ _ D.TOz.symm (p.extBut _ _ D.i2z.symm (j.extBut _ _ D.TOz.symm (i.extBut _ _ D.i1z.symm J)))
 have L:∀c o,c≠z->c≠TO->c≠i1->c≠i2->s.heap.get? c=ψ o->f.get? c=ψ o:=fun c o h C M N e=>r.extBut _ _ C (p.extBut _ _ N (j.extBut _ _ C (i.extBut _ _ M (g.extBut _ _ h e))))
 have O:f.IsKeyIter i1 d (n+1) kvs.length ep:=g1.at fun o e=>r.extBut _ _ D.TOi1.symm (p.extBut _ _ D.i12 (j.extBut _ _ D.TOi1.symm e))
 have P:f.IsListIter i2 l (n+1):=g2.at fun o e=>r.extBut _ _ D.TOi2.symm e
 have t:z<f.objs.size:=Rc W
 show QM _ _ (XR (.ref z) (.ref f.objs.size) >>= _) _ _ _
 refine QN ?_
 unfold XR
 have z6:R6 (f.push {cls:=.type "tuple",data:=.seq #[x,y]}) z TI TO .ellipsis:=Rj _ W
 refine QN (UJ z6 ⋯ fun m7 R S=>?_)
 have R:R6 m7 z TI TO (RF f.objs.size):=R
 refine UJ R ⋯ fun u F T=>?_
 have F:R6 u z TI TO (RF f.objs.size):=F
 have lift:∀c o,c≠z->f.get? c=ψ o->u.get? c=ψ o:=fun c o h e=>T.extBut _ _ h (S.extBut _ _ h (Rj _ e))
 have X:Ry u f.objs.size x y:=T.extBut _ _ (Sf t) (S.extBut _ _ (Sf t) (Rt _ rfl))
 have Y:u.objs.size=f.objs.size+1:=by rw[T.1,S.1,Sh]
 rw[sz]at F X Y
 refine Q8 ⟨_,rfl,?_⟩
 show Q (.ref f.objs.size) _
 rw[sz]
 exact q x u m F (lift _ _ D.TOz B) (O.at fun o e=>lift _ o D.i1z e) (P.at fun o e=>lift _ o D.i2z e) X Y fun c o h C M N e=>lift c o h (L c o h C M N e)
theorem Ir{Q:Fin->QL->Prop}(m:A.handled=χ)(D:So z TI TO i1 i2 d l)(hz:R6 s.heap z TI TO .none)(a:Ry s.heap TI (.ref i1) (.ref i2))
  (p:s.heap.IsKeyIter i1 d n kvs.length ep) (hd:s.heap.DictAt knd d kvs ep) (hx:kvs[n]?=χ)
  (q:∀h' e,dc s z TO i1 i2 h'->(∃o,h'.get? e=ψ o/\o.cls=.type "StopIteration")->E (.ref e) {s with heap:=h'}):QM (model prog w) A (Sg.«zip.__next__» ⟨[.ref z],[]⟩) Q E s:=by
 show QM _ _ (field (.ref z) 2 >>= _) _ _ _
 refine QN (RS hz rfl (x:=.bool false) rfl (QN (RS hz rfl (x:=.ref TI) rfl (QN (Ta a rfl (QN ?_))))))
 unfold V1
 refine QN (RS hz rfl (x:=.none) rfl (Q8 ?_))
 simp only[if_true]
 refine QN (wpAny_rule (QN (RS hz rfl (x:=.ref TO) rfl (QN (UJ hz ⋯ fun r b f=>QN ?_)))))
 have b:R6 r z TI TO .ellipsis:=b
 simp only[X9,ZD,UU,U4]
 refine QN (QN (wpAny_onRaise ?_))
 show QM _ _ (S6 (.ref i1) >>= _) _ _ _
 refine QN (ly (knd:=knd) m (p.at fun o e=>f.extBut _ _ D.i1z e) (hd.extBut f.extBut D.l1z) hx fun t e g ⟨u,he,h⟩=>?_)
 have i:R6 t z TI TO .ellipsis:=g _ _ D.i1z.symm b
 have v:e≠z:=fun x=>by subst x;rw[i]at he;cases he;simp at h
 exact UJ i ⋯ fun y _ j=>q y e (fun c o k _ B _ x=>j.extBut _ _ k (g _ _ B (f.extBut _ _ k x))) ⟨u,j.extBut _ _ v he,h⟩
theorem ny{k:κ}{v y:QJ}{Q:Option QJ->QL->Prop}(D:So z TI TO i1 i2 d l)(hz:R6 s.heap z TI TO .none)(c:Ry s.heap TI (.ref i1) (.ref i2))(e:Ry s.heap TO a b)
  (g:s.heap.IsKeyIter i1 d n kvs.length ep) (hd:s.heap.DictAt knd d kvs ep) (h:s.heap.IsListIter i2 l n) (i:s.heap.IsList l ys) (hx:kvs[n]?=ψ (k,v)) (j:ys[n]?=ψ y)
  (q:∀x h',knd.is k x=ω->R6 h' z TI TO (RF s.heap.objs.size)->Ry h' TO x y->h'.IsKeyIter i1 d (n+1) kvs.length ep->h'.IsListIter i2 l (n+1)->Ry h' s.heap.objs.size x y->h'.objs.size=s.heap.objs.size+1->dc s z TO i1 i2 h'->Q (ψ (.ref s.heap.objs.size)) {s with heap:=h'}):
  QM (model prog w) A (R5 (.ref z)) Q E s:=by
 have f:s.TypeIs (.ref z) "zip":=⟨_,hz,rfl⟩
 unfold R5
 exact QN (Vv (UQ (name:=Vc "__next__") f TF (Up TF f Vq (E9 D hz c e g hd h i hx j fun x h' m o p r t u B C=>Q8 (q x h' m o p r t u B C)) (V2 _))))
theorem pz{Q:Option QJ->QL->Prop}(c:A.handled=χ)(D:So z TI TO i1 i2 d l)(hz:R6 s.heap z TI TO .none)(a:Ry s.heap TI (.ref i1) (.ref i2))
  (g:s.heap.IsKeyIter i1 d n kvs.length ep) (hd:s.heap.DictAt knd d kvs ep) (hx:kvs[n]?=χ) (q:∀h',dc s z TO i1 i2 h'->Q none {s with heap:=h'}):QM (model prog w) A (R5 (.ref z)) Q E s:=by
 have f:s.TypeIs (.ref z) "zip":=⟨_,hz,rfl⟩
 unfold R5
 refine QN (Vv (UQ (name:=Vc "__next__") f TF (Up TF f Vq (Ir (knd:=knd) (by first|exact c|exact(show A.in1.handled=χ from c)) D hz a g hd hx fun h' e h ⟨o,i,j⟩=>?_) (V2 _))))
 exact QN (wpAny_isInstance (T:="StopIteration") (b:=ω) ⟨o,i,j⟩ isSubtype_stop (Q8 (q _ h)))
end
noncomputable def PD(K:QK)(d l:QI)(o:QP)(kvs:⇑(Key×V)):It:=
 ⟨fun i H=>H d=ψ (.frz o (.dK kvs))/\∃ys y p,aD K H l ys/\ys[i]?=ψ y/\kvs[i]?=ψ p,
  fun i H x a=>∃T p v,x=.ref T/\H T=χ/\a=upd H T (.tup [kV p.1,v])/\kvs[i]?=ψ p/\∀ys,aD K H l ys->ys[i]?=ψ v,
  fun i H=>H d=ψ (.frz o (.dK kvs))/\kvs.length=i⟩
theorem FR{P:Q0}{w:QX}{K:QK}{α:⇑QQ}{x1}{η:Q9}(d l z TI TO B F:QI)(o:QP)(es:Array SN)(ep:Nat)(ho:o.data=.dict es ep)(kvs:⇑(Key×V))(D:So z TI TO B F d l):
  Turn P w K (.Tuple α x1 η) (PD K d l o kvs) [z,TO,B,F,TI] z (fun i h=>R6 h z TI TO .none/\Ry h TI (.ref B) (.ref F)/\(∃u v,Ry h TO u v)/\h.IsKeyIter B d i kvs.length ep/\h.IsListIter F l i) where
 mem:=⋯
 obj:=fun i h st c g=>by
  obtain⟨S,f,⟨u,v,C⟩,⟨o1,J,hc1,θ⟩,o2,L,hc2,ι⟩:=st
  have W:c=z\/c=TO\/c=B\/c=F\/c=TI:=by simpa using g
  rcases W with rfl|rfl|rfl|rfl|rfl
  .exact⟨_,S,fun v q=>by have G:UW _=Ud v:=q;cases G⟩
  .exact⟨_,C,fun v q=>by have G:Wy _ _=Ud v:=q;cases G⟩
  .exact⟨o1,J,fun v q=>by rw[θ]at q;cases q⟩
  .exact⟨o2,L,fun v q=>by rw[ι]at q;cases q⟩
  .exact⟨_,f,fun v q=>by have G:Wy _ _=Ud v:=q;cases G⟩
 keep:=fun i h h' st k=>by
  obtain⟨S,f,⟨u,v,C⟩,⟨o1,J,r1⟩,o2,L,r2⟩:=st
  exact⟨k z ⋯ _ S,k TI ⋯ _ f,⟨u,v,k TO ⋯ _ C⟩,⟨o1,k B ⋯ _ J,r1⟩,o2,k F ⋯ _ L,r2⟩
 item:=by
  intro X hP hw hK T i U s σ H E I hf st hg
  subst hP hw hK
  obtain⟨S,f,⟨u0,v0,C⟩,N,Y⟩:=st
  obtain⟨hd,ys,y,p,β,hy,hp⟩:=hg
  obtain⟨O,R,Z⟩:=iG I hd ho
  have j:kvs.length=O.length:=Ro R
  have M:s.heap.IsKeyIter B d i O.length ep:=by rw[<-j];exact N
  obtain⟨ω,κ,μ,hz2⟩:=I.list β
  obtain⟨v,hv,rv⟩:=κ.get hy
  have ν:i<O.length:=by rw[<-j];exact(Rw.mp hp).1
  have γ:O[i]?=ψ ((O[i]).1,(O[i]).2):=QZ ν
  obtain⟨p',δ,ξ,_⟩:=mj R i _ γ
  rw[hp]at δ
  cases δ
  have fT:H s.heap.objs.size=none:=I.fresh
  refine ny (knd:=aN X.prog X.w) D S f C M Z Y μ.isList (y:=v) γ (by simpa using hv) fun u h' ε kz ρ k1 k2 hT hsz hk=>⟨_,rfl,?_⟩
  have ru:RelV (kV p.1) u:=by rw[ξ];exact vJ ε
  refine wpAny_letOwnedTupleGo_zip kz fun h2 τ t=>?_
  have t:SG z h' h2:=t
  have zT:z≠s.heap.objs.size:=Rn (Rc S)
  have x:∀c o,c∉[z,TO,B,F,TI]->s.heap.get? c=ψ o->h2.get? c=ψ o:=fun c o T q=>by
   have a:¬(c=z\/c=TO\/c=B\/c=F\/c=TI):=by simpa using T
   exact t.extBut c o (fun e=>a (.inl e)) (hk c o (fun e=>a (.inl e)) (fun e=>a (.inr (.inl e))) (fun e=>a (.inr (.inr (.inl e)))) (fun e=>a (.inr (.inr (.inr (.inl e))))) q)
  have φ:h2.get? s.heap.objs.size=ψ {cls:=.type "tuple",data:=.seq #[u,v]}:=t.extBut _ _ (Rb zT) hT
  have neT:∀b o,s.heap.get? b=ψ o->b≠s.heap.objs.size:=fun b o q=>Rn (Rc q)
  have nH:∀b w',H b=ψ w'->b∉[z,TO,B,F,TI]:=fun b w' q g=>by rw[(hf b g).1]at q;cases q
  have I2:Inv X U σ (upd H s.heap.objs.size (.tup [kV p.1,y])) {s with heap:=h2}:=by
   refine I.step (g':=s.gens) (d':=s.drawn) (t':=s.toks) (ch:=[z,TO,B,F,TI]) (fun b g=>?_) (fun b o _ _ g q _=>x b o g q) (fun b o _ _ g q _=>⟨o.slots,x b o g q⟩) (fun b o _ q n=>?_) (fun b o g q=>⟨o,x b o g q⟩)
    (fun b ζ q=>?_) (fun b o w' q=>?_) (fun b ps q=>?_) (fun m hm=>?_) (fun b w' q=>?_) I.bare
   .obtain⟨_,f1,_,f3,f4,f5⟩:=hf b g
    exact⟨f3,f1,f4,f5⟩
   .rw[aj (neT b o q)];exact n
   .rw[aj (aP q fT)];exact q
   .rw[aj (aP q fT)];exact q
   .exact⟨#[],by rw[aj (aP q fT),q];simp⟩
   .obtain⟨o,es,ep,ho,r⟩:=hm
    exact⟨o,es,ep,x _ o (fun q=>(hf _ q).2.1 rfl) ho,r⟩
   .by_cases g:b=s.heap.objs.size
    .subst g
     rw[ak]at q
     cases q
     exact⟨by show 2<=QT;decide,[u,v],.cons ru (.cons rv .nil),_,φ,rfl,_,rfl⟩
    .rw[aj g]at q
     refine(I.hok b w' q).stay (fun c v' T G=>x c v' ?_ G) (fun c G=>?_) fun c ζ G=>?_
     .rcases T with e|e
      .rw[e];exact nH b w' q
      .exact nH c _ e
     .rw[aj (aP G fT)];exact G
     .rw[aj (aP G fT)];exact G
  refine⟨.ref s.heap.objs.size,_,I2,rfl,⟨s.heap.objs.size,p,y,rfl,fT,rfl,hp,fun ζ χ=>?_⟩,⟨τ,?_,⟨u,v,?_⟩,?_,?_⟩,fun b g=>?_⟩
  .rw[I.list_inj χ β];exact hy
  .exact t.extBut _ _ D.TIz (hk _ _ D.TIz D.TITO D.TIi1 D.TIi2 f)
  .exact t.extBut _ _ D.TOz ρ
  .rw[j];exact k1.at fun o e=>t.extBut _ _ D.i1z e
  .exact k2.extBut t.extBut D.i2z
  .have:b≠s.heap.objs.size:=by
    have W:b=z\/b=TO\/b=B\/b=F\/b=TI:=by simpa using g
    obtain⟨o1,J,_⟩:=N
    obtain⟨o2,L,_⟩:=Y
    rcases W with rfl|rfl|rfl|rfl|rfl
    .exact zT
    .exact neT _ _ C
    .exact neT _ _ J
    .exact neT _ _ L
    .exact neT _ _ f
   rw[aj this]
   exact(hf b g).1
 done:=by
  intro X hP hw hK T i U s σ H E I hf st hg
  subst hP hw hK
  obtain⟨S,f,⟨u0,v0,C⟩,N,Y⟩:=st
  obtain⟨hd,hi⟩:=hg
  obtain⟨O,R,Z⟩:=iG I hd ho
  have j:kvs.length=O.length:=Ro R
  have M:s.heap.IsKeyIter B d i O.length ep:=by rw[<-j];exact N
  refine pz (knd:=aN X.prog X.w) (I.ok.hd T) D S f M Z (Tp "`") fun h' hk=>⟨rfl,I.turnedL (t':=s.toks) (ch:=[z,TO,B,F,TI]) hf fun c o T q=>?_⟩
  have a:¬(c=z\/c=TO\/c=B\/c=F\/c=TI):=by simpa using T
  exact hk c o (fun e=>a (.inl e)) (fun e=>a (.inr (.inl e))) (fun e=>a (.inr (.inr (.inl e)))) (fun e=>a (.inr (.inr (.inr (.inl e))))) q
 self:=fun A i s Q E st h=>WJ st.1 h
def GH(l:QI):QP:={cls:=.type "list_iterator",data:=.fields #[.ref l,.int 0 0]}
def Nd(h:QS)(d n ep:Nat):QS:=h.push (nu d n ep)
def LW(h:QS)(d n ep l:Nat):QS:=(Nd h d n ep).push (GH l)
def LF(h:QS)(d n ep l:Nat):QS:=(LW h d n ep l).push {cls:=.type "tuple",data:=.seq #[.ref h.objs.size,.ref (Nd h d n ep).objs.size]}
def MU(h:QS)(d n ep l:Nat):QS:=(LF h d n ep l).push {cls:=.type "tuple",data:=.seq #[.none,.none]}
def Qa(h:QS)(d n ep l:Nat):QS:=(MU h d n ep l).push {cls:=.type "zip",data:=.fields #[.none,.bool false,.bool false,.ref (LW h d n ep l).objs.size,.ref (LF h d n ep l).objs.size]}
section
variable {prog:Q0}{w:QX}{κ:Type} [DecidableEq κ] {knd:KeyKind prog w κ}{A:Q6}{E:QJ->QL->Prop}{s:QL}
theorem Hl(d l:QI)(lo:(d==Sq)=ξ)(kvs:⇑(κ×QJ))(ep:Nat)(ys:Array QJ):
  MeetsIn prog w (Sg.«zip.__new__» ⟨[.type "zip",.ref d,.ref l],[]⟩) (fun _ R s=>s.heap.DictAt knd d kvs ep/\s.heap.IsList l ys/\R (.ok (.ret (.ref (MU s.heap d kvs.length ep l).objs.size))) {s with heap:=Qa s.heap d kvs.length ep l}):=by
 refine Yb fun A R s h=>?_
 obtain⟨c,g,e,f,os⟩:=s
 obtain⟨hm,i,h⟩:=h
 have a:=sub_zip
 have b:Heap.IsList (Shared.heap ⟨c.push (nu d kvs.length ep),g,e,f,os⟩) l ys:=ace i _
 unfold nu at b
 wp_walk using(U6 (knd:=knd) lo hm),(Vi b)
 exact⟨_,rfl,h⟩
theorem ym{d l:QI}(lo:(d==Sq)=ξ){kvs:⇑(κ×QJ)}{ep:Nat}{ys:Array QJ}{Q:QJ->QL->Prop}(hm:s.heap.DictAt knd d kvs ep)(r:s.heap.IsList l ys)
  (q:∀h',R6 h' (s.heap.objs.size+4) (s.heap.objs.size+2) (s.heap.objs.size+3) .none->Ry h' (s.heap.objs.size+2) (.ref s.heap.objs.size) (.ref (s.heap.objs.size+1))->Ry h' (s.heap.objs.size+3) .none .none->h'.IsKeyIter s.heap.objs.size d 0 kvs.length ep->h'.IsListIter (s.heap.objs.size+1) l 0->
   (∀c o,s.heap.get? c=ψ o->h'.get? c=ψ o)->Q (.ref (s.heap.objs.size+4)) {s with heap:=h'}):QM (model prog w) A (call (.type "zip") [.ref d,.ref l]) Q E s:=by
 refine callType_newIn abA "^" (aaD _ _) (abJ _ _) (fun f=>abv f _ _) aa9 (Hl (knd:=knd) d l lo kvs ep ys) ⟨hm,r,?_⟩
 have g:(Nd s.heap d kvs.length ep).objs.size=s.heap.objs.size+1:=Sh ..
 have h:(LW s.heap d kvs.length ep l).objs.size=s.heap.objs.size+2:=by unfold LW;rw[Sh,g]
 have i:(LF s.heap d kvs.length ep l).objs.size=s.heap.objs.size+3:=by unfold LF;rw[Sh,h]
 have m:(MU s.heap d kvs.length ep l).objs.size=s.heap.objs.size+4:=by unfold MU;rw[Sh,i]
 have t:∀c o,s.heap.get? c=ψ o->(Nd s.heap d kvs.length ep).get? c=ψ o:=fun c o e=>Rj _ e
 have n:∀c o,(Nd s.heap d kvs.length ep).get? c=ψ o->(LW s.heap d kvs.length ep l).get? c=ψ o:=fun c o e=>Rj _ e
 have j:∀c o,(LW s.heap d kvs.length ep l).get? c=ψ o->(LF s.heap d kvs.length ep l).get? c=ψ o:=fun c o e=>Rj _ e
 have b:∀c o,(LF s.heap d kvs.length ep l).get? c=ψ o->(MU s.heap d kvs.length ep l).get? c=ψ o:=fun c o e=>Rj _ e
 have a:∀c o,(MU s.heap d kvs.length ep l).get? c=ψ o->(Qa s.heap d kvs.length ep l).get? c=ψ o:=fun c o e=>Rj _ e
 have g1:=a _ _ (b _ _ (j _ _ (n _ _ (Rt s.heap (o:=nu d kvs.length ep) rfl))))
 have g2:=a _ _ (b _ _ (j _ _ (Rt (Nd s.heap d kvs.length ep) (o:=GH l) rfl)))
 have g3:=a _ _ (b _ _ (Rt (LW s.heap d kvs.length ep l) (o:={cls:=.type "tuple",data:=.seq #[.ref s.heap.objs.size,.ref (Nd s.heap d kvs.length ep).objs.size]}) rfl))
 have p:=a _ _ (Rt (LF s.heap d kvs.length ep l) (o:={cls:=.type "tuple",data:=.seq #[.none,.none]}) rfl)
 have k:(Qa s.heap d kvs.length ep l).get? (MU s.heap d kvs.length ep l).objs.size=ψ _:=Rt _ rfl
 rw[g]at g2
 rw[h,g]at g3
 rw[i]at p
 rw[m,h,i]at k
 show _/\_
 rw[m]
 exact⟨⟨_,k,rfl⟩,q _ k g3 p ⟨_,g1,rfl,rfl⟩ ⟨_,g2,rfl,rfl⟩ fun c o e=>a _ _ (b _ _ (j _ _ (n _ _ (t _ _ e))))⟩
end
section
variable {X:Cx}
def Hw(K:QK)(b:TA):TI:=fun c H R=>b c H fun e a=>∃(d l:QI)(kvs:⇑(Key×V)),e=[.ref d,.ref l]/\a d=ψ (.dK kvs)/\(∃ys,aD K a l ys)/\d≠l/\∀(o:QP),R (PD K d l o kvs) (upd a d (.frz o (.dK kvs)))
theorem J0{a b:QQ}{J:TA}{k:⇑QQ}{P}{p j pt:Q9}(Q:Gl X "zip")(hm:X.mg "zip"=χ)(ha:PA X [a,b] J)(S:Q5 [a,b] X.env=(false,eval a X.env)::Q5 [b] X.env:=by rfl)(u:(Rx j (Q5 [b] X.env)).any (·.1)=ξ:=by rfl):
  PI X (.Tuple k P pt) (.Call (.Name "zip" p) [a,b] [] j) (Hw X.K J):=by
 intro m s T H R I h
 refine Call_ (iE I Q hm boot_zip (TC (cf (ha j m s T H _ I h) fun us f ⟨v,H1,I1,U,V⟩=>?_) S u))
 obtain⟨d,l,kvs,e,hd,⟨ys,x⟩,W,q⟩:=V
 subst e
 cases U with
 |cons r y=>
  cases y with
  |cons Y y=>
   cases y
   cases r
   cases Y
   obtain⟨z,A,v,B,Z⟩:=fw I1.hok (.inl hd)
   have n:kvs.length=v.length:=Ro B
   obtain⟨o,es,L,M,hex,i,r⟩:=id Z
   have IF:=I1.freeze hd M
   have C:f.heap.DictAt (aN X.prog X.w) d v L:=⟨o,es,M,hex,i,r⟩
   obtain⟨N,α,t,β⟩:=I1.list x
   have D:d<f.heap.objs.size:=I1.hok.lt hd
   have E:l<f.heap.objs.size:=by obtain⟨o,e,_⟩:=t.isList;exact Rc e
   refine ym (knd:=aN X.prog X.w) A C t.isList fun h' O F G k1 k2 hk=>?_
   refine WJ O ?_
   refine⟨f.heap.objs.size+4,[f.heap.objs.size+4,f.heap.objs.size+3,f.heap.objs.size,f.heap.objs.size+1,f.heap.objs.size+2],_,_,_,rfl,IF.kept (t':=f.toks) hk,FR d l _ _ _ _ _ o es L i kvs (Yq _ _ _ D E),⟨O,F,⟨_,_,G⟩,by rw[n];exact k1,k2⟩,fun c hc=>?_,q o⟩
   have g:f.heap.objs.size<=c:=by
    have g:c=f.heap.objs.size+4\/c=f.heap.objs.size+3\/c=f.heap.objs.size\/c=f.heap.objs.size+1\/c=f.heap.objs.size+2:=by simpa using hc
    rcases g with e|e|e|e|e
    .rw[e];exact Tn _ _
    .rw[e];exact Tn _ _
    .rw[e];exact Q2 _
    .rw[e];exact Tn _ _
    .rw[e];exact Tn _ _
   exact IF.fpOk g (IF.hok.fresh g)
end
theorem KY{K:QK}{d l:QI}{o:QP}{kvs:⇑(Key×V)}{ys:⇑V}(p r:Nat)(u:Nat->V)(b:∀i q,kvs[i]?=ψ q->kV q.1=u i)(g:kvs.length<=ys.length):
  Ys (PD K d l o kvs) (dN K 2 (aR (af p) (aR (af r) dJ))) (fun H=>H d=ψ (.frz o (.dK kvs))/\aD K H l ys) kvs.length (fun i a=>(a.set p (ψ (u i))).set r (ψ (ys.getD i .non))) where
 go:=fun i H hi h=>⟨h.1,ys,ys[i]'"`",kvs[i],h.2,QZ "`",QZ hi⟩
 stop:=fun H h=>⟨h.1,rfl⟩
 yld:=fun i H x j a Q hi h y q=>by
  obtain⟨T,w,v,rfl,c,rfl,hw,f⟩:=y
  have e:ys.getD i .non=v:=by simp[Q3,f ys h.2]
  exists T,_,rfl,d5.of ak,rfl,_,_,rfl,_,_,rfl,rfl
  have:=q _ (ah.updN c (o:=.tup [kV w.1,v]))
  rw[<-b i w hw,e]at this
  exact this
theorem mM:U2 (.type "zip") "keys"=pure none:=by rw[We,builtinLookup_eq_fast];kernel_rfl
theorem qW:U2 (.type "zip") "__getattr__"=pure none:=by rw[We,builtinLookup_eq_fast];kernel_rfl
theorem jN:entryFor table "zip.__getattribute__"=ψ Sg.«object.__getattribute__»:=
 entryFor_alias (id':="object.__getattribute__") (by kernel_rfl) nofun nofun (by kernel_rfl)
theorem uv(a:QI)(xs:Array QJ)(h:Array (Option QJ))(u:Tok):
  Meets (Sg.«object.__getattribute__» ⟨[.ref a,.str "keys" u],[]⟩) (fun A R s=>s.heap.get? a=ψ {cls:=.type "zip",dict:=χ,data:=.fields xs,slots:=h}/\raisesAttr (.ref a) "keys" A R s):=
 Meets.of_wp fun f w A R s b=>by
  obtain⟨i,g,d,j,os⟩:=s
  obtain⟨k,b⟩:=b
  have l:(⟨i,g,d,j,os⟩:QL).TypeIs (.ref a) "zip":=⟨_,k,rfl⟩
  have c:=mM
  have e:(["__module__","__name__","__qualname__","__doc__","__annotations__"]:⇑QH).contains "keys"=ξ:=nofun
  unfold Sg.«object.__getattribute__»
  repeat (any_goals (first|assumption|wp_step))
  exact wpAny_raiseAttrError b.1 b.2 (attrMsg_fits nofun (by size_fits))
section
variable {prog:Q0}{w:QX}{A:Q6}{E:QJ->QL->Prop}{s:QL}
theorem Dg{a:QI}{o:QP}{xs:Array QJ}{Q:Option QJ->QL->Prop}(hx:s.heap.get? a=ψ o)(k:o.cls=.type "zip")(f:o.data=.fields xs)(hd:o.dict=χ)(n:A.handled=χ)
  (h:∀h' l,(∀b o,s.heap.get? b=ψ o->h'.get? b=ψ o)->Q none {s with heap:=h',toks:=l}):QM (model prog w) A (getAttr? (.ref a) "keys") Q E s:=by
 obtain⟨c,p,dat,q⟩:=o
 simp only at k f hd
 subst k f hd
 obtain⟨r,g,d,l,os⟩:=s
 have m:∀i,(⟨r,g,d,i,os⟩:QL).TypeIs (.ref a) "zip":=fun _=>⟨_,hx,rfl⟩
 have t:=sub_AttributeError
 have u:=WY.lookup
 have v:=WY.bind (.ref a)
 have x:=qW
 have y:=mM
 unfold getAttr? getAttrBy? getAttrBy
 repeat (any_goals (first|assumption|exact m _|((with_reducible show QM _ _ (call (Zr "zip.__getattribute__") _ _) _ _ _);refine Sy WY (m _) jN (aaW _ _) (uv a xs q _) ⟨hx,n,fun h' i e j=>?_⟩)|wp_step))
 obtain⟨z,B,he⟩:=j.there
 show QM _ _ (V6 _ _ _ _ _ _ _) _ _ _
 unfold V6
 repeat (any_goals (first|assumption|wp_step))
 exact h _ _ j.keeps
end
abbrev iq(h:QS)(z TI TO:QI)(a:QJ)(f:Bool):Prop:=h.get? z=ψ {cls:=.type "zip",data:=.fields #[a,.bool f,.bool false,.ref TI,.ref TO]}
section
variable {prog:Q0}{w:QX}{κ:Type} [DecidableEq κ] {knd:KeyKind prog w κ}{A:Q6}{E:QJ->QL->Prop}{s:QL}
variable {z TI TO i1 i2 d l T:QI}{n ep:Nat}{kvs:⇑(κ×QJ)}{ys:Array QJ}{f:Bool}{oT:QP}
theorem yC{Q:Bool->QL->Prop}(hz:iq s.heap z TI TO (RF T) f)(d:s.heap.get? T=ψ oT)(q:∀h',iq h' z TI TO (RF T) true->SG z s.heap h'->Q false {s with heap:=h'}):
  QM (model prog w) A (V1 (.ref z)) Q E s:=by
 unfold V1
 refine QN (RS hz rfl (x:=RF T) rfl ?_)
 show QM _ _ (loadIfAlive ((T:Int).toNat) >>= _) _ _ _
 rw[Ws]
 refine QN (kdx_alive d ?_)
 simp only[Option.isNone_some,Tr,if_false]
 refine QN (RS hz rfl (x:=.bool f) rfl ?_)
 cases f with
 |true=>
  rw[if_neg (show ¬((Tb true != Tb true)=ω)from RA)]
  exact Q8 (q _ hz (abU _ _))
 |false=>
  rw[if_pos (show(Tb false != Tb true)=ω from rfl)]
  exact QN (UJ hz ⋯ fun c a b=>Q8 (q c a b))
theorem Fe{k:κ}{v y:QJ}{Q:QJ->QL->Prop}(D:So z TI TO i1 i2 d l)(hz:iq s.heap z TI TO (RF T) f)(C:s.heap.get? T=ψ oT)(j:Ry s.heap TI (.ref i1) (.ref i2))
  (F:s.heap.IsKeyIter i1 d n kvs.length ep) (hd:s.heap.DictAt knd d kvs ep) (G:s.heap.IsListIter i2 l n) (H:s.heap.IsList l ys) (hx:kvs[n]?=ψ (k,v)) (I:ys[n]?=ψ y)
  (q:∀x h',knd.is k x=ω->iq h' z TI TO (RF T) true->h'.IsKeyIter i1 d (n+1) kvs.length ep->h'.IsListIter i2 l (n+1)->Ry h' s.heap.objs.size x y->h'.objs.size=s.heap.objs.size+1->dc s z TO i1 i2 h'->Q (.ref s.heap.objs.size) {s with heap:=h'}):
  QM (model prog w) A (Sg.«zip.__next__» ⟨[.ref z],[]⟩) (fun m J=>∃v,m=.done (.ret v)/\Q v J) E s:=by
 show QM _ _ (field (.ref z) 2 >>= _) _ _ _
 refine QN (RS hz rfl (x:=.bool false) rfl (QN (RS hz rfl (x:=.ref TI) rfl (QN (Ta j rfl (QN ?_))))))
 refine yC hz C fun M K b=>?_
 simp only[Tr,if_false]
 refine QN ?_
 simp only[<-ZG,UU,U4]
 refine QN (QN (TJ ?_))
 show QM _ _ (S6 (.ref i1) >>= _) _ _ _
 refine QN (jy (knd:=knd) (F.at fun o e=>b.extBut _ _ D.i1z e) (hd.extBut b.extBut D.l1z) hx fun x N g g1 h=>Q8 (Q8 ?_))
 refine QN (QN (TJ ?_))
 show QM _ _ (S6 (.ref i2) >>= _) _ _ _
 refine QN (Ya (G.at fun o e=>h.extBut _ _ D.i12.symm (b.extBut _ _ D.i2z e)) (H.at fun o e=>h.extBut _ _ D.l2i1 (b.extBut _ _ D.l2z e)) I fun a g2 i=>Q8 (Q8 (Q8 ?_)))
 show QM _ _ (newTuple [x,y] >>= _) _ _ _
 refine QN (wpAny_newTuple (Q8 ⟨_,rfl,?_⟩))
 have sz:a.objs.size=s.heap.objs.size:=by rw[i.1,h.1,b.1]
 have p:∀c o,c≠z->c≠i1->c≠i2->s.heap.get? c=ψ o->a.get? c=ψ o:=fun c o r t u e=>i.extBut _ _ u (h.extBut _ _ t (b.extBut _ _ r e))
 have L:iq a z TI TO (RF T) true:=i.extBut _ _ D.i2z.symm (h.extBut _ _ D.i1z.symm K)
 have B:Ry (a.push {cls:=.type "tuple",data:=.seq #[x,y]}) a.objs.size x y:=Rt _ rfl
 show Q (.ref a.objs.size) _
 rw[sz]
 rw[sz]at B
 exact q x (a.push {cls:=.type "tuple",data:=.seq #[x,y]}) g (Rj _ L) (g1.at fun o e=>Rj _ (i.extBut _ _ D.i12 e)) (g2.at fun o e=>Rj _ e) B (by rw[Sh,sz]) fun c o r _ t u e=>Rj _ (p c o r t u e)
theorem HP{Q:Fin->QL->Prop}(g:A.handled=χ)(D:So z TI TO i1 i2 d l)(hz:iq s.heap z TI TO (RF T) f)(h:s.heap.get? T=ψ oT)(a:Ry s.heap TI (.ref i1) (.ref i2))
  (i:s.heap.IsKeyIter i1 d n kvs.length ep) (hd:s.heap.DictAt knd d kvs ep) (hx:kvs[n]?=χ)
  (q:∀h' e,dc s z TO i1 i2 h'->(∃o,h'.get? e=ψ o/\o.cls=.type "StopIteration")->E (.ref e) {s with heap:=h'}):QM (model prog w) A (Sg.«zip.__next__» ⟨[.ref z],[]⟩) Q E s:=by
 show QM _ _ (field (.ref z) 2 >>= _) _ _ _
 refine QN (RS hz rfl (x:=.bool false) rfl (QN (RS hz rfl (x:=.ref TI) rfl (QN (Ta a rfl (QN ?_))))))
 refine yC hz h fun r t b=>?_
 simp only[Tr,if_false]
 refine QN ?_
 simp only[<-ZG,UU,U4]
 refine QN (QN (TJ ?_))
 show QM _ _ (S6 (.ref i1) >>= _) _ _ _
 exact QN (ly (knd:=knd) g (i.at fun o e=>b.extBut _ _ D.i1z e) (hd.extBut b.extBut D.l1z) hx fun j e k he=>q j e (fun c o m _ p _ x=>k _ _ p (b.extBut _ _ m x)) he)
theorem xA{k:κ}{v y:QJ}{Q:Option QJ->QL->Prop}(D:So z TI TO i1 i2 d l)(hz:iq s.heap z TI TO (RF T) f)(c:s.heap.get? T=ψ oT)(b:Ry s.heap TI (.ref i1) (.ref i2))
  (e:s.heap.IsKeyIter i1 d n kvs.length ep) (hd:s.heap.DictAt knd d kvs ep) (g:s.heap.IsListIter i2 l n) (h:s.heap.IsList l ys) (hx:kvs[n]?=ψ (k,v)) (i:ys[n]?=ψ y)
  (q:∀x h',knd.is k x=ω->iq h' z TI TO (RF T) true->h'.IsKeyIter i1 d (n+1) kvs.length ep->h'.IsListIter i2 l (n+1)->Ry h' s.heap.objs.size x y->h'.objs.size=s.heap.objs.size+1->dc s z TO i1 i2 h'->Q (ψ (.ref s.heap.objs.size)) {s with heap:=h'}):
  QM (model prog w) A (R5 (.ref z)) Q E s:=by
 have a:s.TypeIs (.ref z) "zip":=⟨_,hz,rfl⟩
 unfold R5
 exact QN (Vv (UQ (name:=Vc "__next__") a TF (Up TF a Vq (Fe D hz c b e hd g h hx i fun x h' j m o p r t u=>Q8 (q x h' j m o p r t u)) (V2 _))))
theorem AL{Q:Option QJ->QL->Prop}(g:A.handled=χ)(D:So z TI TO i1 i2 d l)(hz:iq s.heap z TI TO (RF T) f)(h:s.heap.get? T=ψ oT)(c:Ry s.heap TI (.ref i1) (.ref i2))
  (i:s.heap.IsKeyIter i1 d n kvs.length ep) (hd:s.heap.DictAt knd d kvs ep) (hx:kvs[n]?=χ) (q:∀h',dc s z TO i1 i2 h'->Q none {s with heap:=h'}):QM (model prog w) A (R5 (.ref z)) Q E s:=by
 have a:s.TypeIs (.ref z) "zip":=⟨_,hz,rfl⟩
 unfold R5
 refine QN (Vv (UQ (name:=Vc "__next__") a TF (Up TF a Vq (HP (knd:=knd) (by first|exact g|exact(show A.in1.handled=χ from g)) D hz h c i hd hx fun h' e j ⟨o,k,m⟩=>?_) (V2 _))))
 exact QN (wpAny_isInstance (T:="StopIteration") (b:=ω) ⟨o,k,m⟩ isSubtype_stop (Q8 (q _ j)))
noncomputable def wj(h:QS)(z TI TO i1 i2 d l D:QI)(i n ep:Nat):Prop:=
 ((R6 h z TI TO .none/\∃u v,Ry h TO u v)\/∃(T:QI)(oT:QP)(f:Bool),iq h z TI TO (RF T) f/\h.get? T=ψ oT/\T≠z/\T≠TO/\T≠i1/\T≠i2/\T≠D)/\Ry h TI (.ref i1) (.ref i2)/\h.IsKeyIter i1 d i n ep/\h.IsListIter i2 l i
theorem wj.at{h h':QS}{a:QI}{i:Nat}(x:wj h z TI TO i1 i2 d l a i n ep)(k:∀b o,b≠a->h.get? b=ψ o->h'.get? b=ψ o)(c:z≠a)(j:TI≠a)(m:TO≠a)(q:i1≠a)(s:i2≠a):wj h' z TI TO i1 i2 d l a i n ep:=by
 obtain⟨t,w,y,A⟩:=x
 refine⟨?_,k _ _ j w,y.at fun o e=>k _ _ q e,A.at fun o e=>k _ _ s e⟩
 rcases t with⟨p,u,v,r⟩|⟨T,oT,f,p,r,B,C,D,E,g⟩
 .exact .inl ⟨k _ _ c p,u,v,k _ _ m r⟩
 .exact .inr ⟨T,oT,f,k _ _ c p,k _ _ g r,B,C,D,E,g⟩
theorem DM{k:κ}{v y:QJ}{j:QI}{Q:Option QJ->QL->Prop}(D:So z TI TO i1 i2 d l)(O:wj s.heap z TI TO i1 i2 d l j n kvs.length ep)(m:j<s.heap.objs.size)(hd:s.heap.DictAt knd d kvs ep)(H:s.heap.IsList l ys)(hx:kvs[n]?=ψ (k,v))(I:ys[n]?=ψ y)
  (q:∀x h',knd.is k x=ω->wj h' z TI TO i1 i2 d l j (n+1) kvs.length ep->Ry h' s.heap.objs.size x y->h'.objs.size=s.heap.objs.size+1->dc s z TO i1 i2 h'->Q (ψ (.ref s.heap.objs.size)) {s with heap:=h'}):QM (model prog w) A (R5 (.ref z)) Q E s:=by
 obtain⟨P,a,p,r⟩:=O
 have c:∀h',dc s z TO i1 i2 h'->Ry h' TI (.ref i1) (.ref i2):=fun h' R=>R _ _ D.TIz D.TITO D.TIi1 D.TIi2 a
 have S:i1<s.heap.objs.size:=by obtain⟨o,e,_⟩:=p;exact Rc e
 have U:i2<s.heap.objs.size:=by obtain⟨o,e,_⟩:=r;exact Rc e
 rcases P with⟨h,u,W,g⟩|⟨T,oT,f,h,J,K,L,M,N,V⟩
 .refine ny (knd:=knd) D h a g p hd r H hx I fun x h' t B X C F i G b=>q x h' t ⟨.inr ⟨_,_,false,B,i,?_,?_,?_,?_,?_⟩,c _ b,C,F⟩ i G b
  .exact Sf (Rc h)
  .exact Sf (Rc g)
  .exact Sf S
  .exact Sf U
  .exact Sf m
 .exact xA (knd:=knd) D h J a p hd r H hx I fun x h' t B C F i G b=>q x h' t ⟨.inr ⟨T,oT,true,B,b _ _ K L M N J,K,L,M,N,V⟩,c _ b,C,F⟩ i G b
theorem Gg{g:QI}{Q:Option QJ->QL->Prop}(c:A.handled=χ)(D:So z TI TO i1 i2 d l)(h:wj s.heap z TI TO i1 i2 d l g n kvs.length ep)(hd:s.heap.DictAt knd d kvs ep)(hx:kvs[n]?=χ)
  (q:∀h',dc s z TO i1 i2 h'->Q none {s with heap:=h'}):QM (model prog w) A (R5 (.ref z)) Q E s:=by
 obtain⟨i,a,e,m⟩:=h
 rcases i with⟨b,u,o,j⟩|⟨T,oT,f,b,k,p,r,t,v,x⟩
 .exact pz (knd:=knd) c D b a e hd hx q
 .exact AL (knd:=knd) c D b k a e hd hx q
end
section
variable {prog:Q0}{w:QX}{κ:Type} [DecidableEq κ] {knd:KeyKind prog w κ}{A:Q6}{R:Result->QL->Prop}{E:QJ->QL->Prop}
variable {z TI TO i1 i2 d l Dn:QI}{ep:Nat}{kvs:⇑(κ×QJ)}{ys:Array QJ}
theorem Fp(hA:A.handled=χ)(Dz:So z TI TO i1 i2 d l)(J:z≠Dn)(a2:TI≠Dn)(K:TO≠Dn)(L:i1≠Dn)(M:i2≠Dn)(a6:d≠Dn)(a7:l≠Dn)(vs:⇑(κ×QJ))(res:QJ)
  (β:vs.length=kvs.length) (N:∀(i:Nat)(p:κ×QJ),vs[i]?=ψ p->∃v,kvs[i]?=ψ (p.1,v)/\ys[i]?=ψ p.2) (hn:vs.length<=1000) (nd:(vs.map (·.1)).Nodup):
  ∀(k i:Nat)(s:QL),kvs.length-i=k->i<=kvs.length->wj s.heap z TI TO i1 i2 d l Dn i kvs.length ep->s.heap.DictAt knd d kvs ep->s.heap.IsList l ys->s.heap.DictOf knd Dn (vs.take i)->
   (∀h' tk,(∀b o,b≠z->b≠TO->b≠i1->b≠i2->b≠Dn->s.heap.get? b=ψ o->h'.get? b=ψ o)->h'.DictOf knd Dn vs->R (.ok (.ret res)) {s with heap:=h',toks:=tk})->
   SM (model prog w) A (.builtin "dict.update.loop" ⟨[.ref Dn,.ref z,.int i 0,res],[]⟩) R s:=by
 have a:∀{kvs:⇑(κ×QJ)}{h h':QS},h.DictOf knd Dn kvs->(∀o,h.get? Dn=ψ o->h'.get? Dn=ψ o)->h'.DictOf knd Dn kvs:=fun x k=>let ⟨o,es,ep,O,r⟩:=x;⟨o,es,ep,k o O,r⟩
 intro k
 induction k with
 |zero=>
  intro i s D hi g hd P m Q
  have δ:i=kvs.length:=by omega
  rw[SU "`"]at m
  refine codeAny_builtin mo ?_
  rw[Um dO _]
  show QM _ A.in1 (R5 (.ref z) >>= _) _ _ s
  refine QN (Gg (knd:=knd) hA Dz g hd (Tp "`") fun h' D=>?_)
  show QM _ A.in1 (ZE Dn [] >>= fun _=>ret res) _ _ _
  exact QN (Q8 (Q8 (Q h' s.toks (fun b o E F G H _ e=>D b o E F G H e) (a m fun o e=>D Dn o J.symm K.symm L.symm M.symm e))))
 |succ k ih=>
  intro i s D hi g hd P m Q
  have S:i<kvs.length:=by omega
  have c:vs[i]?=ψ vs[i]:=QZ "`"
  generalize vs[i]=p at c
  obtain⟨x0,U,hy⟩:=N i p c
  have n:Dn<s.heap.objs.size:=by obtain⟨o,_,_,O,_⟩:=id m;exact Rc O
  refine codeAny_builtin mo ?_
  rw[Um dO _]
  show QM _ A.in1 (R5 (.ref z) >>= _) _ _ s
  refine QN (DM (knd:=knd) Dz g n hd P U hy fun q h1 t u y γ f=>?_)
  have V:=a m fun o e=>f Dn o J.symm K.symm L.symm M.symm e
  show QM _ A.in1 (holding [Rf s.heap.objs.size] _ >>= _) _ _ _
  refine QN (TJ ?_)
  refine QN (wpAny_tryCatch ?_)
  unfold Zu
  refine QN (VE (T:="tuple") ⟨_,y,rfl⟩ ?_)
  rw[if_pos "^"]
  refine QN (Ta y rfl (Q8 ?_))
  show QM _ A.in1 (holding [q,p.2] (dictSet Dn q p.2)) _ _ _
  refine TJ (wpAny_dictSet_pairs (knd:=knd) t V (fun h2 B W=>?_) (by rw[RJ,sizeLine_eq];omega))
  have C:stored (vs.take i) p.1 p.2=vs.take (i+1):=by
   unfold stored
   rw[if_neg]
   .rw[Uh,c];rfl
   .intro z
    obtain⟨x,U,e⟩:=VV.mp z
    obtain⟨j,hj,ej⟩:=Sa U
    have X:j<i/\j<vs.length:=by rw[RJ]at hj;omega
    rw[Vl]at ej
    have e:x.1=p.1:=by simpa using e
    obtain⟨ε,ei⟩:=Rw.mp c
    have:=Se.mp nd j i "%" "%" X.1
    simp only[Ui]at this
    rw[ej,ei]at this
    exact this e
  rw[C]at B
  have I:∀b o,b≠Dn->h1.get? b=ψ o->h2.get? b=ψ o:=fun b o hb e=>by rw[W.2 b hb];exact e
  refine Q8 ⟨plainId_quiet dO _,?_⟩
  refine ih (i+1) {s with heap:=h2,toks:=s.toks+1} "`" S (u.at I J a2 K L M) ?_ ?_ B fun h' Y Z α=>?_
  .exact hd.at' fun o e=>I _ _ a6 (f _ _ Dz.l1z Dz.l1TO Dz.l1i1 Dz.l1i2 e)
  .exact P.at fun o e=>I _ _ a7 (f _ _ Dz.l2z Dz.l2TO Dz.l2i1 Dz.l2i2 e)
  .exact Q h' Y (fun b o E F G H b5 e=>Z b o E F G H b5 (I _ _ b5 (f b o E F G H e))) α
theorem xm{s:QL}{Q:QJ->QL->Prop}(x:A.handled=χ)(Dz:So z TI TO i1 i2 d l)(hz:R6 s.heap z TI TO .none)(j:Ry s.heap TI (.ref i1) (.ref i2))(f:∃u v,Ry s.heap TO u v)(y:s.heap.IsKeyIter i1 d 0 kvs.length ep)(B:s.heap.IsListIter i2 l 0)
  (hd:s.heap.DictAt knd d kvs ep) (C:s.heap.IsList l ys) (vs:⇑(κ×QJ)) (k:vs.length=kvs.length) (n:∀(i:Nat)(p:κ×QJ),vs[i]?=ψ p->∃v,kvs[i]?=ψ (p.1,v)/\ys[i]?=ψ p.2) (hn:vs.length<=1000) (G:(vs.map (·.1)).Nodup)
  (h:∀(h':QS)(H:Nat),(∀b o,b≠z->b≠TO->b≠i1->b≠i2->s.heap.get? b=ψ o->h'.get? b=ψ o)->h'.DictOf knd s.heap.objs.size vs->Q (.ref s.heap.objs.size) {s with heap:=h',toks:=H}):
  QM (model prog w) A (call (.type "dict") [.ref z]) Q E s:=by
 refine callType_codes (Q₁:=fun m g=>m=.ref s.heap.objs.size/\g={s with heap:=s.heap.push {cls:=.type "dict",data:=.dict #[]}}) Yt (Zg _) YI (kt_code_dict_new _ ⟨rfl,rfl⟩) ?_
 rintro m g ⟨rfl,rfl⟩
 have c:(s.heap.push {cls:=.type "dict",data:=.dict #[]}).DictOf knd s.heap.objs.size []:=Wj s.heap
 have up:∀b o,s.heap.get? b=ψ o->(s.heap.push {cls:=.type "dict",data:=.dict #[]}).get? b=ψ o:=fun b o e=>Rj _ e
 exists c.typeIs,ZI _ _
 unfold Sg.«dict.__init__»
 refine QN ?_
 unfold YH
 refine QN (wpAny_notOrdered_dict c.typeIs ?_)
 show QM _ _ (pure (s.heap.objs.size,[Rf z])) _ _ _
 refine Q8 ?_
 show QM _ _ (Wa "dict.__init__" s.heap.objs.size (.ref z) [] .none) _ _ _
 unfold Wa
 refine QN (VE (T:="zip") ⟨_,up _ _ hz,rfl⟩ ?_)
 rw[if_pos "^"]
 refine QN (Dg (up _ _ hz) rfl rfl rfl x fun D q F=>?_)
 have a:∀b o,s.heap.get? b=ψ o->D.get? b=ψ o:=fun b o e=>F _ _ (up _ _ e)
 simp only[ZT,if_true]
 refine QN (wpAny_rule ?_)
 refine QN (WJ (a _ _ hz) ?_)
 refine Q8 ⟨plainId_quiet dO _,?_⟩
 have lt:∀{b:QI}{o:QP},s.heap.get? b=ψ o->b≠s.heap.objs.size:=fun e=>Rn (Rc e)
 obtain⟨u,v,f⟩:=f
 have I:i1≠s.heap.objs.size:=by obtain⟨o,e,_⟩:=y;exact lt e
 have J:i2≠s.heap.objs.size:=by obtain⟨o,e,_⟩:=B;exact lt e
 have K:d≠s.heap.objs.size:=by obtain⟨o,es,e,_⟩:=hd;exact lt e
 have L:l≠s.heap.objs.size:=by obtain⟨o,e,_⟩:=C;exact lt e
 refine Fp (knd:=knd) (A:=A.in1) x Dz (lt hz) (lt j) (lt f) I J K L vs .none k n hn G _ 0 {s with heap:=D,toks:=q} rfl (RL _) ⟨.inl ⟨a _ _ hz,u,v,a _ _ f⟩,a _ _ j,y.at fun o e=>a _ _ e,B.at fun o e=>a _ _ e⟩ (hd.at' fun o e=>a _ _ e) (C.at fun o e=>a _ _ e) ?_ fun h' t M N=>?_
 .obtain⟨o,es,ep,O,r⟩:=c
  exact⟨o,es,ep,F _ _ O,r⟩
 .exact⟨rfl,h h' t (fun b o P R S U e=>M b o P R S U (lt e) (a _ _ e)) N⟩
end
def B3(kvs:⇑(Key×V))(ys:⇑V):⇑(Key×V):=kvs.zipWith (fun p y=>(p.1,y)) ys
noncomputable def Dm(K:QK)(b:TA):TE:=fun c H Q=>b c H fun f a=>∃(d l:QI)(kvs:⇑(Key×V))(ys:⇑V),f=[.ref d,.ref l]/\a d=ψ (.dK kvs)/\aD K a l ys/\kvs.length<=ys.length/\kvs.length<=1000/\(kvs.map (·.1)).Nodup/\∀e,a e=χ->Q (.ref e) (upd a e (.dK (B3 kvs ys)))
section
variable {X:Cx}
theorem Hm(hc:X.calm=ω){a b:QQ}{ta:TA}{p p2 f n:Q9}(N:Gl X "dict")(O:X.mg "dict"=χ)(hg:Gl X "zip")(hm:X.mg "zip"=χ)(ha:PA X [a,b] ta)(hs:Q5 [a,b] X.env=(false,eval a X.env)::Q5 [b] X.env:=by rfl)(P:(Rx f (Q5 [b] X.env)).any (·.1)=ξ:=by rfl)
  (B:Q5 [.Call (.Name "zip" p) [a,b] [] f] X.env=[(false,eval (.Call (.Name "zip" p) [a,b] [] f) X.env)]:=by rfl):
  PE X (.Call (.Name "dict" p2) [.Call (.Name "zip" p) [a,b] [] f] [] n) (Dm X.K ta):=by
 intro C s σ H Q I h
 refine Call_ (iE I N O boot_dict (TC ?_ B rfl))
 rw[B]
 show QM _ _ (spliced ((false,eval (.Call (.Name "zip" p) [a,b] [] f) X.env)::Rx n [])) _ _ s
 refine W0 ?_
 refine Call_ (iE I hg hm boot_zip (TC (cf (ha f C s σ H _ I h) fun us D ⟨g,H1,I1,r1,q1⟩=>?_) hs P))
 obtain⟨d,l,kvs,ys,e,hd,E,F,x,R,q⟩:=q1
 subst e
 cases r1 with
 |cons r S=>
  cases S with
  |cons r' S=>
   cases S
   cases r
   cases r'
   obtain⟨zz,T,g,z,U⟩:=fw I1.hok (.inl hd)
   have t:kvs.length=g.length:=Ro z
   obtain⟨o,es,ep,V,hex,j,r⟩:=id U
   have k:D.heap.DictAt (aN X.prog X.w) d g ep:=⟨o,es,V,hex,j,r⟩
   obtain⟨c,G,m,W⟩:=I1.list E
   have Y:d<D.heap.objs.size:=I1.hok.lt hd
   have Z:l<D.heap.objs.size:=by obtain⟨o,e,_⟩:=m.isList;exact Rc e
   have α:ys.length=c.length:=G.length
   refine ym (knd:=aN X.prog X.w) T k m.isList fun h' kz β γ k1 k2 hk=>Wr ?_
   have J:KV (B3 kvs ys) (g.zipWith (fun (p:Key×QJ) y=>(p.1,y)) c):=by
    unfold B3
    clear q R x F k r j hex V U t zz hd E m k1 W α
    induction z generalizing ys c with
    |nil=>exact .nil
    |cons h _ ih=>
     cases G with
     |nil=>exact .nil
     |cons L r2=>exact .cons ⟨h.1,L⟩ (ih _ _ r2)
   have ek:(g.map (·.1))=kvs.map (·.1):=by
    clear J q R x F k r j hex V U t zz hd k1
    induction z with
    |nil=>rfl
    |cons h _ ih=>rw[Rk,Rk,ih,h.1]
   have δ:(g.zipWith (fun (p:Key×QJ) y=>(p.1,y)) c).length=g.length:=by rw[XF];omega
   have ε:((g.zipWith (fun (p:Key×QJ) y=>(p.1,y)) c).map (·.1))=g.map (·.1):=by
    apply T5 "%"
    intro i h1 L
    simp
   refine xm (knd:=aN X.prog X.w) (I.ok.hd hc) (Yq _ _ _ Y Z) kz β ⟨_,_,γ⟩ k1 k2 (k.at' fun o e=>hk _ _ e) (m.isList.at fun o e=>hk _ _ e) (g.zipWith (fun (p:Key×QJ) y=>(p.1,y)) c) δ ?_ "`" (by rw[ε,ek];exact R) fun L tk ζ hD=>?_
   .intro i p v
    rw[List.getElem?_zipWith]at v
    cases e1:g[i]? with
    |none=>rw[e1]at v;simp at v
    |some p1=>
     cases e2:c[i]? with
     |none=>rw[e1,e2]at v;simp at v
     |some y=>
      rw[e1,e2]at v
      simp at v
      subst v
      exact⟨p1.2,rfl,by simpa using e2⟩
   .have A:D.heap.objs.size<=h'.objs.size:=by
     exact Tj (WM (Tn _ 4) (Rc kz))
    have kk:∀b u,D.heap.get? b=ψ u->L.get? b=ψ u:=fun b u e=>by
     have M:=Rc e
     exact ζ b u (Rn (Rq M (Tn _ _))) (Rn (Rq M (Tn _ _))) (Rn M) (Rn (Rq M (Tn _ _))) (hk b u e)
    refine⟨.ref h'.objs.size,_,I1.laid (t':=tk) (a:=h'.objs.size) (o:=.dK (B3 kvs ys)) kk A (vE ?_ ?_ J hD),rfl,q _ (I1.hok.fresh A)⟩
    .rw[B3,XF]
     exact QV (QV (W8 _ _) x) "^"
    .exact beq_eq_false_iff_ne.mpr (Rb (Rn (Rq I1.big A)))
end
structure JA(d:QI)(kvs:⇑(Key×V))(o:QP)(H Hf:Hp):Prop where
 fd:Hf d=ψ (.frz o (.dK kvs))
 low:∀a,Hf a=χ->H a=χ
 keep:∀a x,a≠d->H a=ψ x->Hf a=ψ x
section
variable {K:QK}{mp:⇑(Option Nat)}{tt:TT}{te td:TE}{ta:TA}{σ:St}{H Hf:Hp}{Q:VK}{d l:QI}{kvs:⇑(Key×V)}{o:QP}
theorem Ay:JA d kvs o H (upd H d (.frz o (.dK kvs))):=
 ⟨ak,fun a ha=>by
  by_cases b:a=d
  .subst b;rw[ak]at ha;cases ha
  .rwa [aj b]at ha,fun a x ha h=>by rw[aj ha];exact h⟩
theorem Jh{w:QI}{x:HO}(hw:H w=χ):JA d kvs o H (upd (upd H w x) d (.frz o (.dK kvs))):=
 ⟨ak,fun a ha=>by
  by_cases c:a=d
  .subst c;rw[ak]at ha;cases ha
  .rw[aj c]at ha
   by_cases f:a=w
   .subst f;exact hw
   .rwa [aj f]at ha,fun a y ha h=>by
  have b:a≠w:=fun e=>by rw[e,hw]at h;cases h
  rw[aj ha,aj b];exact h⟩
def MF(d:QI)(Q:VK):VK:=fun v a=>∃o kvs,a d=ψ (.frz o (.dK kvs))/\Q v (upd a d (.dK kvs))
theorem ES{g:TG}(a:∀k:VK,k (.ref d) H->td σ H k)(hd:H d=ψ (.dK kvs))(h:∀o Hf,JA d kvs o H Hf->cL mp g tt te (Oa d o kvs) σ Hf (MF d Q)):fQ (bp mp (Bp td) g tt te) σ H Q:=
 ⟨d,kvs,hd,ke (a _ ⟨d,kvs,rfl,hd,fun o=>h o _ Ay⟩)⟩
theorem E6{g:TG}(a:∀k:VK,k (.ref d) H->td σ H k)(hd:H d=ψ (.dK kvs))(h:∀o Hf,JA d kvs o H Hf->cL mp g tt te (Og d o kvs) σ Hf (MF d Q)):fQ (bp mp (HU td) g tt te) σ H Q:=
 ⟨d,kvs,hd,ke (a _ ⟨d,kvs,rfl,hd,fun o v b c=>h o _ (Jh b)⟩)⟩
theorem Dd{g:TG}(a:∀k:VK,k (.ref d) H->td σ H k)(hd:H d=ψ (.dK kvs))(h:∀o Hf,JA d kvs o H Hf->cL mp g tt te (Lc d o kvs) σ Hf (MF d Q)):fQ (bp mp (DH td) g tt te) σ H Q:=
 ⟨d,kvs,hd,ke (a _ ⟨d,kvs,rfl,hd,fun o=>h o _ Ay⟩)⟩
theorem Gh{g:TG}{ys:⇑V}(a:∀k:⇑V->Hp->Prop,k [.ref d,.ref l] H->ta σ H k)(hd:H d=ψ (.dK kvs))(c:aD K H l ys)(b:d≠l)(h:∀o Hf,JA d kvs o H Hf->cL mp g tt te (PD K d l o kvs) σ Hf (MF d Q)):fQ (bp mp (Hw K ta) g tt te) σ H Q:=
 ⟨d,kvs,hd,ke (a _ ⟨d,l,kvs,rfl,hd,⟨ys,c⟩,b,fun o=>h o _ Ay⟩)⟩
variable {J:It}{g:TG}{P:Hp->Prop}{n:Nat}{f:Nat->St->St}
theorem Ca(F:JA d kvs o H Hf)(hd:H d=ψ (.dK kvs))(Y:Ys J g P n f)(st:Nat->St)(B:∀i m,(m=cE mp σ\/∃j,m=st j)->f i m=st i)(C:∀H',H' d=ψ (.frz o (.dK kvs))->dS d H H'->P H')(hz:n<=QT)(b:Nat->Bool)(R:QI->Nat->V->Hp->Prop)
  (D:∀l i v t p,dS l t p->R l i v t->R l i v p) (z:∀l i v t,t d=ψ (.frz o (.dK kvs))->R l i v t->R l i v (upd t d (.dK kvs)))
  (E:∀i,i<n->∀(H':Hp)(G:Bool->Hp->Prop),dS d H H'->(∀c,ah H' c->G (b i) c)->tt (st i) H' G)
  (he:∀l i,i<n->b i=ω->∀(H':Hp)(G:VK),H l=χ->(∃o,H' l=ψ o)->(∃o,H' d=ψ o)->dS d H H'->(∀v c,R l i v c->ah H' c->G v c)->te (st i) H' G)
  (I:∀l ys p,H l=χ->ah H p->p l=ψ (.lst ys)->Q4 (fun i v=>R l i v p) ((Q1 n).filter b) ys->Q (.ref l) p):cL mp g tt te J σ Hf (MF d Q):=by
 have y:∀H',ah Hf H'->dS d H H':=fun H' s a x ha h=>s _ _ (F.keep a x ha h)
 refine eR Y st B (fun H' s=>C H' (s _ _ F.fd) (y H' s)) hz b R D (fun i hi H' G s k=>E i hi H' G (y H' s) k) (fun l i hi K H' G u r s k=>he l i hi K H' G (F.low l u) r ⟨_,s _ _ F.fd⟩ (y H' s) k) fun l ys H' u s r L=>?_
 have w:H' d=ψ (.frz o (.dK kvs)):=s _ _ F.fd
 have A:l≠d:=fun e=>by rw[e,F.fd]at u;cases u
 refine⟨o,kvs,w,I l ys _ (F.low l u) (fun a x ha=>?_) (by rw[aj A];exact r) (Paired.mapP L fun i v q=>z l i v H' w q)⟩
 by_cases r:a=d
 .subst r
  rw[ak,<-hd];exact ha
 .rw[aj r]
  exact y H' s a x r ha
theorem yt(F:JA d kvs o H Hf)(hd:H d=ψ (.dK kvs))(Y:Ys J g P n f)(st:Nat->St)(p:∀i c,(c=cE mp σ\/∃j,c=st j)->f i c=st i)(q:∀H',H' d=ψ (.frz o (.dK kvs))->dS d H H'->P H')(hz:n<=QT)(b:Nat->Bool)(U:Nat->V)
  (r:∀i,i<n->∀(H':Hp)(G:Bool->Hp->Prop),dS d H H'->(∀a,ah H' a->G (b i) a)->tt (st i) H' G)
  (he:∀i,i<n->b i=ω->∀(H':Hp)(G:VK),dS d H H'->(∀a,ah H' a->G (U i) a)->te (st i) H' G)
  (t:∀l m,H l=χ->ah H m->m l=ψ (.lst (((Q1 n).filter b).map U))->Q (.ref l) m):cL mp g tt te J σ Hf (MF d Q):=by
 refine Ca F hd Y st p q hz b (fun _ i v _=>v=U i) (fun _ _ _ _ _ _ h=>h) (fun _ _ _ _ _ h=>h) r (fun l i hi u H' G _ _ _ s k=>he i hi u H' G s fun a w=>k _ a rfl w) fun l ys H' x s y z=>?_
 have e:=jr z
 subst e
 exact t l H' x s y
theorem y6(F:JA d kvs o H Hf)(hd:H d=ψ (.dK kvs))(Y:Ys J g P n f)(st:Nat->St)(y:∀i m,(m=cE mp σ\/∃j,m=st j)->f i m=st i)(A:∀H',H' d=ψ (.frz o (.dK kvs))->dS d H H'->P H')(hz:n<=QT)(b:Nat->Bool)(U:Nat->HO)
  (B:∀i,i<n->∀(H':Hp)(G:Bool->Hp->Prop),dS d H H'->(∀c,ah H' c->G (b i) c)->tt (st i) H' G)
  (he:∀i,i<n->b i=ω->∀(H':Hp)(G:VK),dS d H H'->(∀a c,H' a=χ->ah H' c->c a=ψ (U i)->G (.ref a) c)->te (st i) H' G)
  (C:∀l bs q,H l=χ->ah H q->q l=ψ (.lst (bs.map V.ref))->Q4 (fun i a=>H a=χ/\a≠l/\q a=ψ (U i)) ((Q1 n).filter b) bs->Q (.ref l) q):cL mp g tt te J σ Hf (MF d Q):=by
 refine Ca F hd Y st y A hz b (fun l i v H'=>∃a,v=.ref a/\H a=χ/\a≠l/\H' a=ψ (U i)) (fun l i v D q s ⟨a,e,r,t,p⟩=>⟨a,e,r,t,s a _ t p⟩) (fun l i v D E ⟨a,e,r,t,p⟩=>⟨a,e,r,t,by
  have:a≠d:=fun z=>by rw[z,hd]at r;cases r
  rw[aj this];exact p⟩) B
  (fun l i hi I H' G t ⟨o,K⟩ ⟨N,u⟩ s k=>he i hi I H' G s fun a c h L p=>k _ c ⟨a,rfl,?_,(fun e=>by rw[e,K]at h;cases h),p⟩ L) fun l ys H' h s p M=>?_
 .cases e:H a with
  |none=>rfl
  |some x=>
   have:a≠d:=fun z=>by rw[z,u]at h;cases h
   rw[s a x this e]at h;cases h
 .obtain⟨bs,rfl,w⟩:=hZ (T:=fun a i=>H a=χ/\a≠l/\H' a=ψ (U i)) M
  exact C l bs H' h s p w
end
theorem JX{d:QI}{o:QP}{kvs:⇑(Key×V)}(p:Nat)(u:Nat->V)(b:∀i q,kvs[i]?=ψ q->q.2=u i):
  Ys (Og d o kvs) (af p) (fun H=>H d=ψ (.frz o (.dK kvs))) kvs.length (fun i a=>a.set p (ψ (u i))) where
 go:=fun i H hi h=>⟨h,hi⟩
 stop:=fun H h=>⟨h,Q2 _⟩
 yld:=fun i H x f a Q hi h y q=>by
  obtain⟨e,w,hw,c⟩:=y
  subst e c
  rw[b i w hw]
  exact q _ (ah.refl _)
theorem HN{X:Cx}{st:QU}{g:TE}{i:Nat}(h:PS X st (aV g (af i))):PS X st (aV (fQ g) (af i)):=by
 intro e s k H D I q
 obtain⟨d,j,hd,q⟩:=q
 refine cf (h e s k H {nx:=fun a c=>∃o kvs,c d=ψ (.frz o (.dK kvs))/\D.nx a (upd c d (.dK kvs)),rt:=fun _ _=>False} I q) fun f n l=>?_
 match f,l with
 |.next,⟨a,c,I',o,kvs,m,b⟩=>exact⟨a,_,Inv.thaw I hd I' m,b⟩
 |.brk,⟨a,c,I',b⟩=>exact b.elim
 |.cont,⟨a,c,I',b⟩=>exact b.elim
 |.ret u,⟨v,a,c,I',r,b⟩=>exact b.elim
end L2
namespace L2
open PySem PySem.Spec PyProof.Rows
section
variable {X:Cx}
def sG(a:TE):TE:=fun b H Q=>a b H fun x c=>∃z:QH,x=.str z/\z.length<=QT/\Q (.str z) c
theorem KP{e:QQ}{f:TE}{c:Q9}(he:PE X e f):PE X (.FormattedValue e (-1) none c) (sG f):=by
 intro a s g H Q I h
 refine wpAny_FormattedValue_plain (cf (he a s g H _ I h) fun v i ⟨x,j,I1,l,z,hx,m,q⟩=>?_)
 subst hx
 obtain⟨n,rfl⟩:=(show ∃t,v=Tt z t from l)
 have b:∀(d:Tok)(k:Nat),EP X a g Q (.str z d) {i with toks:=k}:=fun d k=>⟨.str z,j,I1.tok k,⟨d,rfl⟩,q⟩
 exact wpAny_formatField_str (b _ _) (b _ _) (hx:=m)
def Ed:V->⇑V->Hp->VK->Prop:=fun x a H Q=>∃(l:QI)(ns:⇑QH)(i:QH)(j:Nat),x=.ref l/\a=[.str i]/\H l=ψ (.lst (ns.map V.str))/\ns[j]?=ψ i/\(∀m,m<j->ns[m]?≠some i)/\ns.length<1000/\Q (.int j) H
theorem Gq:Ly X "list.index" Ed:=by
 intro A s P H x R v S Q I E G h
 obtain⟨l,ns,i,j,rfl,rfl,J,B,g,T,q⟩:=h
 cases E
 obtain⟨u,rfl,K⟩:=G.one
 obtain⟨z,a,n,r,U,e⟩:=I.lstM J
 have C:a.length=ns.length:=by rw[<-r.length,QR]
 have L:j<ns.length:=(Rw.mp B).1
 have d:∀m (hm:m<a.length),∃k,ns[m]?=ψ k/\Ao (.str i) a[m]=decide (k=i):=fun m hm=>by
  have c:m<ns.length:=by omega
  obtain⟨M,D,p⟩:=r.get (show(ns.map V.str)[m]?=ψ (.str ns[m]) by simp[c])
  have:a[m]=M:=by
   rw[QZ hm]at D
   exact RE D
  exists ns[m],by simp[c]
  rw[this,DQ p rfl]
  show(ns[m]==i)=decide (ns[m]=i)
  by_cases h:ns[m]=i
  .rw[h];simp
  .rw[decide_eq_false h];exact beq_eq_false_iff_ne.mpr h
 refine Sy Zb ⟨_,e,rfl⟩ F.entry_list_index (F.args_list_index_2 _ _)
  (SeqAt.list_indexAt l a.toArray n none #[] u (Ao (.str i)) j (by rw[RH];omega) "`" ?_ ?_) ⟨e,fun y N=>i9 K rfl r (by rw[UK];exact R7.mpr fun _ _=>rfl) y (by simpa using N),?_⟩
 .obtain⟨k,f,t⟩:=d j "`"
  rw[B]at f
  cases f
  show Ao (.str i) a[j]=ω
  rw[t]
  exact decide_eq_true rfl
 .intro m hm w
  have c:m<a.length:=by rw[RH]at hm;exact hm
  obtain⟨k,f,t⟩:=d m c
  show Ao (.str i) a[m]=ξ
  rw[t]
  exact decide_eq_false fun z=>g m w (by rw[f,z])
 .exact⟨.int j,H,I.turnedL (h':=s.heap) (t':=s.toks+1) (ch:=[]) (fun b O=>by cases O) (fun b o _ q=>q),⟨_,rfl⟩,q⟩
end
section
variable {X:Cx}{k:Nat}{c m:QH}{ps:⇑QH}{sp:Sp}{o e:QQ}{es:⇑QQ}{ta:TE}{t:TA}{apos pos:Q9}{pl:Sem Bool}
theorem K9{E:XK}(M:dm (dk X.prog X.w X.base) X.prog X.w X.K X.mg X.base k c m ps sp)(C:me X.K X.mg c)(p:cH k X.A)(hx:∀b,b∉X.ex)(he:PE X.nox o ta)(ha:PA X.nox (e::es) t)
  (g:Q5 (e::es) X.env=(false,eval e X.env)::Q5 es X.env:=by rfl) (i:(Rx pos (Q5 es X.env)).any (·.1)=ξ:=by rfl)
  (v:eval (.Call (.Attribute o m apos) (e::es) [] pos) X.env=(do
   let j <-eval o X.env
   standAt apos.atName
   let (f,first) <-holding [j] (S7 j m pl)
   callWith pos f first (Rx pos (Q5 (e::es) X.env)) (SI pos (SR [] X.env))):=by rfl):PX X (.Call (.Attribute o m apos) (e::es) [] pos) E (bH (aF X.K c) m sp [] E ta t):=by
 obtain⟨f,N,hm,y,F⟩:=M.ex
 intro d s n H Q I h
 refine Vw (pl:=pl) (RX (he d s n H _ (I.wish _) h) (fun u B ⟨x,D,I1,G,a,dx,fs,ex,J,l,q⟩=>?_) fun _ _ z=>z.elim) v
 subst ex
 obtain rfl:u=Rf a:=G
 have I1:=I1.unwish
 refine jP I1 J C.cls hm l ?_
 refine Xq (first:=[.ref a]) (h₀:=X.base) I.ok.mod.kin hm.kp (RX (ha pos d B n D _ (I1.wish _) q) (fun us O ⟨vs,P,I2,r,L⟩=>⟨I2.kIn,?_⟩) fun _ _ z=>z.elim) g i
 exact JS (us:=.ref a::us) (vs:=.ref a::vs) F p y .nil hx I2.unwish (.cons rfl r) L
end
section
variable {mp:⇑(Option Nat)}{g:TG}{te:TE}{J:It}{P:Hp->Prop}{n:Nat}{f:Nat->St->St}{σ:St}{H:Hp}{Q:VK}
end
end L2
namespace L2
open PySem PySem.Spec PyProof.Rows PySem.Builtin PySem.Builtin.Str
section
variable {X:Cx}
end
section
variable {X:Cx}
end
section
variable {mp:⇑(Option Nat)}{g:TG}{te:TE}{J:It}{P:Hp->Prop}{n:Nat}{f:Nat->St->St}{σ:St}{H:Hp}{Q:VK}
end
end L2
set_option maxHeartbeats 4000000
namespace My
open PySem L2
local macro_rules | `(tactic| walk_at "q") => `(tactic| with_reducible refine Iq ?_)
local macro_rules | `(tactic| walk_at "u1") => `(tactic| first
 |with_reducible first|apply yi|apply Oj|apply Eg|apply NK|apply NM
 |((with_reducible show DC _ _ _ _ _ _);refine⟨_,rfl,?_⟩)
 |((with_reducible show aa _ _ _ _);refine⟨_,rfl,?_⟩)
 |with_reducible first|apply Qz|apply P0|apply Qj|apply Oy|apply Pp|apply Ph
 |((with_reducible show ka _ _ _ _);first|refine GV (by first|omega|decide) (by first|omega|decide) ?_|refine Ng (by first|omega|decide) (by first|omega|decide) ?_)
 |((with_reducible show oDiv _ _ _ _);refine Lf (by first|omega|decide) (by first|omega|decide) ?_)
 |((with_reducible show oMod _ _ _ _);refine Oo (by first|omega|decide) ?_)
 |((with_reducible show FF _ _ _ _);refine OH (by decide) (by decide) (by decide) ?_)
 |with_reducible first|apply PY|apply P6|apply P9|apply P7|apply Qg|apply Qh|apply OG|apply MH|apply LR|apply Qr|apply Qd|apply Pr|apply Qq|apply Pk|apply MR|apply P8|apply N6|apply LX|apply Ml|apply Qc|apply OS|apply O8|apply Of|apply ML|apply L9
 |((with_reducible show ∃i j:Int,_=_/\_);refine Kz (by first|omega|decide) (by first|omega|decide) (by first|omega|decide) (by first|omega|decide) ?_)
 |((with_reducible show ∃j:Int,[V.int _]=[V.int _]/\_);refine J9 (by first|omega|decide) (by first|omega|decide) ?_)
 |with_reducible first|apply JI|apply Qb|apply MJ|apply Jr|apply GP|apply ke|apply PU|apply O3|apply KU)
local macro_rules | `(tactic| walk_at "o1") => `(tactic| first
 |walk_at "u1"
 |((with_reducible show c9 _ _ _ _);refine Li (by assumption) ?_)
 |((with_reducible show Bb _ _ _ _);refine Lr (by assumption) ?_)
 |((with_reducible show ∃b:QI,V.ref _=V.ref _/\_);refine br (by assumption) ?_))
local macro_rules | `(tactic| walk_at "w") => `(tactic| repeat (first | with_reducible refine Iq ?_ | walk_at "o1"))
local macro_rules | `(tactic| walk_at "sq") => `(tactic| first | assumption | exact aD.of (by assumption) | exact ah.seq (by assumption) (by walk_at "sq"))
local macro_rules | `(tactic| walk_at "rows") => `(tactic| first | assumption | exact ah.rows (by assumption) (by walk_at "rows"))
local macro_rules | `(tactic| walk_at "fits") => `(tactic| first | exact ZY rfl | (refine QV ?_ aO; simp; done) | (refine QV ?_ aO; simp; omega) | (refine QV ?_ aO; omega))
local macro_rules | `(tactic| walk_at "call") => `(tactic| fail)
local macro_rules | `(tactic| walk_at "early") => `(tactic| fail)
local macro_rules | `(tactic| walk_at "v1") => `(tactic| first
 |walk_at "early"
 |walk_at "u1"
 |((with_reducible show c9 _ _ _ _);refine Li (by walk_at "sq") ?_)
 |((with_reducible show Bb _ _ _ _);refine Lr (by walk_at "sq") ?_)
 |with_reducible first|apply Lz|apply LN
 |((with_reducible show MO _ _ _);refine Mz (by walk_at "fits") ?_;intro _ _ _ _ _)
 |((with_reducible show LA _ _ _);refine MS (by walk_at "fits") ?_;intro _ _ _ _ _)
 |((with_reducible show Az _ _ _ _);refine F8 (by walk_at "sq") ?_;intro _ _ _ _ _)
 |((with_reducible show tV _ false (V.int _) _ _ _);refine Om (by walk_at "sq") ?_)
 |((with_reducible show IU _ true _ _ _ _);first|refine DB (by walk_at "sq") (by walk_at "sq") ?_|refine DB (ms:=[]) (by walk_at "sq") (by walk_at "sq") ?_)
 |((with_reducible show Hj _ _ _ _);refine N9 (by walk_at "sq") ?_)
 |((with_reducible show ∃b:QI,V.ref _=V.ref _/\_);refine br (by walk_at "sq") ?_)
 |with_reducible apply Nh
 |((with_reducible show xq _ _ _ _ _ _);refine LD (by walk_at "sq") ?_;intro _ _ _ _ _)
 |with_reducible first|apply xk|apply Cg|apply Pt|apply Pg
 |walk_at "call")
local macro_rules | `(tactic| walk_at "z") => `(tactic| repeat walk_at "v1")
local macro_rules | `(tactic| walk_at "v") => `(tactic| repeat (first | with_reducible refine Iq ?_ | walk_at "v1"))
theorem uG{α:Type}{f:α->V}:∀{xs:⇑α}{g:α->V}{ys:⇑V},Q4 (fun x v=>∃p,x=g p/\v=f p) (xs.map g) ys->(∀p q,g p=g q->p=q)->ys=xs.map f
 |[],_,_,.nil,_=>rfl
 |x::r,g,_,.cons ⟨p,e,a⟩ t,inj=>by
  have:=inj _ _ e
  subst this
  rw[a,uG t inj]
  rfl
theorem Lb:∀p q:Int,V.int p=V.int q->p=q:=fun _ _ e=>V.int.inj e
theorem HY{ns:⇑Int}{x:V}(h:x∈ns.map V.int):∃i∈ns,x=V.int i:=by
 obtain⟨i,hi,e⟩:=QO.mp h
 exact⟨i,hi,e.symm⟩
theorem Cr(ns:⇑Int)(lo hi:Option Int):∃ms:⇑Int,kX (ns.map V.int) lo hi=ms.map V.int/\ms.length<=ns.length/\∀m∈ms,m∈ns:=by
 exists (ns.drop (HT.wU (ns.map V.int).length 0 lo)).take (HT.wU (ns.map V.int).length (ns.map V.int).length hi-HT.wU (ns.map V.int).length 0 lo),?_,?_
 .unfold kX
  rw[WU,YN]
 .rw[RJ,SX]
  omega
 .intro m hm
  exact Xk (UA hm)
theorem LH(xs:⇑V)(lo hi:Nat):(kX xs (ψ (lo:Int)) (ψ (hi:Int))).length<=hi-lo:=by
 unfold kX
 rw[HT.tX,HT.tX,RJ]
 omega
def BR(ps:⇑Int)(L:Int):Int:=(ps.map (min · L)).sum
def Gx(ps:⇑Int)(price L:Int):Prop:=1<=L/\price<=BR ps L/\BR ps (L-1)<price
theorem Bq:∀{a b:⇑Int},a.Perm b->a.sum=b.sum:=by
 intro a b h
 induction h with
 |nil=>rfl
 |cons x _ c=>simp only[RK,c]
 |swap x y l=>simp only[RK];omega
 |trans _ _ d e=>exact d.trans e
theorem Ci{a b:⇑Int}(h:a.Perm b)(L:Int):BR a L=BR b L:=Bq (h.map _)
theorem Dk(a b:⇑Int)(L:Int):BR (a++b) L=BR a L+BR b L:=by
 unfold BR
 rw[Sv,UO]
theorem BM(x:Int)(b:⇑Int)(L:Int):BR (x::b) L=min x L+BR b L:=by
 unfold BR
 rw[Rk,RK]
theorem yH{L:Int}:∀{l:⇑Int},(∀y∈l,y<=L)->BR l L=l.sum
 |[],_=>rfl
 |x::r,h=>by
  have b:=h x RW
  rw[BM,yH fun y a=>h y (Rm _ a),RK]
  omega
theorem Er{L:Int}:∀{l:⇑Int},(∀y∈l,L<=y)->BR l L=(l.length:Int)*L
 |[],_=>by simp[BR]
 |x::r,h=>by
  have b:=h x RW
  rw[BM,Er fun y a=>h y (Rm _ a),RB]
  have e:((r.length+1:Nat):Int)*L=(r.length:Int)*L+L:=by
   rw[US,UD]
   simp
  rw[e]
  omega
theorem E4{pre post:⇑Int}{x m p price:Int}(f:p=(post.length:Int)+1)(hm:m=price-pre.sum)(i:0<m)(j:∀y∈pre,y*p<m)(hx:m<=x*p)(b:∀y∈post,x<=y):
  Gx (pre++x::post) price ((m+p-1)/p):=by
 have k:0<p:=by omega
 have e:=WD (m+p-1) p
 have o:=VX (m+p-1) (show p≠0 by omega)
 have q:=WT (m+p-1) k
 generalize (m+p-1)/p=L at *
 generalize (m+p-1)%p=r at *
 have s:p*(L-1)=p*L-p:=by rw[Y8,Vt]
 have t:L<=x:=by
  rcases S3 x L with h|h
  .exfalso
   have:x*p<=(L-1)*p:=UM "`" "`"
   rw[Ul (L-1) p]at this
   omega
  .exact h
 have a:∀y∈pre,y<=L-1:=fun y c=>by
  rcases S3 y L with h|h
  .omega
  .exfalso
   have n:L*p<=y*p:=UM h "`"
   rw[Ul L p]at n
   have u:=j y c
   omega
 have d:1<=L:=by
  rcases S3 0 L with h|h
  .omega
  .exfalso
   have:p*L<=p*0:=Wo h "`"
   rw[Int.mul_zero]at this
   omega
 have g:∀M,M<=L->(∀y∈pre,y<=M)->BR (pre++x::post) M=pre.sum+p*M:=fun M v a=>by
  rw[Dk,yH a,Er (l:=x::post) fun y c=>by
   rcases QW.mp c with rfl|c
   .omega
   .have:=b y c;omega]
  rw[RB,f]
  rfl
 exists d,?_
 .rw[g L (Sl _) fun y c=>by have:=a y c;omega]
  omega
 .rw[g (L-1) "`" a]
  omega
theorem Gw{pre:⇑Int}{x m p:Int}(d:1<=p)(b:0<=x)(a:∀y∈pre,y<=x)(hn:¬m<=x*p):0<m-x/\∀y∈pre++[x],y*(p-1)<m-x:=by
 have e:x*(p-1)=x*p-x:=by rw[Y8,Vt]
 have z:0<=x*(p-1):=UL b "`"
 refine⟨by omega,fun y c=>?_⟩
 rcases Rr.mp c with h|h
 .have:y*(p-1)<=x*(p-1):=UM (a y h) "`"
  omega
 .have:y=x:=by simpa using h
  subst this
  omega
theorem oC:∀{l:⇑Int},(∀y∈l,0<=y)->0<=l.sum
 |[],_=>Sl 0
 |x::r,h=>by
  have b:=h x RW
  have c:=oC fun y a=>h y (Rm _ a)
  rw[RK]
  omega
theorem IW(l:⇑Int)(x:Int):(l++[x]).sum=l.sum+x:=by
 rw[UO]
 simp
theorem aM{α a:Type}(f:α->a)(d:α)(xs:⇑α):(Q1 xs.length).map (fun i=>f (xs.getD i d))=xs.map f:=by
 apply T5
 .simp
 .intro k b e
  have c:k<xs.length:=by simpa using b
  simp[Q3,c]
theorem vG{α e:Type}{F:α->e->Prop}:∀{a c:⇑α}{b d:⇑e},Q4 F a b->Q4 F c d->Q4 F (a++c) (b++d)
 |_,_,_,_,.nil,h=>h
 |_,_,_,_,.cons r t,h=>.cons r (vG t h)
def kd:Nat->Nat
 |0=>1
 |n+1=>S1 (kd n) (n+1)
theorem zS:∀n,0<kd n
 |0=>Nat.one_pos
 |n+1=>XU (zS n) (Zx n)
theorem yy:∀n,n<21->kd n<=232792560:=nofun
theorem K0:∀n,n<21->∀k,k<21->(1<=k/\k<=n)->k∣kd n:=nofun
theorem HX{s n m:Nat}(k:0<s)(hn:0<n)(hm:s∣m)(c:m<=S1 s n)(d:m%n≠0):m+s<=S1 s n:=by
 obtain⟨a,rfl⟩:=hm
 obtain⟨b,g⟩:=Yv s n
 have i:n∣S1 s n:=Nat.dvd_lcm_right s n
 have f:s*a≠S1 s n:=fun e=>d (Nat.mod_eq_zero_of_dvd (e▸i))
 rw[g]at c f ⊢
 have j:a<b:=by
  rcases X0 a b with h|h
  .exact h
  .exact absurd (Wt c (YL s h)) f
 calc s*a+s=s*(a+1):=by rw[Nat.mul_add,Nat.mul_one]
  _<=s*b:=YL s j
theorem KN{s n m:Nat}(a:0<m)(hm:s∣m)(b:m<=S1 s n)(c:m%n=0):m=S1 s n:=
 Wt b (ZR a (Nat.lcm_dvd hm (Nat.dvd_of_mod_eq_zero c)))
def Ll(w:Nat)(b:Nat->Bool):⇑Int:=((Q1 w).filter b).map fun k:Nat=>(k:Int)
theorem NX{w:Nat}{b:Nat->Bool}{k:Nat}:((k:Int)∈Ll w b)↔(k<w/\b k=ω):=by
 unfold Ll
 constructor
 .intro h
  obtain⟨j,a,e⟩:=QO.mp h
  have:j=k:=by omega
  subst this
  exact⟨R1.mp (Ra.mp a).1,(Ra.mp a).2⟩
 .rintro⟨c,d⟩
  exact QO.mpr ⟨k,Ra.mpr ⟨R1.mpr c,d⟩,rfl⟩
theorem FZ{v w:Nat}(a:v<=20)(hw:w<=13):kd v ^ w<=232792560 ^ 13:=
 QV (Nat.pow_le_pow_left (yy v "`") w) (YF "^" hw)
theorem cS(v w:Nat):0<kd v ^ w:=Nat.pow_pos (zS v)
theorem Hn:(232792560:Int) ^ 13*1000000000000*1000000000000<j7:=nofun
theorem ot{v w:Nat}(a:v<=20)(hw:w<=13):((kd v ^ w:Nat):Int)<=232792560 ^ 13:=by
 have h:=Int.ofNat_le.mpr (FZ a hw)
 have e:((232792560 ^ 13:Nat):Int)=232792560 ^ 13:=nofun
 rw[e]at h
 exact h
def sumTo(v:Nat)(f:Nat->Int):Int:=((Q1 v).map f).sum
theorem cv(v:Nat)(f:Nat->Int):sumTo (v+1) f=sumTo v f+f v:=by
 unfold sumTo
 rw[UI,Sv,UO]
 simp
theorem gw:∀{v:Nat}{f g:Nat->Int},(∀i,i<v->f i<=g i)->sumTo v f<=sumTo v g
 |0,_,_,_=>Sl 0
 |v+1,f,g,h=>by
  have a:=gw (v:=v) fun i hi=>h i "`"
  have b:=h v "`"
  rw[cv,cv]
  omega
theorem k7{v:Nat}{f g:Nat->Int}(h:∀i,i<v->f i=g i):sumTo v f=sumTo v g:=
 Int.le_antisymm (gw fun i hi=>Yz (h i hi)) (gw fun i hi=>Yz (h i hi).symm)
theorem yM(f g:Nat->Int):∀v,sumTo v (fun i=>f i-g i)=sumTo v f-sumTo v g
 |0=>rfl
 |v+1=>by
  rw[cv,cv,cv,yM f g v]
  omega
theorem lu(c:Int):∀v:Nat,sumTo v (fun _=>c)=(v:Int)*c
 |0=>by simp[sumTo]
 |v+1=>by
  rw[cv,lu c v,US,UD]
  simp
theorem CW{v:Nat}{f:Nat->Int}(h:∀i,i<v->f i=0):sumTo v f=0:=by
 rw[k7 h,lu]
 simp
theorem B8{v:Nat}{f:Nat->Int}(h:∀i,i<v->0<=f i):0<=sumTo v f:=by
 have:=gw (v:=v) (f:=fun _=>0) h
 rw[lu]at this
 simpa using this
theorem Fb{v:Nat}{f:Nat->Int}(h:∀i,i<v->0<=f i){i:Nat}(hi:i<v):f i<=sumTo v f:=by
 induction v with
 |zero=>omega
 |succ v a=>
  rw[cv]
  by_cases e:i=v
  .subst e
   have:=B8 (v:=i) fun j b=>h j "`"
   omega
  .have:=a (fun j b=>h j "`") "`"
   have:=h v "`"
   omega
def wA(W:Nat->Nat->Bool)(p:Nat->Int)(k:Nat)(L:Int)(i:Nat):Int:=if W i k=ω then min (p i) L else 0
def jd(v:Nat)(W:Nat->Nat->Bool)(p:Nat->Int)(k:Nat)(L:Int):Int:=sumTo v (wA W p k L)
def Cn(v:Nat)(W:Nat->Nat->Bool)(p:Nat->Int)(k:Nat):Int:=sumTo v fun i=>if W i k=ω then p i else 0
theorem AW{v:Nat}{W:Nat->Nat->Bool}{p:Nat->Int}{k:Nat}{L M:Int}(h:L<=M):jd v W p k L<=jd v W p k M:=
 gw fun i _=>by
  unfold wA
  split<;>omega
theorem uO(v:Nat)(W:Nat->Nat->Bool)(p:Nat->Int)(k:Nat)(L:Int):jd v W p k L<=Cn v W p k:=
 gw fun i _=>by
  unfold wA
  split<;>omega
theorem JF{v:Nat}{W:Nat->Nat->Bool}{p:Nat->Int}{k:Nat}{L:Int}(h:∀i,i<v->p i<=L):jd v W p k L=Cn v W p k:=
 k7 fun i hi=>by
  have:=h i hi
  unfold wA
  split<;>omega
theorem GN{v:Nat}{W:Nat->Nat->Bool}{p:Nat->Int}{k:Nat}(h:∀i,i<v->0<=p i):jd v W p k 0=0:=
 CW fun i hi=>by
  have:=h i hi
  unfold wA
  split<;>omega
theorem Mx{W:Nat->Nat->Bool}{p:Nat->Int}{k:Nat}{L:Int}{i:Nat}(h:0<=p i)(a:0<=L):0<=wA W p k L i:=by
 unfold wA
 split<;>omega
theorem Mw{W:Nat->Nat->Bool}{p:Nat->Int}{k:Nat}{L:Int}{i:Nat}(h:0<=p i):wA W p k L i<=p i:=by
 unfold wA
 split<;>omega
structure oB where
 v:Nat
 n:Nat
 W:Nat->Nat->Bool
 c:Nat->Int
structure Nx(T:oB)(p:Nat->Int)(done:⇑Nat)(k:Nat)(L:Int):Prop where
 lt:k<T.n
 new:k∉done
 pos:1<=L
 enough:T.c k<=jd T.v T.W p k L
 least:∀j,j<T.n->j∉done->jd T.v T.W p j (L-1)<T.c j
 first:∀j,j<k->j∉done->jd T.v T.W p j L<T.c j
def BQ(W:Nat->Nat->Bool)(p:Nat->Int)(k:Nat)(L:Int):Nat->Int:=fun i=>p i-wA W p k L i
inductive Run(T:oB):(Nat->Int)->⇑Nat->⇑(Nat×Int)->Prop
 |stop {p:Nat->Int}{done:⇑Nat}:(∀k,k<T.n->k∉done->Cn T.v T.W p k<T.c k)->Run T p done []
 |step {p:Nat->Int}{done:⇑Nat}{k:Nat}{L:Int}{rest:⇑(Nat×Int)}:Nx T p done k L->Run T (BQ T.W p k L) (k::done) rest->Run T p done ((k,L)::rest)
theorem qV{W:Nat->Nat->Bool}{p:Nat->Int}{k:Nat}{L:Int}{i:Nat}(h:0<=p i):0<=BQ W p k L i:=by
 have:=Mw (W:=W) (k:=k) (L:=L) h
 unfold BQ
 omega
theorem Iy{W:Nat->Nat->Bool}{p:Nat->Int}{k:Nat}{L:Int}{i:Nat}(h:0<=p i)(a:0<=L):BQ W p k L i<=p i:=by
 have:=Mx (W:=W) (k:=k) h a
 unfold BQ
 omega
theorem Fh{T:oB}{p:Nat->Int}{done:⇑Nat}{k c:Nat}{L d:Int}(h:Nx T p done k L)(h':Nx T p done c d):k=c/\L=d:=by
 have a:∀{k c:Nat}{L d:Int},Nx T p done k L->Nx T p done c d->¬L<d:=by
  intro k c L d h h' f
  have g:=h'.least k h.lt h.new
  have j:=AW (v:=T.v) (W:=T.W) (p:=p) (k:=k) (show L<=d-1 by omega)
  have i:=h.enough
  omega
 have e:L=d:=by
  have:=a h h'
  have:=a h' h
  omega
 subst e
 have b:∀{k c:Nat},Nx T p done k L->Nx T p done c L->¬k<c:=by
  intro k c h h' f
  have g:=h'.first k f h.new
  have i:=h.enough
  omega
 have:=b h h'
 have:=b h' h
 exact⟨by omega,rfl⟩
theorem Ht{T:oB}{p:Nat->Int}{done:⇑Nat}{k:Nat}{L:Int}(h:Nx T p done k L):T.c k<=Cn T.v T.W p k:=Ue h.enough (uO _ _ _ _ _)
theorem DO{T:oB}:∀{p:Nat->Int}{done:⇑Nat}{s a:⇑(Nat×Int)},Run T p done s->Run T p done a->s=a:=by
 intro p done s a h
 induction h generalizing a with
 |stop b=>
  intro c
  cases c with
  |stop _=>rfl
  |step n _=>
   have d:=b _ n.lt n.new
   have e:=Ht n
   omega
 |step n _ f=>
  intro c
  cases c with
  |stop b=>
   have d:=b _ n.lt n.new
   have e:=Ht n
   omega
  |step g i=>
   obtain⟨j,k⟩:=Fh n g
   subst j
   subst k
   rw[f i]
theorem F9{T:oB}{p:Nat->Int}{done:⇑Nat}(l:∀i,i<T.v->0<=p i)(x:∀k,k<T.n->1<=T.c k){k0:Nat}(y:k0<T.n)(hn:k0∉done)(A:T.c k0<=Cn T.v T.W p k0):∃k L,Nx T p done k L:=by
 have hex:∃m:Nat,∃k,k<T.n/\k∉done/\T.c k<=jd T.v T.W p k (m:Int):=by
  exists (sumTo T.v p).toNat,k0,y,hn
  have e:(((sumTo T.v p).toNat:Nat):Int)=sumTo T.v p:=V3 (B8 l)
  rw[e,JF fun i hi=>Fb l hi]
  exact A
 have B:∀m:Nat,(∃k,k<T.n/\k∉done/\T.c k<=jd T.v T.W p k (m:Int))->∃m:Nat,(∃k,k<T.n/\k∉done/\T.c k<=jd T.v T.W p k (m:Int))/\∀j:Nat,j<m->¬ ∃k,k<T.n/\k∉done/\T.c k<=jd T.v T.W p k (j:Int):=by
  intro m
  induction m using Xj with
  |_ m o=>
   intro h
   by_cases z:∃j,j<m/\∃k,k<T.n/\k∉done/\T.c k<=jd T.v T.W p k (j:Int)
   .obtain⟨j,a,d⟩:=z
    exact o j a d
   .exact⟨m,h,fun j a d=>z ⟨j,a,d⟩⟩
 obtain⟨C,q⟩:=hex
 obtain⟨m,hm,g⟩:=B C q
 have r:∀k:Nat,(k<T.n/\k∉done/\T.c k<=jd T.v T.W p k (m:Int))->∃k,(k<T.n/\k∉done/\T.c k<=jd T.v T.W p k (m:Int))/\∀j,j<k->¬(j<T.n/\j∉done/\T.c j<=jd T.v T.W p j (m:Int)):=by
  intro k
  induction k using Xj with
  |_ k o=>
   intro h
   by_cases z:∃j,j<k/\(j<T.n/\j∉done/\T.c j<=jd T.v T.W p j (m:Int))
   .obtain⟨j,a,d⟩:=z
    exact o j a d
   .exact⟨k,h,fun j a d=>z ⟨j,a,d⟩⟩
 obtain⟨D,s⟩:=hm
 obtain⟨k,⟨t,E,u⟩,b⟩:=r D s
 have F:1<=m:=by
  rcases WZ m with z|z
  .subst z
   have:=GN (W:=T.W) (k:=k) l
   have:=x k t
   simp at u
   omega
  .exact z
 refine⟨k,m,t,E,by omega,u,fun j a f=>?_,fun j a f=>?_⟩
 .have w:¬T.c j<=jd T.v T.W p j ((m-1:Nat):Int):=fun z=>g (m-1) "`" ⟨j,a,f,z⟩
  have e:((m-1:Nat):Int)=(m:Int)-1:=by omega
  rw[e]at w
  omega
 .have w:¬T.c j<=jd T.v T.W p j (m:Int):=fun z=>b j a ⟨by omega,f,z⟩
  omega
theorem yw{T:oB}{p:Nat->Int}{done:⇑Nat}{s:⇑(Nat×Int)}(h:Run T p done s):(∀x∈s,x.1<T.n/\x.1∉done/\1<=x.2)/\(s.map (·.1)).Nodup:=by
 induction h with
 |stop _=>exact⟨fun _ h=>(by simp at h),Uu⟩
 |step n _ g=>
  obtain⟨f,i⟩:=g
  exists fun x d=>?_
  .rcases QW.mp d with e|d
   .subst e
    exact⟨n.lt,n.new,n.pos⟩
   .obtain⟨a,b,c⟩:=f x d
    exact⟨a,fun z=>b (Rm _ z),c⟩
  .rw[Rk]
   refine RC.mpr ⟨fun z=>?_,i⟩
   obtain⟨x,d,e⟩:=QO.mp z
   have:=(f x d).2.1
   rw[e]at this
   exact this RW
theorem eY:∀(n:Nat)(l:⇑Nat),l.Nodup->(∀x∈l,x<n)->l.length<=n
 |0,l,_,h=>by
  cases l with
  |nil=>exact Q2 _
  |cons x r=>exact absurd (h x RW) (Nat.not_lt_zero _)
 |n+1,l,b,h=>by
  by_cases hn:n∈l
  .have c:=eY n (l.erase n) (b.erase n) fun x a=>by
    have d:=(b.mem_erase_iff).mp a
    have f:=h x d.2
    omega
   rw[XN hn]at c
   omega
  .have c:=eY n l b fun x a=>by
    have f:=h x a
    have g:x≠n:=fun e=>hn (e▸a)
    omega
   omega
theorem yZ{α:Type}[BEq α][LawfulBEq α]:∀{l m:⇑α},l.Nodup->(∀x∈l,x∈m)->l.length<=m.length
 |[],_,_,_=>RL _
 |x::r,m,d,h=>by
  have b:=h x RW
  obtain⟨f,g⟩:=RC.mp d
  have i:=yZ (l:=r) (m:=m.erase x) g fun y c=>by
   have a:y≠x:=fun e=>f (e▸c)
   exact(List.mem_erase_of_ne a).mpr (h y (Rm _ c))
  rw[XN b]at i
  have:=List.length_pos_of_mem b
  rw[RB]
  omega
theorem yP(u:Int)(W:Nat->Nat->Bool)(p:Nat->Int)(k:Nat)(L:Int):∀v:Nat,(∀i,i<v->u∣p i)->∃s q:Int,u∣s/\0<=q/\q<=v/\jd v W p k L=s+q*L/\jd v W p k (L-1)=s+q*(L-1)
 |0,_=>⟨0,0,ZW u,Sl 0,⋯,by simp[jd,sumTo],by simp[jd,sumTo]⟩
 |v+1,h=>by
  obtain⟨s,q,a,b,j,e,f⟩:=yP u W p k L v fun i hi=>h i "`"
  have g:=h v "`"
  have d:∀M,jd (v+1) W p k M=jd v W p k M+wA W p k M v:=fun M=>cv v _
  rw[d,d,e,f]
  unfold wA
  by_cases hw:W v k=ω
  .rw[if_pos hw,if_pos hw]
   rcases S3 (p v) L with c|c
   .exists s+p v,q,XD a g,b,by omega,?_
    .rw[WW "`"];omega
    .rw[WW "`"];omega
   .exists s,q+1,a,by omega,by omega,?_
    .rw[W5 "`",UD];omega
    .rw[W5 "`",UD];omega
  .rw[if_neg hw,if_neg hw]
   exact⟨s,q,a,b,by omega,by omega,by omega⟩
theorem Fm{v:Nat}{W:Nat->Nat->Bool}{p:Nat->Int}{k:Nat}{price L rest:Int}(r:v<=20)(hd:∀i,i<v->rest*(kd v:Nat)∣p i)(f:rest*(kd v:Nat)∣price)(t:price<=jd v W p k L)(u:jd v W p k (L-1)<price):jd v W p k L=price/\rest∣L:=by
 obtain⟨s,q,g,w,x,h,j⟩:=yP _ W p k L v hd
 have l:1<=q:=by
  rcases S3 0 q with c|c
  .exact c
  .have:q=0:=by omega
   subst this
   rw[Int.zero_mul]at h j
   omega
 obtain⟨q,rfl⟩:∃n:Nat,q=n:=⟨q.toNat,by omega⟩
 obtain⟨b,o⟩:=K0 v "`" q "`" ⟨by omega,by omega⟩
 obtain⟨m,hm⟩:=VL f g
 have e:price-s=(q:Int)*(rest*((b:Int)*m)):=by
  rw[hm,o,Int.natCast_mul]
  simp only[Int.mul_assoc,Ul,Int.mul_left_comm]
 have y:rest*((b:Int)*m)<=L:=Int.le_of_mul_le_mul_left (a:=(q:Int)) "`" "`"
 have z:L-1<rest*((b:Int)*m):=Int.lt_of_mul_lt_mul_left (a:=(q:Int)) "`" "`"
 have d:L=rest*((b:Int)*m):=by omega
 rw[<-d]at e
 exact⟨by omega,⟨_,d⟩⟩
inductive eN(T:oB):(Nat->Int)->⇑Nat->⇑(Nat×Int)->Prop
 |stop {p:Nat->Int}{done:⇑Nat}:(∀k,k<T.n->k∉done->Cn T.v T.W p k<T.c k)->eN T p done []
 |step {p:Nat->Int}{done:⇑Nat}{k:Nat}{L:Int}{rest:⇑(Nat×Int)}:Nx T p done k L->jd T.v T.W p k L=T.c k->eN T (BQ T.W p k L) (k::done) rest->eN T p done ((k,L)::rest)
theorem eN.run{T:oB}{p:Nat->Int}{done:⇑Nat}{s:⇑(Nat×Int)}(h:eN T p done s):Run T p done s:=by
 induction h with
 |stop h0=>exact .stop h0
 |step n _ _ a=>exact .step n a
theorem JB{W:Nat->Nat->Bool}{p:Nat->Int}{k:Nat}{L r:Int}{i:Nat}(h:r∣p i)(a:r∣L):r∣BQ W p k L i:=by
 unfold BQ wA
 split
 .rcases Int.le_total (p i) L with c|c
  .rw[WW c,T4]
   exact ZW r
  .rw[W5 c]
   exact VL h a
 .rw[Wz]
  exact h
theorem fu{t a b:Nat}(h:a<=b):((t ^ a:Nat):Int)∣((t ^ b:Nat):Int):=by
 have:=Nat.pow_dvd_pow t h
 exact_mod_cast this
theorem yT{T:oB}(g:T.v<=20)(l:∀k,k<T.n->((kd T.v ^ T.n:Nat):Int)∣T.c k){p:Nat->Int}{done:⇑Nat}{s:⇑(Nat×Int)}(h:Run T p done s):
  done.Nodup->(∀k∈done,k<T.n)->(∀i,i<T.v->((kd T.v ^ (T.n-done.length):Nat):Int)∣p i)->eN T p done s:=by
 induction h with
 |stop m=>exact fun _ _ _=>.stop m
 |@step p done k L rest n r o=>
  intro q hn d
  have a:(k::done).Nodup:=RC.mpr ⟨n.new,q⟩
  have b:∀j∈k::done,j<T.n:=fun j t=>by
   rcases QW.mp t with e|e
   .subst e;exact n.lt
   .exact hn j e
  have u:=eY T.n _ a b
  rw[RB]at u
  have e:T.n-done.length=(T.n-(done.length+1))+1:=by omega
  have f:((kd T.v ^ (T.n-done.length):Nat):Int)=((kd T.v ^ (T.n-(done.length+1)):Nat):Int)*((kd T.v:Nat):Int):=by
   rw[e,Xf]
   push_cast
   rfl
  have w:=n.least k n.lt n.new
  obtain⟨x,y⟩:=Fm (rest:=((kd T.v ^ (T.n-(done.length+1)):Nat):Int)) g (fun i hi=>by rw[<-f];exact d i hi) (by rw[<-f];exact Vb (fu "`") (l k n.lt)) n.enough w
  refine .step n x (o a b fun i hi=>?_)
  rw[RB]
  refine JB (Vb ?_ (d i hi)) y
  exact fu "`"
def jO(rows:⇑(⇑Int))(a:⇑Int):⇑Int:=((Q1 rows.length).filter fun i=>a.all fun k=>decide (k∈rows.getD i [])).map fun i:Nat=>(i:Int)
def WR(rows:⇑(⇑Int))(i k:Nat):Bool:=decide ((k:Int)∈rows.getD i [])
def PF(ps:⇑Int)(i:Nat):Int:=ps.getD i 0
theorem sum_filter{p:Nat->Bool}{f:Nat->Int}:∀n:Nat,(((Q1 n).filter p).map f).sum=sumTo n fun i=>if p i=ω then f i else 0
 |0=>rfl
 |n+1=>by
  rw[cv,UI,W2,Sv,UO,sum_filter n,T1]
  by_cases h:p n=ω
  .rw[if_pos h,if_pos h]
   simp
  .rw[if_neg h,if_neg h]
   simp
def oV:Option Int->V
 |none=>.non
 |some i=>.int i
theorem kY{k:Nat}{done:⇑Nat}:((k:Int)∈done.map fun k:Nat=>(k:Int))↔k∈done:=by
 constructor
 .intro h
  obtain⟨j,a,e⟩:=QO.mp h
  have:j=k:=by omega
  exact this▸a
 .exact fun h=>QO.mpr ⟨k,h,rfl⟩
def Cj(T:oB)(p:Nat->Int)(done:⇑Nat)(k:Nat):Option Int->Prop
 |none=>k∈done\/Cn T.v T.W p k<T.c k
 |some L=>k∉done/\1<=L/\T.c k<=jd T.v T.W p k L/\jd T.v T.W p k (L-1)<T.c k
def fG(os:⇑(Option Int)):Option Nat->Prop
 |none=>∀o∈os,o=χ
 |some k=>∃L,os[k]?=ψ (ψ L)/\∀j M,os[j]?=ψ (ψ M)->L<=M/\(j<k->L<M)
theorem zC{T:oB}{p:Nat->Int}{done:⇑Nat}{os:⇑(Option Int)}{k:Nat}{L:Int}(s:os.length=T.n)(r:∀j o,os[j]?=ψ o->Cj T p done j o)(B:∀i,i<T.v->0<=p i)(C:∀j,j<T.n->1<=T.c j)(l:os[k]?=ψ (ψ L))(hn:fG os (ψ k)):Nx T p done k L:=by
 obtain⟨t,e,d⟩:=hn
 rw[l]at e
 have e:L=t:=RE (RE e)
 subst e
 have m:k<T.n:=by rw[<-s];exact(Rw.mp l).1
 obtain⟨u,w,x,D⟩:=r k _ l
 have f:∀j,j<T.n->j∉done->∀M:Int,0<=M->T.c j<=jd T.v T.W p j M->∃N,os[j]?=ψ (ψ N)/\N<=M:=by
  intro j h a M E y
  have g:j<os.length:=by omega
  have b:=r j os[j] (by simp[g])
  cases e:os[j]with
  |none=>
   rw[e]at b
   rcases b with z|z
   .exact absurd z a
   .have:=uO T.v T.W p j M
    omega
  |some N=>
   rw[e]at b
   obtain⟨_,_,_,F⟩:=b
   exists N,by rw[QZ g,e]
   rcases S3 M N with c|c
   .have:=AW (v:=T.v) (W:=T.W) (p:=p) (k:=j) (show M<=N-1 by omega)
    omega
   .exact c
 refine⟨m,u,w,x,fun j h a=>?_,fun j h a=>?_⟩
 .rcases S3 (jd T.v T.W p j (L-1)) (T.c j)with c|c
  .exact c
  .obtain⟨N,q,A⟩:=f j h a (L-1) "`" c
   have:=(d j N q).1
   omega
 .rcases S3 (jd T.v T.W p j L) (T.c j)with c|c
  .exact c
  .obtain⟨N,q,A⟩:=f j "`" a L "`" c
   have:=(d j N q).2 h
   omega
def aW(cs:⇑Int)(rows:⇑(⇑Int)):oB:=⟨rows.length,cs.length,WR rows,fun k=>cs.getD k 0*((kd rows.length ^ (cs.length+1):Nat):Int)⟩
def b9(rows:⇑(⇑Int))(ps:⇑Int)(k:Nat)(L:Int):⇑Int:=(Q1 ps.length).map (wA (WR rows) (PF ps) k L)
def dU(rows:⇑(⇑Int))(ps:⇑Int)(k:Nat)(L:Int):⇑Int:=(Q1 ps.length).map (BQ (WR rows) (PF ps) k L)
def aE(rows:⇑(⇑Int)):⇑Int->⇑(Nat×Int)->⇑(Nat×Int×⇑Int)
 |_,[]=>[]
 |ps,(k,L)::r=>(k,L,b9 rows ps k L)::aE rows (dU rows ps k L) r
def bK(rows:⇑(⇑Int)):⇑Int->⇑(Nat×Int)->⇑Int
 |ps,[]=>ps
 |ps,(k,L)::r=>bK rows (dU rows ps k L) r
theorem di(rows:⇑(⇑Int))(ps:⇑Int)(k:Nat)(L:Int):(dU rows ps k L).length=ps.length:=by simp[dU]
theorem yg(rows:⇑(⇑Int))(ps:⇑Int)(k:Nat)(L:Int):(b9 rows ps k L).length=ps.length:=by simp[b9]
theorem L5(n:Nat)(f:Nat->Int)(h:∀i,n<=i->f i=0):PF ((Q1 n).map f)=f:=by
 funext i
 unfold PF
 by_cases hi:i<n
 .simp[Q3,hi]
 .rw[h i "`"]
  simp[Q3,hi]
theorem Ip{rows:⇑(⇑Int)}{i k:Nat}(h:rows.length<=i):WR rows i k=ξ:=by
 unfold WR
 have:rows.getD i []=[]:=by simp[Q3,Tp h]
 rw[this]
 simp
theorem zr{ps:⇑Int}{i:Nat}(h:ps.length<=i):PF ps i=0:=by
 unfold PF
 simp[Q3,Tp h]
theorem dC{rows:⇑(⇑Int)}{ps:⇑Int}{k:Nat}{L:Int}(h:ps.length=rows.length):PF (dU rows ps k L)=BQ (WR rows) (PF ps) k L:=by
 refine L5 _ _ fun i hi=>?_
 unfold BQ wA
 rw[Ip "`",zr hi]
 simp
theorem gK(rows:⇑(⇑Int)):∀(ps:⇑Int)(r:⇑(Nat×Int)),(aE rows ps r).length=r.length
 |_,[]=>rfl
 |ps,(k,L)::r=>by rw[aE,RB,RB,gK]
theorem il(rows:⇑(⇑Int)):∀(ps:⇑Int)(r:⇑(Nat×Int)),∀x∈aE rows ps r,x.2.2.length=ps.length
 |_,[],x,h=>by simp[aE]at h
 |ps,(k,L)::r,x,h=>by
  rw[aE]at h
  rcases QW.mp h with e|h
  .subst e
   exact yg rows ps k L
  .rw[il rows (dU rows ps k L) r x h,di]
theorem mv(rows:⇑(⇑Int)):∀(ps:⇑Int)(r:⇑(Nat×Int)),(bK rows ps r).length=ps.length
 |_,[]=>rfl
 |ps,(k,L)::r=>by rw[bK,mv rows _ r,di]
theorem wR(rows:⇑(⇑Int)):∀(ps:⇑Int)(r:⇑(Nat×Int))(k:Nat)(L:Int),bK rows ps (r++[(k,L)])=dU rows (bK rows ps r) k L
 |_,[],_,_=>rfl
 |ps,(j,M)::r,k,L=>by
  rw[VN,bK,wR rows (dU rows ps j M) r k L,bK]
theorem vB(rows:⇑(⇑Int)):∀(ps:⇑Int)(r a:⇑(Nat×Int)),aE rows ps (r++a)=aE rows ps r++aE rows (bK rows ps r) a
 |_,[],_=>rfl
 |ps,(k,L)::r,a=>by
  rw[VN,aE,aE,bK,vB rows (dU rows ps k L) r a]
  rfl
theorem p3(rows:⇑(⇑Int)):∀(ps:⇑Int)(r:⇑(Nat×Int)),(aE rows ps r).map (fun x=>(x.1,x.2.1))=r
 |_,[]=>rfl
 |ps,(k,L)::r=>by
  rw[aE,Rk,p3 rows _ r]
structure Ij(cs:⇑Int)(rows:⇑(⇑Int))(ps:⇑Int):Prop where
 c12:cs.length<=12
 cb:∀x∈cs,1<=x/\x<=1000000000000
 v1:1<=rows.length
 v20:rows.length<=20
 pl:ps.length=rows.length
 p0:∀p∈ps,0<=p
 pd:∀p∈ps,((kd rows.length ^ cs.length:Nat):Int)∣p
theorem y9{ps:⇑Int}(h:∀p∈ps,0<=p)(i:Nat):0<=PF ps i:=by
 unfold PF
 by_cases hi:i<ps.length
 .have e:ps.getD i 0=ps[i]:=by simp[Q3,hi]
  rw[e]
  exact h _ (R3 hi)
 .simp[Q3,Tp (YV hi)]
theorem Lu{cs:⇑Int}{rows:⇑(⇑Int)}(h:∀x∈cs,1<=x/\x<=1000000000000):∀k,k<cs.length->1<=(aW cs rows).c k:=by
 intro k a
 have b:=h (cs.getD k 0) (by simp[Q3,a])
 have d:=cS rows.length (cs.length+1)
 have:1*1<=cs.getD k 0*((kd rows.length ^ (cs.length+1):Nat):Int):=Int.mul_le_mul b.1 "`" "^" "`"
 show 1<=cs.getD k 0*((kd rows.length ^ (cs.length+1):Nat):Int)
 omega
theorem OP(cs:⇑Int)(rows:⇑(⇑Int)):∀k,((kd rows.length ^ cs.length:Nat):Int)∣(aW cs rows).c k:=by
 intro k
 exact Vb (fu (SA _)) ⟨cs.getD k 0,Ul _ _⟩
def AM(H:Hp)(x:Nat×Int×⇑Int)(t:QI):Prop:=∃b:QI,H t=ψ (.tup [.int x.1,.int x.2.1,.ref b])/\H b=ψ (.lst (x.2.2.map V.int))
def fZ(H:Hp)(a:QI)(b:⇑(Nat×Int×⇑Int)):Prop:=∃ts:⇑QI,H a=ψ (.lst (ts.map V.ref))/\Q4 (AM H) b ts
theorem BP{H H':Hp}(e:ah H H'){x:Nat×Int×⇑Int}{t:QI}(h:AM H x t):AM H' x t:=by
 obtain⟨b,a,c⟩:=h
 exact⟨b,e _ _ a,e _ _ c⟩
theorem jD{H H':Hp}(e:ah H H'){a:QI}{b:⇑(Nat×Int×⇑Int)}(h:fZ H a b):fZ H' a b:=by
 obtain⟨ts,c,d⟩:=h
 exact⟨ts,e _ _ c,Paired.mapP d fun _ _ q=>BP e q⟩
def pP(a H:Hp)(l:QI)(x:Nat×Int×⇑Int)(t:QI):Prop:=∃b:QI,a t=χ/\a b=χ/\b≠l/\H t=ψ (.tup [.int x.1,.int x.2.1,.ref b])/\H b=ψ (.lst (x.2.2.map V.int))
def gv(b H:Hp)(l:QI)(a:⇑(Nat×Int×⇑Int)):Prop:=∃ts:⇑QI,H l=ψ (.lst (ts.map V.ref))/\Q4 (pP b H l) a ts
theorem gv.at{H0 H:Hp}{l:QI}{sts:⇑(Nat×Int×⇑Int)}(h:gv H0 H l sts):fZ H l sts:=by
 obtain⟨ts,h1,a⟩:=h
 exact⟨ts,h1,Paired.mapP a fun _ _ ⟨b,_,_,_,c,d⟩=>⟨b,c,d⟩⟩
theorem Bd{T:oB}{p:Nat->Int}{d d':⇑Nat}{k:Nat}{L:Int}(h:∀j,j∈d'↔j∈d)(n:Nx T p d k L):Nx T p d' k L:=
 ⟨n.lt,fun z=>n.new ((h k).mp z),n.pos,n.enough,fun j a hn=>n.least j a fun z=>hn ((h j).mpr z),fun j a hn=>n.first j a fun z=>hn ((h j).mpr z)⟩
theorem HC{rows:⇑(⇑Int)}{ps:⇑Int}{k:Nat}{L:Int}(h:∀p∈ps,0<=p):∀p∈dU rows ps k L,0<=p:=by
 intro p a
 obtain⟨i,_,e⟩:=QO.mp a
 rw[<-e]
 exact qV (y9 h i)
theorem Cy{rows:⇑(⇑Int)}:∀{ps:⇑Int}{r:⇑(Nat×Int)},(∀p∈ps,0<=p)->∀p∈bK rows ps r,0<=p
 |_,[],h=>h
 |ps,(k,L)::r,h=>by
  rw[bK]
  exact Cy (HC h)
theorem Fq{cs:⇑Int}{rows:⇑(⇑Int)}{ps:⇑Int}(g:Ij cs rows ps){s:⇑(Nat×Int)}(h:Run (aW cs rows) (PF ps) [] s):eN (aW cs rows) (PF ps) [] s:=by
 refine yT g.v20 (fun k _=>OP cs rows k) h Uu (fun k b=>by simp at b) fun i hi=>?_
 have a:i<ps.length:=by rw[g.pl];exact hi
 have:PF ps i∈ps:=by unfold PF;simp[Q3,a]
 exact g.pd _ this
theorem nq{α a:Type}{F:α->a->Prop}:∀{xs:⇑α}{ts:⇑a},xs.length=ts.length->(∀(i:Nat)(x:α)(t:a),xs[i]?=ψ x->ts[i]?=ψ t->F x t)->Q4 F xs ts
 |[],[],_,_=>.nil
 |[],_::_,h,_=>by simp at h
 |_::_,[],h,_=>by simp at h
 |x::r,u::q,b,h=>.cons (h 0 x u rfl rfl) (nq (by simpa using b) fun i y w e c=>h (i+1) y w (by simpa using e) (by simpa using c))
theorem Av{α:Type}{F:α->QI->Prop}{T:QI->Prop}{xs:⇑α}{ts:⇑QI}(h:Q4 (fun i t=>T t/\∀x,xs[i]?=ψ x->F x t) (Q1 xs.length) ts):Q4 F xs ts:=by
 have a:=Ro h
 rw[Vf]at a
 refine nq a fun i x t b d=>?_
 obtain⟨j,c,f⟩:=jC h d
 have hi:i<xs.length:=(Rw.mp b).1
 have e:j=i:=by
  rw[List.getElem?_range hi]at c
  exact(RE c).symm
 subst e
 exact f.2 x b
def Pq(a H:Hp)(l:QI)(rows:⇑(⇑Int)):Prop:=∃bs:⇑QI,H l=ψ (.lst (bs.map V.ref))/\Q4 (fun r b=>(a b=χ/\b≠l)/\H b=ψ (.lst (r.map V.int))) rows bs
theorem L8{K:QK}{H:Hp}{a:QI}{rows:⇑(⇑Int)}{A:St}{Q:VK}(h:fC K H a rows)(hz:rows.length<=1000)(hd:∀l H',H l=χ->ah H H'->Pq H H' l rows->Q (.ref l) H'):
  cL [none] (af 0) cM (dB (Az K) (ae (aa 0) ao)) (Fz K a) A H Q:=by
 obtain⟨bs,B,w⟩:=h
 have d:bs.length=rows.length:=(Ro w).symm
 have c:(bs.map V.ref).length=bs.length:=QR _
 refine eR (bR (xs:=bs.map V.ref) 0) (fun j=>[ψ ((bs.map V.ref).getD j .non)]) (by rintro j C (rfl|⟨k,rfl⟩)<;>rfl) (fun H' s=>s.seq B) (by rw[c,d];exact QV hz aO) (fun _=>true)
  (fun l i v H'=>∃b,v=.ref b/\(b≠l/\H b=χ/\∀r,rows[i]?=ψ r->H' b=ψ (.lst (r.map V.int)))) (fun l i v M N s ⟨b,e,p,D,h⟩=>⟨b,e,p,D,fun r m=>s _ _ p (h r m)⟩) (fun i hi H' G s k=>k H' (ah.refl _)) ?_ ?_
 .intro l j u _ H' G p ⟨o,E⟩ s k
  rw[c]at u
  have e:(bs.map V.ref).getD j .non=.ref bs[j]:=by simp[Q3,u]
  rw[e]
  obtain⟨r,m,F⟩:=jC w (show bs[j]?=ψ bs[j] by simp[u])
  have I:=s.seq F
  walk_at "v"
  rename_i b J g t h
  exact k _ _ ⟨b,rfl,(fun z=>by rw[z,E]at g;cases g),s.free g,fun O n=>by rw[m]at n;cases n;exact h⟩ t
 .intro l ys H' f s h x
  rw[Sd.mpr (fun _ _=>rfl)]at x
  obtain⟨L,rfl,y⟩:=hZ (T:=fun b i=>b≠l/\H b=χ/\∀r,rows[i]?=ψ r->H' b=ψ (.lst (r.map V.int))) x
  refine hd l H' f s ⟨L,h,?_⟩
  rw[c,d]at y
  refine Av (T:=fun b=>b≠l/\H b=χ) (Paired.mapP y fun i b q=>⟨⟨q.1,q.2.1⟩,fun r m=>⟨⟨q.2.1,q.1⟩,q.2.2 r m⟩⟩)
def aZ(ps:⇑Int)(a:⇑(Nat×Int×⇑Int)):⇑Int:=(Q1 ps.length).map fun i=>ps.getD i 0-(a.map fun x=>x.2.2.getD i 0).sum
theorem B0{H:Hp}:∀{a:⇑(Nat×Int×⇑Int)}{ts:⇑QI},Q4 (AM H) a ts->∃bs:⇑QI,bs.length=a.length/\∀(i:Nat)(x:Nat×Int×⇑Int),a[i]?=ψ x->∃t b,ts[i]?=ψ t/\bs[i]?=ψ b/\H t=ψ (.tup [.int x.1,.int x.2.1,.ref b])/\H b=ψ (.lst (x.2.2.map V.int))
 |_,_,.nil=>⟨[],rfl,fun i x h=>by simp at h⟩
 |_,t::_,.cons ⟨b,d,f⟩ r=>by
  obtain⟨bs,e,h⟩:=B0 r
  refine⟨b::bs,by simp[e],fun i x c=>?_⟩
  cases i with
  |zero=>
   simp at c
   subst c
   exact⟨t,b,rfl,rfl,d,f⟩
  |succ i=>exact h i x (by simpa using c)
structure uZ(H:Hp)(l:QI)(sts:⇑(Nat×Int×⇑Int))(ts bs:⇑QI):Prop where
 lst:H l=ψ (.lst (ts.map V.ref))
 tl:ts.length=sts.length
 bl:bs.length=sts.length
 ats:∀(i:Nat)(x:Nat×Int×⇑Int),sts[i]?=ψ x->∃t b,ts[i]?=ψ t/\bs[i]?=ψ b/\H t=ψ (.tup [.int x.1,.int x.2.1,.ref b])/\H b=ψ (.lst (x.2.2.map V.int))
theorem fZ.b{H:Hp}{l:QI}{sts:⇑(Nat×Int×⇑Int)}(h:fZ H l sts):∃ts bs,uZ H l sts ts bs:=by
 obtain⟨ts,h1,a⟩:=h
 obtain⟨bs,e,c⟩:=B0 a
 exact⟨ts,bs,h1,(Ro a).symm,e,c⟩
def stN:Nat×Int×⇑Int:=(0,0,[])
theorem uZ.ys{K:QK}{H H':Hp}{l:QI}{sts:⇑(Nat×Int×⇑Int)}{ts bs:⇑QI}(B:uZ H l sts ts bs)(s:ah H H'):
  aD K H' l (ts.map V.ref)/\∀i t,ts[i]?=ψ t->d5 K H' t [.int ((sts.getD i stN).1:Nat),.int (sts.getD i stN).2.1,.ref (bs.getD i 0)]:=by
 refine⟨aD.of (s _ _ B.lst),fun i t a=>?_⟩
 have hi:i<sts.length:=by rw[<-B.tl];exact(Rw.mp a).1
 obtain⟨h,b,c,d,e,_⟩:=B.ats i sts[i] (by simp[hi])
 rw[a]at c
 cases c
 have f:sts.getD i stN=sts[i]:=by simp[Q3,hi]
 have g:bs.getD i 0=b:=by rw[Q3,d];rfl
 rw[f,g]
 exact d5.of (s _ _ e)
theorem uZ.paid{K:QK}{H H':Hp}{l:QI}{sts:⇑(Nat×Int×⇑Int)}{ts bs:⇑QI}(B:uZ H l sts ts bs)(s:ah H H'){i:Nat}(hi:i<sts.length):aD K H' (bs.getD i 0) ((sts.getD i stN).2.2.map V.int):=by
 obtain⟨f,b,g,a,_,c⟩:=B.ats i sts[i] (by simp[hi])
 have d:sts.getD i stN=sts[i]:=by simp[Q3,hi]
 have e:bs.getD i 0=b:=by rw[Q3,a];rfl
 rw[d,e]
 exact aD.of (s _ _ c)
theorem GA:fG [] none:=fun o h=>by simp at h
theorem Ga{os:⇑(Option Int)}{k:Option Nat}(h:fG os k):fG (os++[none]) k:=by
 cases k with
 |none=>
  intro o d
  rcases Rr.mp d with b|b
  .exact h o b
  .simpa using b
 |some k=>
  obtain⟨L,b,f⟩:=h
  have g:=(Rw.mp b).1
  refine⟨L,by rw[TB g];exact b,fun j M a=>?_⟩
  by_cases c:j<os.length
  .rw[TB c]at a
   exact f j M a
  .rw[Uk "`"]at a
   cases e:j-os.length with
   |zero=>rw[e]at a;simp at a
   |succ n=>rw[e]at a;simp at a
theorem D7{os:⇑(Option Int)}{M:Int}(h:fG os none):fG (os++[ψ M]) (ψ os.length):=by
 refine⟨M,⋯,fun j N a=>?_⟩
 by_cases b:j<os.length
 .rw[TB b]at a
  have:=h _ (Td a)
  cases this
 .rw[Uk "`"]at a
  cases e:j-os.length with
  |zero=>
   rw[e]at a
   have:M=N:=by simpa using a
   subst this
   exact⟨Sl _,fun z=>by omega⟩
  |succ n=>rw[e]at a;simp at a
theorem Fs{os:⇑(Option Int)}{k:Nat}{L M:Int}(h:fG os (ψ k))(d:os[k]?=ψ (ψ L))(g:M<L):fG (os++[ψ M]) (ψ os.length):=by
 obtain⟨i,c,f⟩:=h
 rw[d]at c
 cases c
 refine⟨M,⋯,fun j N a=>?_⟩
 by_cases b:j<os.length
 .rw[TB b]at a
  have:=(f j N a).1
  exact⟨by omega,fun _=>by omega⟩
 .rw[Uk "`"]at a
  cases e:j-os.length with
  |zero=>
   rw[e]at a
   have:M=N:=by simpa using a
   subst this
   exact⟨Sl _,fun z=>by omega⟩
  |succ n=>rw[e]at a;simp at a
theorem Gk{os:⇑(Option Int)}{k:Nat}{L M:Int}(h:fG os (ψ k))(b:os[k]?=ψ (ψ L))(i:¬M<L):fG (os++[ψ M]) (ψ k):=by
 have c:=(Rw.mp b).1
 obtain⟨l,f,g⟩:=h
 rw[b]at f
 cases f
 refine⟨L,by rw[TB c];exact b,fun j N a=>?_⟩
 by_cases d:j<os.length
 .rw[TB d]at a
  exact g j N a
 .rw[Uk "`"]at a
  cases e:j-os.length with
  |zero=>
   rw[e]at a
   have:M=N:=by simpa using a
   subst this
   exact⟨by omega,fun z=>by omega⟩
  |succ n=>rw[e]at a;simp at a
def cP(rows:⇑(⇑Int))(k:Nat):⇑Nat:=(Q1 rows.length).filter fun i=>WR rows i k
theorem uS(rows:⇑(⇑Int))(k:Nat):jO rows [(k:Int)]=(cP rows k).map fun i:Nat=>(i:Int):=by
 unfold jO cP WR
 congr 2
 funext i
 simp
theorem vv{rows:⇑(⇑Int)}{k i:Nat}:((i:Int)∈jO rows [(k:Int)])↔WR rows i k=ω:=by
 rw[uS,kY]
 unfold cP
 rw[Ra]
 constructor
 .exact fun h=>h.2
 .intro h
  refine⟨R1.mpr ?_,h⟩
  rcases X0 i rows.length with c|c
  .exact c
  .rw[Ip c]at h
   cases h
theorem AY(rows:⇑(⇑Int))(ps:⇑Int)(k:Nat):((cP rows k).map (PF ps)).sum=Cn rows.length (WR rows) (PF ps) k:=by
 unfold cP
 rw[sum_filter]
 rfl
theorem IC(rows:⇑(⇑Int))(ps:⇑Int)(k:Nat)(L:Int):BR ((cP rows k).map (PF ps)) L=jd rows.length (WR rows) (PF ps) k L:=by
 unfold BR cP
 rw[QY,sum_filter]
 rfl
theorem FG(rows:⇑(⇑Int))(k:Nat):(cP rows k).length<=rows.length:=by
 unfold cP
 have:=Sb (fun i=>WR rows i k) (Q1 rows.length)
 rwa [Vf]at this
theorem IJ{rows:⇑(⇑Int)}{k i:Nat}(h:i∈cP rows k):i<rows.length:=R1.mp (Ra.mp h).1
theorem yJ(rows:⇑(⇑Int)):∀(r:⇑(Nat×Int))(ps:⇑Int)(i:Nat),i<ps.length->(bK rows ps r).getD i 0=ps.getD i 0-((aE rows ps r).map fun x=>x.2.2.getD i 0).sum
 |[],ps,i,_=>by simp[bK,aE]
 |(k,L)::r,ps,i,hi=>by
  rw[bK,yJ rows r (dU rows ps k L) i (by rw[di];exact hi),aE,Rk,RK]
  have a:(dU rows ps k L).getD i 0=ps.getD i 0-wA (WR rows) (PF ps) k L i:=by
   unfold dU
   simp[Q3,hi,BQ,PF]
  have b:(b9 rows ps k L).getD i 0=wA (WR rows) (PF ps) k L i:=by
   unfold b9
   simp[Q3,hi]
  rw[a,b]
  omega
theorem cR(rows:⇑(⇑Int))(ps:⇑Int)(r:⇑(Nat×Int)):aZ ps (aE rows ps r)=bK rows ps r:=by
 apply T5
 .unfold aZ
  rw[QR,Vf,mv]
 .intro i b a
  have hi:i<ps.length:=by rw[mv]at a;exact a
  have:=yJ rows r ps i hi
  have e:(bK rows ps r).getD i 0=(bK rows ps r)[i]:=by simp[Q3,a]
  rw[e]at this
  rw[this]
  unfold aZ
  simp
theorem jb(rows:⇑(⇑Int))(ps:⇑Int)(r:⇑(Nat×Int)):(aE rows ps r).map (·.1)=r.map (·.1):=by
 have:=congrArg (Sr (·.1)) (p3 rows ps r)
 rw[QY]at this
 exact this
structure Pre(cs:⇑Int)(rows:⇑(⇑Int))(ps:⇑Int)(r:⇑(Nat×Int)):Prop where
 nd:(r.map (·.1)).Nodup
 lt:∀x∈r,x.1<cs.length
 on:∀rest,Run (aW cs rows) (PF (bK rows ps r)) (r.map (·.1)).reverse rest->Run (aW cs rows) (PF ps) [] (r++rest)
theorem Eb(cs:⇑Int)(rows:⇑(⇑Int))(ps:⇑Int):Pre cs rows ps []:=⟨Uu,fun _ h=>by simp at h,fun _ h=>h⟩
theorem Pre.len{cs:⇑Int}{rows:⇑(⇑Int)}{ps:⇑Int}{r:⇑(Nat×Int)}(h:Pre cs rows ps r):r.length<=cs.length:=by
 have:=eY cs.length _ h.nd fun x a=>by
  obtain⟨y,b,e⟩:=QO.mp a
  rw[<-e]
  exact h.lt y b
 rwa [QR]at this
theorem Pre.snoc{cs:⇑Int}{rows:⇑(⇑Int)}{ps:⇑Int}{r:⇑(Nat×Int)}{k:Nat}{L:Int}(h:Pre cs rows ps r)(c:ps.length=rows.length)(n:Nx (aW cs rows) (PF (bK rows ps r)) (r.map (·.1)) k L):Pre cs rows ps (r++[(k,L)]):=by
 exists ?_,?_
 .rw[Sv]
  refine Xa.mpr ⟨h.nd,⋯,?_⟩
  intro a ha b d e
  have:b=k:=by simpa using d
  subst this
  subst e
  exact n.new ha
 .intro x f
  rcases Rr.mp f with z|z
  .exact h.lt x z
  .have:x=(k,L):=by simpa using z
   subst this
   exact n.lt
 .intro rest hr
  rw[wR,dC (by rw[mv];exact c),Sv,List.reverse_append]at hr
  have hr:Run (aW cs rows) (BQ (WR rows) (PF (bK rows ps r)) k L) (k::(r.map (·.1)).reverse) rest:=hr
  have:=h.on ((k,L)::rest) (.step (Bd (fun j=>by simp) n) hr)
  rwa [YC]
theorem Pre.stop{cs:⇑Int}{rows:⇑(⇑Int)}{ps:⇑Int}{r:⇑(Nat×Int)}(h:Pre cs rows ps r)(n:∀k,k<cs.length->k∉r.map (·.1)->Cn rows.length (WR rows) (PF (bK rows ps r)) k<(aW cs rows).c k):Run (aW cs rows) (PF ps) [] r:=by
 have:=h.on [] (.stop fun k a hn=>n k a fun z=>hn (by simpa using z))
 rwa [UP]at this
theorem CZ{ps:⇑Int}{i:Nat}(h:i<ps.length):(ps.map V.int)[i]?=ψ (V.int (PF ps i)):=by
 unfold PF
 simp[Q3,h]
theorem zB{f H:Hp}{c:QI}{o:HO}{xs:⇑V}{a:⇑(Nat×Int×⇑Int)}{ts:⇑QI}(h:Q4 (pP f H c) a ts)(i:H c=ψ (.lst xs)):Q4 (pP f (upd H c o) c) a ts:=by
 refine Paired.mapP h fun x t ⟨b,j,k,g,d,l⟩=>⟨b,j,k,g,?_,?_⟩
 .rw[aj fun e=>by rw[e,i]at d;cases d]
  exact d
 .rw[aj g]
  exact l
def gz(c:Nat):Bool:=decide (48<=c)&&decide (c<=57)
def FT(cs:⇑Nat):Bool:=if cs.head?=ψ 48 then decide (cs=[48])else(decide (1<=cs.length)&&decide (cs.length<=13))&&cs.all gz
def gk(z:QH):Bool:=FT z.cps.toList
def aU(z:QH):Prop:=z.cps.all (· < 128)=ω
theorem G3{cs:⇑Nat}(h:FT cs=ω):VG cs/\cs≠[]/\cs.length<=13/\(cs.length=1\/∃c r,cs=c::r/\49<=c):=by
 unfold FT at h
 split at h
 .have e:=of_decide_eq_true h
  subst e
  exact⟨fun c a=>by simp at a;omega,⋯,by decide,.inl rfl⟩
 .rename_i b
  simp only[RI,decide_eq_true_eq,R7]at h
  obtain⟨⟨d,f⟩,g⟩:=h
  have hd:VG cs:=fun c a=>by
   have:=g c a
   simpa[gz]using this
  cases cs with
  |nil=>simp at d
  |cons c r=>
   refine⟨hd,⋯,f,.inr ⟨c,r,rfl,?_⟩⟩
   have:=hd.head
   have a:c≠48:=fun z=>b (by rw[z];rfl)
   omega
theorem ID:∀(cs:⇑Nat)(a:Nat),VG cs->cs.foldl (fun b c=>b*10+(c-48)) a<(a+1)*10 ^ cs.length
 |[],a,_=>by simp
 |c::cs,a,h=>by
  have f:=h.head
  have d:=ID cs (a*10+(c-48)) h.tail
  have e:(a*10+(c-48)+1)*10 ^ cs.length<=(a+1)*10 ^ (c::cs).length:=by
   rw[RB,Xf,Nat.mul_comm (10 ^ cs.length) 10,<-Nat.mul_assoc]
   exact SV _ "`"
  exact Rq d e
theorem pK{z:QH}(h:gk z=ω):∃n:Int,0<=n/\n.natAbs.log2<1920/\Vo z=ψ n/\((toString n:String):QH)=z/\z.length<=13:=by
 obtain⟨a,d,f,b⟩:=G3 h
 have l:z.cps.toList.length=z.length:=by simp[UC]
 refine⟨(SY z.cps.toList:Nat),by omega,?_,Y4 a d "`",?_,by omega⟩
 .have g:SY z.cps.toList<10 ^ 13:=by
   have:=ID z.cps.toList 0 a
   have m:10 ^ z.cps.toList.length<=10 ^ 13:=YF "^" f
   unfold SY
   omega
  rw[YK]
  have:(SY z.cps.toList).log2<=60:=by
   by_cases e:SY z.cps.toList=0
   .rw[e];decide
   .exact Tj ((Wv e).mpr (Rq g "^"))
  omega
 .have e:=XG (z.cps.toList.length-1) z.cps.toList (by have:=SF.mpr d;omega) a (by rcases b with b|b;exact .inl "`";exact .inr b)
  have i:=WO (SY z.cps.toList)
  refine UY ?_
  apply WC
  rw[show(((toString ((SY z.cps.toList:Nat):Int):String):QH)).cps.toList=_ from i,e,QY]
  have:∀c∈z.cps.toList,(Ts ∘ Uw) c=c:=fun c j=>by
   have:=a c j
   have k:c.isValidChar:=.inl "`"
   show(Uw c).toNat=c
   rw[Uw,dif_pos k]
   rfl
  rw[RT this,TR]
def eh:⇑(⇑Nat)->⇑Nat
 |[]=>[]
 |[p]=>p
 |p::q::r=>p++32::eh (q::r)
theorem Bc:(" ":QH)=⟨#[32]⟩:=nofun
theorem rh:("0":QH)=⟨#[48]⟩:=nofun
theorem Ka:("":QH)=⟨#[]⟩:=nofun
theorem ju{a b:QH}:a=b↔a.cps.toList=b.cps.toList:=⟨fun h=>by rw[h],fun h=>UY (WC h)⟩
theorem bw(z:QH):z.cps.toList.length=z.length:=by simp[UC]
theorem IS(x y:QH):Rg x y≠[]:=by
 unfold Rg
 split
 .simp
 .split
  .simp
  .intro h
   have:=congrArg S8 h
   rw[PySem.length_partsBetween]at this
   simp at this
theorem i6:∀ps:⇑QH,(Q7 ⟨#[32]⟩ ps).cps.toList=eh (ps.map (·.cps.toList))
 |[]=>rfl
 |[x]=>rfl
 |x::y::r=>by
  have a:=i6 (y::r)
  show((x++(⟨#[32]⟩:QH)++Q7 ⟨#[32]⟩ (y::r)).cps).toList=x.cps.toList++32::eh ((y::r).map (·.cps.toList))
  rw[TN,TN,<-a]
  simp
theorem y4:∀ps:⇑(⇑Nat),ps.length<=(eh ps).length+1
 |[]=>by simp
 |[p]=>by simp
 |p::q::r=>by
  have:=y4 (q::r)
  simp only[eh,RN,RB]at *
  omega
theorem split_len(z:QH):(Rg z " ").length<=z.length+1:=by
 rw[Bc]
 have h:=y4 ((Rg z ⟨#[32]⟩).map (·.cps.toList))
 rw[<-i6,Tf,QR,bw]at h
 exact h
theorem repr_fits{z:QH}(ha:aU z)(hz:z.length<=100000):(U5 z).length<=1000002:=by
 have:=aa1 z (fun c a=>by
  have:=Array.all_eq_true'.mp ha c (by simpa using a)
  have:=of_decide_eq_true this
  exact Uy this "^")
 omega
theorem zI{a:QH}{xs:⇑QH}:L2.Le (.str a) (xs.map V.str)=decide (a∈xs):=by
 unfold L2.Le
 rw[YQ,RZ,VV,decide_eq_true_eq]
 constructor
 .rintro⟨y,b,e⟩
  have e:(y==a)=ω:=e
  rw[<-eq_of_beq e]
  exact b
 .intro h
  exact⟨a,h,by show(a==a)=true;simp⟩
theorem qS(xs:⇑QH):(xs.map V.str).all L2.lR=ω:=by
 rw[UK,R7]
 intro x _
 rfl
theorem G4(z:QH):(decide (0+("0":QH).length<=z.length)&&abz z "0" 0)=decide (z.cps.toList.head?=ψ 48):=by
 rw[rh,RZ,RI,decide_eq_true_eq,decide_eq_true_eq,abi z 48 0]
 cases z.cps.toList<;>simp
theorem Em(c:Nat):(!(S2 ("0123456789":QH) ⟨#[c]⟩ 0 ("0123456789":QH).length 1).isEmpty)=gz c:=by
 rw[YS,show("0123456789":QH).cps.toList=XJ 48 10 by decide +kernel,RZ]
 simp only[gz,decide_eq_true_eq,RI,Yi]
 omega
section
variable {H:Hp}{Q:VK}{z a b:QH}
theorem size_eq:QT=16777216:=by decide
theorem gp(h:a.length+b.length<=16777216)(q:Q (.str (a++b)) H):gy (.str a) (.str b) H Q:=⟨a,b,rfl,rfl,by rw[size_eq];exact h,q⟩
theorem MP(h:z.length<=16777216)(q:Q (.int z.length) H):sh [.str z] H Q:=⟨z,rfl,by rw[size_eq];exact h,q⟩
theorem N5(q:Q (.bl (!(S2 b a 0 b.length 1).isEmpty)) H):IA (.str a) (.str b) H Q:=⟨a,b,rfl,rfl,q⟩
theorem Nc(q:Q (.bl (!(!(S2 b a 0 b.length 1).isEmpty))) H):ub (.str a) (.str b) H Q:=⟨a,b,rfl,rfl,q⟩
theorem Ov{lo hi:Option Int}(h:z.length<=16777216)(q:Q (.str (RP z lo hi)) H):Bs (.str z) lo hi H Q:=⟨z,rfl,by rw[size_eq];exact h,q⟩
theorem OA(q:Q (.bl (decide (a=b))) H):fS (.str a) (.str b) H Q:=⟨rfl,by
 have e:decide (V.str a=V.str b)=decide (a=b):=by rw[RZ];simp
 rw[e];exact q⟩
theorem IT(q:Q (.bl (!decide (a=b))) H):Cp (.str a) (.str b) H Q:=⟨rfl,by
 have e:decide (V.str a=V.str b)=decide (a=b):=by rw[RZ];simp
 rw[e];exact q⟩
theorem Ks{a:TE}{b:St}{R:It->Hp->Prop}(h:a b H fun v c=>∃x:QH,v=.str x/\x.cps.all (· < 128)=ω/\R (PB x) c):Be a b H R:=h
theorem IZ(q:Q (.bl (decide (z.cps.toList.head?=ψ 48))) H):ud (.str z) [.str "0"] H Q:=⟨z,"0",rfl,rfl,by rw[G4];exact q⟩
theorem rF{i:Int}(h:i.natAbs.log2<1920)(q:Q (.str (toString i:String)) H):mQ [.int i] H Q:=⟨i,rfl,h,q⟩
end
local macro_rules | `(tactic| walk_at "early") => `(tactic| first
 |((with_reducible show Lp _ "str" (V.str _) _/\_);refine⟨rfl,?_⟩)
 |((with_reducible show sh _ _ _);refine MP (by omega) ?_)
 |((with_reducible show gy _ _ _ _);refine gp (by omega) ?_)
 |((with_reducible show IA _ _ _ _);refine N5 ?_)
 |((with_reducible show ub _ _ _ _);refine Nc ?_)
 |((with_reducible show Bs _ _ _ _ _);refine Ov (by omega) ?_)
 |with_reducible apply Ks
 |((with_reducible show ud _ _ _ _);refine IZ ?_)
 |((with_reducible show fS (V.str _) (V.str _) _ _);refine OA ?_)
 |((with_reducible show Cp (V.str _) (V.str _) _ _);refine IT ?_))
theorem cJ{z:QH}:aU z↔∀c∈z.cps.toList,c<128:=by
 unfold aU
 rw[<-XB,R7]
 exact⟨fun h c a=>of_decide_eq_true (h c a),fun h c a=>decide_eq_true (h c a)⟩
theorem c8(a b:QH):(a++b).cps.toList=a.cps.toList++b.cps.toList:=by rw[TN];simp
theorem qu{a b:QH}(ha:aU a)(d:aU b):aU (a++b):=by
 rw[cJ,c8]
 intro c e
 rcases Rr.mp e with h|h
 .exact cJ.mp ha c h
 .exact cJ.mp d c h
theorem uR{sep:QH}(a:aU sep):∀{xs:⇑QH},(∀x∈xs,aU x)->aU (Q7 sep xs)
 |[],_=>by rw[cJ];intro c b;cases b
 |[x],h=>h x ⋯
 |x::y::r,h=>qu (qu (h x ⋯) a) (uR a fun z d=>h z (Rm _ d))
theorem Ba(sep:QH)(m:Nat):∀(xs:⇑QH)(a:Nat),(∀x∈xs,x.length<=m)->xs.foldl (fun n x=>n+x.length+sep.length) a<=a+xs.length*(m+sep.length)
 |[],a,_=>by simp
 |x::xs,a,h=>by
  have c:=h x ⋯
  have d:=Ba sep m xs (a+x.length+sep.length) fun y b=>h y (Rm _ b)
  have e:(x::xs).length*(m+sep.length)=xs.length*(m+sep.length)+(m+sep.length):=by rw[RB,Yj,XC]
  rw[e]
  simp only[List.foldl_cons]
  omega
theorem fk{sep:QH}{m:Nat}:∀{xs:⇑QH},(∀x∈xs,x.length<=m)->(Q7 sep xs).length<=xs.length*(m+sep.length)
 |[],_=>by show(Rh:QH).length<=_;exact RL _
 |[x],h=>by
  have:=h x ⋯
  show x.length<=1*_
  omega
 |x::y::r,h=>by
  have b:=h x ⋯
  have c:=fk (sep:=sep) (xs:=y::r) fun z a=>h z (Rm _ a)
  show(x++sep++Q7 sep (y::r)).length<=_
  rw[Ru,Ru,show(x::y::r).length=(y::r).length+1 from rfl,Yj,XC]
  omega
theorem rj{K:QK}{H:Hp}{Q:VK}{sep:QH}{p:QI}{xs:⇑QH}(m:Nat)(a:aD K H p (xs.map V.str))(hx:∀x∈xs,x.length<=m)(b:xs.length*(m+sep.length)<=16777216)(q:Q (.str (Q7 sep xs)) H):rJoin K (.str sep) [.ref p] H Q:=by
 have e:=YY sep xs
 exists sep,p,xs,rfl,rfl,a,?_,?_
 .have h:=Ba sep m xs 0 hx
  refine decide_eq_false ?_
  rw[size_eq]
  simp only[List.foldl_toArray',RH]
  omega
 .rw[e,size_eq]
  exact QV (fk hx) b
 .rw[e]
  exact q
theorem AA(c:Nat):(⟨#[c]⟩:QH).length=1:=rfl
theorem Kl{l:⇑Nat}{w:Int}(a:0<=w)(b:w.toNat<l.length):ux l w=ψ (l.getD w.toNat 0):=by
 have h:l[w.toNat]?=ψ (l.getD w.toNat 0):=by rw[Rl,QZ b];rfl
 have:=ar h
 rw[V3 a]at this
 exact this
theorem wB:∀{ps:⇑(⇑Nat)}{p:⇑Nat},p∈ps->p.length<=(eh ps).length
 |[],_,h=>nomatch h
 |[p],q,h=>by
  have:q=p:=by simpa using h
  subst this
  exact Q2 _
 |p::q::r,x,h=>by
  rcases QW.mp h with rfl|h
  .simp only[eh,RN];omega
  .have:=wB h
   simp only[eh,RN,RB]
   omega
theorem GD{z p:QH}(h:p∈Rg z " "):p.length<=z.length:=by
 have e:=Tf z ⟨#[32]⟩
 rw[Bc]at h
 have:=wB (XS (f:=fun x:QH=>x.cps.toList) h)
 rw[<-i6,e,bw,bw]at this
 exact this
theorem i3{K:QK}{H:Hp}:∀xs:⇑QH,DatAll K H (xs.map V.str) (xs.map Uc)
 |[]=>.nil
 |x::xs=>.cons (.str x) (i3 xs)
theorem yA:∀{ps:⇑(⇑Nat)}{p:⇑Nat}{c:Nat},p∈ps->c∈p->c∈eh ps
 |[],_,_,h,_=>nomatch h
 |[p],q,c,h,a=>by
  have:q=p:=by simpa using h
  subst this
  exact a
 |p::q::r,x,c,h,a=>by
  rcases QW.mp h with rfl|h
  .simp only[eh,Rr];exact .inl a
  .have:=yA h a
   simp only[eh,Rr,QW]
   exact .inr (.inr this)
theorem DI{z p:QH}(ha:aU z)(h:p∈Rg z " "):aU p:=by
 have e:=Tf z ⟨#[32]⟩
 rw[Bc]at h
 rw[cJ]
 intro c a
 have:=yA (XS (f:=fun x:QH=>x.cps.toList) h) a
 rw[<-i6,e]at this
 exact cJ.mp ha c this
theorem sX{x:QH}(h:aU x):WG x=ω:=by
 unfold WG
 rw[<-XB,R7]
 intro c a
 have:=cJ.mp h c a
 exact decide_eq_true "`"
theorem ug(xs:⇑QH)(h:∀x∈xs,aU x):cK 1 (.list (xs.map Uc)):=ue fun d hd=>by
 obtain⟨x,a,rfl⟩:=QO.mp hd
 exact⟨by simp only[nice];exact sX (h x a),by simp[UE]⟩
theorem J6(h:Option Int)(n:Nat):Ur none h 1 n=Ur (ψ ((0:Nat):Int)) h 1 n:=by
 have e:max (0:Int) (min 0 (n:Int))=0:=by omega
 simp[Ur,e]
def bo(l:⇑QI)(H H':Hp):Prop:=(∀a o,a∉l->H a=ψ o->H' a=ψ o)/\(∀a xs,H a=ψ (.tup xs)->H' a=ψ (.tup xs))/\∀a,H' a=χ->H a=χ
section
variable {H H1 H2:Hp}{l l':⇑QI}
theorem bo.of(s:ah H H1):bo l H H1:=⟨fun a o _ h=>s a o h,fun a xs h=>s a _ h,fun _ h=>s.free h⟩
theorem bo.trans(a:bo l H H1)(b:bo l H1 H2):bo l H H2:=⟨fun c o n h=>b.1 c o n (a.1 c o n h),fun c xs h=>b.2.1 c xs (a.2.1 c xs h),fun c h=>a.2.2 c (b.2.2 c h)⟩
theorem bo.mono(a:bo l H H1)(h:∀c∈l,c∈l'):bo l' H H1:=⟨fun c o n q=>a.1 c o (fun z=>n (h c z)) q,a.2.1,a.2.2⟩
theorem bo.upd{a:QI}{o o':HO}(h:H a=ψ o)(b:∀xs,o≠.tup xs)(m:a∈l):bo l H (L2.upd H a o'):=by
 refine⟨fun c u n q=>?_,fun c xs q=>?_,fun c q=>?_⟩
 .rw[aj (fun z=>n (by rw[z];exact m))];exact q
 .rw[aj (fun z=>by rw[z,h]at q;exact b xs (RE q))];exact q
 .by_cases z:c=a
  .rw[z,ak]at q;cases q
  .rw[aj z]at q;exact q
def gY(l l':⇑QI)(H:Hp):Prop:=∀a∈l',a∈l\/H a=χ
theorem gY.refl:gY l l H:=fun _ h=>.inl h
theorem gY.trans{d:⇑QI}(a:gY l l' H)(b:gY l' d H1)(e:bo l' H H1):gY l d H:=fun c h=>by
 rcases b c h with z|z
 .exact a c z
 .exact .inr (e.2.2 c z)
end
def Qe(H:Hp)(p:QH×Int)(t:QI):Prop:=H t=ψ (.tup [.str p.1,.int p.2])
def AR(H:Hp)(p:QH×QH)(t:QI):Prop:=H t=ψ (.tup [.str p.1,.str p.2])
def jY(H:Hp)(l:QI)(rows:⇑(QH×Int)):Prop:=∃ts:⇑QI,H l=ψ (.lst (ts.map V.ref))/\Q4 (Qe H) rows ts
theorem jY.but{H H':Hp}{fp:⇑QI}{l:QI}{rows:⇑(QH×Int)}(b:bo fp H H')(h:jY H l rows)(n:l∉fp):jY H' l rows:=by
 obtain⟨ts,h1,a⟩:=h
 exact⟨ts,b.1 _ _ n h1,Paired.mapP a fun _ _ q=>b.2.1 _ _ q⟩
theorem jY.same{H H':Hp}{l:QI}{rows:⇑(QH×Int)}(h:jY H l rows)(s:ah H H'):jY H' l rows:=h.but (l:=l) (bo.of (l:=[]) s) ⋯
def cD(ps:⇑(QH×Int)):⇑(Key×V):=ps.map fun p=>(.inr p.1,.int p.2)
theorem cj(ps:⇑(QH×Int)):(cD ps).length=ps.length:=by simp[cD]
theorem gZ{ps:⇑(QH×Int)}{i:Nat}{p:QH×Int}(h:ps[i]?=ψ p):(cD ps)[i]?=ψ (.inr p.1,.int p.2):=by simp[cD,h]
theorem mq:∀{ps:⇑(QH×Int)}{n:QH},n∉ps.map (·.1)->fj (cD ps) (.inr n)=χ
 |[],_,_=>rfl
 |p::r,n,h=>by
  have a:¬p.1=n:=fun z=>h (by rw[<-z];simp)
  show fj ((.inr p.1,.int p.2)::cD r) (.inr n)=χ
  rw[lg (by simpa using a)]
  exact mq fun z=>h (by rw[Rk];exact Rm _ z)
theorem jn:∀{ps:⇑(QH×Int)}{n:QH}{x:Int},(ps.map (·.1)).Nodup->(n,x)∈ps->fj (cD ps) (.inr n)=ψ (.int x)
 |p::r,n,x,a,h=>by
  have a:(p.1::r.map (·.1)).Nodup:=a
  obtain⟨b,c⟩:=RC.mp a
  show fj ((.inr p.1,.int p.2)::cD r) (.inr n)=_
  rcases QW.mp h with z|z
  .subst z
   exact pE rfl
  .have d:¬p.1=n:=fun e=>b (by rw[e];exact QO.mpr ⟨_,z,rfl⟩)
   rw[lg (by simpa using d)]
   exact jn c z
theorem Ab{ps:⇑(QH×Int)}{n:QH}{x:Int}(h:n∉ps.map (·.1)):putK (cD ps) (.inr n) (.int x)=cD (ps++[(n,x)]):=by
 rw[GZ _ (mq h)]
 simp[cD]
theorem Cs(ps:⇑(QH×Int))(n:QH):qH (cD ps) (.inr n)=cD (ps.filter fun p=>decide (p.1≠n)):=by
 unfold qH cD
 rw[Uj]
 congr 1
 refine SJ fun p _=>?_
 show decide ((Ss p.1:Key)≠.inr n)=_
 congr 1
 simp
structure aB where
 ps:⇑(QH×Int)
 cs:⇑(QH×Int)
 ws:⇑(QH×QH)
 pot:Int
 giv:Int
 spt:Int
def fD(d e w:QI)(a b c:Int):⇑(QH×V):=[("purses",.ref d),("costs",.ref e),("wishes",.ref w),("unshared",.int a),("gifts",.int b),("outlay",.int c)]
structure tL(K:QK)(H:Hp)(c dx d1 d2 w:QI)(wt:⇑QI)(s:aB):Prop where
 at_:H c=ψ (.ins (aF K "Chest") dx (fD d1 d2 w s.pot s.giv s.spt))
 p1:H d1=ψ (.dK (cD s.ps))
 p2:H d2=ψ (.dK (cD s.cs))
 w_:H w=ψ (.lst (wt.map V.ref))
 wt:Q4 (AR H) s.ws wt
 ne:d1≠d2
 nd:(s.ps.map (·.1)).Nodup
 nd2:(s.cs.map (·.1)).Nodup
def aI(K:QK)(H:Hp)(c:QI)(fp:⇑QI)(s:aB):Prop:=∃dx a b w d,tL K H c dx a b w d s/\fp=[c,a,b,w]
theorem ff:("costs":QH)≠"purses"/\("wishes":QH)≠"purses"/\("unshared":QH)≠"purses"/\("gifts":QH)≠"purses"/\("outlay":QH)≠"purses"/\
  ("wishes":QH)≠"costs"/\("unshared":QH)≠"costs"/\("gifts":QH)≠"costs"/\("outlay":QH)≠"costs"/\
  ("unshared":QH)≠"wishes"/\("gifts":QH)≠"wishes"/\("outlay":QH)≠"wishes"/\("gifts":QH)≠"unshared"/\("outlay":QH)≠"unshared"/\("outlay":QH)≠"gifts":=nofun
section
variable {d1 d2 w e:QI}{a b c x:Int}
theorem bO:(fD d1 d2 w a b c).lookup ("purses":QH)=ψ (V.ref d1):=by simp[fD,RQ]
theorem cW:(fD d1 d2 w a b c).lookup ("costs":QH)=ψ (V.ref d2):=by
 have h:=ff
 simp[fD,RQ,beq_eq_false_iff_ne.mpr h.1]
theorem eV:(fD d1 d2 w a b c).lookup ("wishes":QH)=ψ (V.ref w):=by
 obtain⟨l,d,m,n,o,e,p,q,r,f,g,h,i,j,k⟩:=ff
 simp[fD,RQ,beq_eq_false_iff_ne.mpr d,beq_eq_false_iff_ne.mpr e]
theorem dP:(fD d1 d2 w a b c).lookup ("unshared":QH)=ψ (V.int a):=by
 obtain⟨l,m,e,n,o,p,f,q,r,d,g,h,i,j,k⟩:=ff
 simp[fD,RQ,beq_eq_false_iff_ne.mpr e,beq_eq_false_iff_ne.mpr f,beq_eq_false_iff_ne.mpr d]
theorem A0:(fD d1 d2 w a b c).lookup ("gifts":QH)=ψ (V.int b):=by
 obtain⟨l,m,n,f,o,p,q,g,r,h,d,i,e,j,k⟩:=ff
 simp[fD,RQ,beq_eq_false_iff_ne.mpr f,beq_eq_false_iff_ne.mpr g,beq_eq_false_iff_ne.mpr d,beq_eq_false_iff_ne.mpr e]
theorem yI:(fD d1 d2 w a b c).lookup ("outlay":QH)=ψ (V.int c):=by
 obtain⟨l,m,n,o,g,p,q,r,h,i,j,d,k,e,f⟩:=ff
 simp[fD,RQ,beq_eq_false_iff_ne.mpr g,beq_eq_false_iff_ne.mpr h,beq_eq_false_iff_ne.mpr d,beq_eq_false_iff_ne.mpr e,beq_eq_false_iff_ne.mpr f]
theorem yF:bP "purses" (.ref e) (fD d1 d2 w a b c)=fD e d2 w a b c:=by simp[fD,bP]
theorem rq:bP "wishes" (.ref e) (fD d1 d2 w a b c)=fD d1 d2 e a b c:=by
 obtain⟨m,d,n,o,p,f,q,r,s,g,h,i,j,k,l⟩:=ff
 simp[fD,bP,d.symm,f.symm]
theorem ip:bP "unshared" (.int x) (fD d1 d2 w a b c)=fD d1 d2 w x b c:=by
 obtain⟨l,m,e,n,o,p,f,q,r,d,g,h,i,j,k⟩:=ff
 simp[fD,bP,e.symm,f.symm,d.symm]
theorem IH:bP "gifts" (.int x) (fD d1 d2 w a b c)=fD d1 d2 w a x c:=by
 obtain⟨l,m,n,f,o,p,q,g,r,h,d,i,e,j,k⟩:=ff
 simp[fD,bP,f.symm,g.symm,d.symm,e.symm]
theorem FD:bP "outlay" (.int x) (fD d1 d2 w a b c)=fD d1 d2 w a b x:=by
 obtain⟨l,m,n,o,g,p,q,r,h,i,j,d,k,e,f⟩:=ff
 simp[fD,bP,g.symm,h.symm,d.symm,e.symm,f.symm]
theorem JR:bP "outlay" (.int c) (bP "gifts" (.int b) (bP "unshared" (.int a) (bP "wishes" (.ref w) (bP "costs" (.ref d2) (bP "purses" (.ref d1) [])))))=fD d1 d2 w a b c:=by
 obtain⟨j,k,l,m,n,o,p,q,r,d,e,f,g,h,i⟩:=ff
 simp[fD,bP,j.symm,k.symm,l.symm,m.symm,n.symm,o.symm,p.symm,q.symm,r.symm,d.symm,e.symm,f.symm,g.symm,h.symm,i.symm]
theorem cQ{m:QH}(h:(["purses","costs","wishes","unshared","gifts","outlay"]:⇑QH).contains m=ξ):(fD d1 d2 w a b c).lookup m=none:=by
 have h:∀x∈(["purses","costs","wishes","unshared","gifts","outlay"]:⇑QH),x≠m:=fun x d e=>by
  rw[e]at d
  rw[List.contains_iff_mem.mpr d]at h
  cases h
 have g:∀x∈(["purses","costs","wishes","unshared","gifts","outlay"]:⇑QH),(m==x)=ξ:=fun x d=>beq_eq_false_iff_ne.mpr (h x d).symm
 simp only[fD,RQ,g _ (by simp:("purses":QH)∈_),g _ (by simp:("costs":QH)∈_),g _ (by simp:("wishes":QH)∈_),g _ (by simp:("unshared":QH)∈_),g _ (by simp:("gifts":QH)∈_),g _ (by simp:("outlay":QH)∈_)]
end
section
variable {K:QK}{H H':Hp}{c dx d1 d2 w:QI}{wt:⇑QI}{s:aB}{fp l:⇑QI}
theorem tL.but(x:tL K H c dx d1 d2 w wt s)(b:bo l H H')(a:c∉l)(d:d1∉l)(e:d2∉l)(f:w∉l):tL K H' c dx d1 d2 w wt s:=
 ⟨b.1 _ _ a x.at_,b.1 _ _ d x.p1,b.1 _ _ e x.p2,b.1 _ _ f x.w_,Paired.mapP x.wt fun _ _ q=>b.2.1 _ _ q,x.ne,x.nd,x.nd2⟩
theorem tL.same(x:tL K H c dx d1 d2 w wt s)(b:ah H H'):tL K H' c dx d1 d2 w wt s:=x.but (bo.of (l:=[]) b) ⋯ ⋯ ⋯ ⋯
theorem aI.but(x:aI K H c fp s)(b:bo l H H')(n:∀a∈fp,a∉l):aI K H' c fp s:=by
 obtain⟨dx,d1,d2,w,wt,x,rfl⟩:=x
 exact⟨dx,d1,d2,w,wt,x.but b (n _ ⋯) (n _ ⋯) (n _ ⋯) (n _ ⋯),rfl⟩
theorem aI.same(x:aI K H c fp s)(b:ah H H'):aI K H' c fp s:=x.but (bo.of (l:=[]) b) ⋯
theorem aI.there(x:aI K H c fp s):∀a∈fp,H a≠none:=by
 obtain⟨dx,d1,d2,w,wt,x,rfl⟩:=x
 intro a ha
 simp only[QW,RM,or_false]at ha
 rcases ha with rfl|rfl|rfl|rfl
 .rw[x.at_];simp
 .rw[x.p1];simp
 .rw[x.p2];simp
 .rw[x.w_];simp
theorem aH{a b:QI}{o c:HO}(h:H a=ψ o)(h':H b=ψ c)(n:o≠c):a≠b:=fun e=>n (by rw[e,h']at h;exact(RE h).symm)
theorem e9{a b:QI}{o:HO}(h:H a=ψ o)(h':H b=χ):a≠b:=fun e=>by rw[e,h']at h;cases h
theorem tL.setF{a b e:Int}(x:tL K H c dx d1 d2 w wt s):tL K (L2.upd H c (.ins (aF K "Chest") dx (fD d1 d2 w a b e))) c dx d1 d2 w wt ⟨s.ps,s.cs,s.ws,a,b,e⟩:=by
 have d:=aH x.p1 x.at_ ⋯
 have f:=aH x.p2 x.at_ ⋯
 have g:=aH x.w_ x.at_ ⋯
 exact⟨ak,by rw[aj d];exact x.p1,by rw[aj f];exact x.p2,by rw[aj g];exact x.w_,Paired.mapP x.wt fun _ _ q=>by
  unfold AR at *
  rw[aj (aH q x.at_ ⋯)];exact q,x.ne,x.nd,x.nd2⟩
theorem tL.setD{e:QI}{ps:⇑(QH×Int)}(x:tL K H c dx d1 d2 w wt s)(he:H e=ψ (.dK (cD ps)))(a:e≠d2)(nd:(ps.map (·.1)).Nodup):
  tL K (L2.upd H c (.ins (aF K "Chest") dx (fD e d2 w s.pot s.giv s.spt))) c dx e d2 w wt ⟨ps,s.cs,s.ws,s.pot,s.giv,s.spt⟩:=by
 have b:=aH he x.at_ ⋯
 have d:=aH x.p2 x.at_ ⋯
 have f:=aH x.w_ x.at_ ⋯
 exact⟨ak,by rw[aj b];exact he,by rw[aj d];exact x.p2,by rw[aj f];exact x.w_,Paired.mapP x.wt fun _ _ q=>by
  unfold AR at *
  rw[aj (aH q x.at_ ⋯)];exact q,a,nd,x.nd2⟩
theorem tL.setW{e:QI}{ws:⇑(QH×QH)}{a:⇑QI}(x:tL K H c dx d1 d2 w wt s)(he:H e=ψ (.lst (a.map V.ref)))(hp:Q4 (AR H) ws a):
  tL K (L2.upd H c (.ins (aF K "Chest") dx (fD d1 d2 e s.pot s.giv s.spt))) c dx d1 d2 e a ⟨s.ps,s.cs,ws,s.pot,s.giv,s.spt⟩:=by
 have b:=aH x.p1 x.at_ ⋯
 have d:=aH x.p2 x.at_ ⋯
 have f:=aH he x.at_ ⋯
 exact⟨ak,by rw[aj b];exact x.p1,by rw[aj d];exact x.p2,by rw[aj f];exact he,Paired.mapP hp fun _ _ q=>by
  unfold AR at *
  rw[aj (aH q x.at_ ⋯)];exact q,x.ne,x.nd,x.nd2⟩
theorem tL.setP{ps:⇑(QH×Int)}(x:tL K H c dx d1 d2 w wt s)(nd:(ps.map (·.1)).Nodup):tL K (L2.upd H d1 (.dK (cD ps))) c dx d1 d2 w wt ⟨ps,s.cs,s.ws,s.pot,s.giv,s.spt⟩:=by
 have a:=aH x.at_ x.p1 ⋯
 have b:=aH x.w_ x.p1 ⋯
 exact⟨by rw[aj a];exact x.at_,ak,by rw[aj (Rb x.ne)];exact x.p2,by rw[aj b];exact x.w_,Paired.mapP x.wt fun _ _ q=>by
  unfold AR at *
  rw[aj (aH q x.p1 ⋯)];exact q,x.ne,nd,x.nd2⟩
end
local macro_rules | `(tactic| walk_at "early") => `(tactic| first
 |with_reducible first|apply NG|apply Pu|apply MD|apply L7|apply LY|apply Me|apply Oq|apply Mt|apply ON|apply O9)
def isLet(c:Nat):Bool:=decide (97<=c)&&decide (c<=122)
def bE(z:QH):Bool:=(decide (1<=z.length)&&decide (z.length<=8))&&z.cps.toList.all isLet
theorem Ew:("abcdefghijklmnopqrstuvwxyz":QH).cps.toList=[97,98,99,100,101,102,103,104,105,106,107,108,109,110,111,112,113,114,115,116,117,118,119,120,121,122]:=nofun
theorem JW(c:Nat):(!(S2 ("abcdefghijklmnopqrstuvwxyz":QH) ⟨#[c]⟩ 0 ("abcdefghijklmnopqrstuvwxyz":QH).length 1).isEmpty)=isLet c:=by
 rw[YS,show("abcdefghijklmnopqrstuvwxyz":QH).cps.toList=XJ 97 26 by decide +kernel,RZ]
 simp only[isLet,decide_eq_true_eq,RI,Yi]
 omega
theorem fi{z:QH}(h:bE z=ω):aU z:=by
 rw[cJ]
 intro c a
 have b:=(RI _ _▸h:_/\_).2
 have:=R7.mp b c a
 simp[isLet]at this
 omega
theorem cy{z:QH}(h:bE z=ω):1<=z.length/\z.length<=8:=by
 simp[bE]at h
 exact h.1
theorem iZ(f:QH)(v:V):∀fs:⇑(QH×V),(bP f v fs).length<=fs.length+1
 |[]=>Q2 _
 |(g,x)::r=>by
  unfold bP
  by_cases h:g=f
  .rw[if_pos h];simp
  .rw[if_neg h]
   have:=iZ f v r
   simp only[RB]
   omega
theorem de{α:Type}(p:α->Bool)(d:α)(xs:⇑α):((Q1 xs.length).filter fun i=>p (xs.getD i d)).map (fun i=>xs.getD i d)=xs.filter p:=by
 have h:=aM (fun x=>x) d xs
 rw[TR]at h
 conv=>rhs;rw[<-h]
 rw[Uj]
 rfl
def uD(s:aB)(x:Int):aB:={s with ps:=s.ps.map fun p=>(p.1,p.2+x),pot:=s.pot-x*s.ps.length}
def gA(s:aB)(x:Int):aB:=if s.ps=[]then{s with pot:=s.pot+x,giv:=s.giv+x} else uD {s with pot:=s.pot+x,giv:=s.giv+x} ((s.pot+x)/(s.ps.length:Int))
def II(s:aB)(n:QH)(x:Int):aB:={s with ps:=s.ps.filter fun p=>decide (p.1≠n),ws:=s.ws.filter fun p=>!decide (p.1=n),pot:=s.pot+x}
theorem map_fst(ps:⇑(QH×Int))(x:Int):(ps.map fun p=>(p.1,p.2+x)).map (·.1)=ps.map (·.1):=by rw[QY];rfl
theorem oX{α:Type}{ps:⇑(QH×α)}{p:QH×α->Bool}(h:(ps.map (·.1)).Nodup):((ps.filter p).map (·.1)).Nodup:=U1 (U9 _ VI) h
theorem made{K:QK}{H i:Hp}{c dx:QI}{fp:⇑QI}(g:H c=χ)(j:H dx=χ)(b:bo [c] (upd (upd H dx (.own c)) c (.ins (aF K "Chest") dx [])) i)(w:gY [c] fp (upd (upd H dx (.own c)) c (.ins (aF K "Chest") dx []))):
  ah H i/\∀a∈fp,H a=none:=by
 refine⟨fun a o h=>?_,fun a ha=>?_⟩
 .have d:a≠c:=fun e=>by rw[e,g]at h;cases h
  have f:a≠dx:=fun e=>by rw[e,j]at h;cases h
  exact b.1 a o (by simpa using d) (by rw[aj d,aj f];exact h)
 .rcases w a ha with e|e
  .rw[Rv.mp e];exact g
  .by_cases d:a=c
   .rw[d];exact g
   .rw[aj d]at e
    by_cases f:a=dx
    .rw[f];exact j
    .rw[aj f]at e;exact e
def cp(c:Int)(k:Nat):Int:=(c%900900929+2503*(k:Int)+77)*(c%900900929+2503*(k:Int)+77)*(c%900900929+2503*(k:Int)+77+31*(k:Int))/13%700700003
def dX(c:Int)(m:Nat):⇑Int:=(Q1 m).map (cp c)
theorem DG(c:Int)(k:Nat):0<=cp c k/\cp c k<700700003:=by unfold cp;omega
theorem FC(c:Int)(m:Nat):(dX c m).length=m:=by simp[dX]
theorem gB{c:Int}{m k:Nat}(h:k<m):((dX c m).map V.int)[k]?=ψ (.int (cp c k)):=by simp[dX,h]
theorem Mu(l:Option Int)(n:Nat):Ur l none 1 n=Ur l (ψ (n:Int)) 1 n:=by
 have h:¬((n:Int)<0):=by omega
 have e:max (0:Int) (min (if(n:Int)<0 then(n:Int)+n else n) (n:Int))=n:=by rw[if_neg h];omega
 simp[Ur,e]
theorem rZ{z:QH}{a b:Nat}(c:a<=b)(d:b<=z.length):(RP z (ψ (a:Int)) (ψ (b:Int))).cps.toList=(z.cps.toList.drop a).take (b-a):=by
 have f:=bw z
 unfold RP
 split
 .rename_i e
  rw[abK c d]at e
  have:b-a=z.length:=by simpa using e
  have:a=0:=by omega
  subst this
  rw[Xn,SU "`"]
 .rw[aah z c d]
theorem vp{z:QH}{b:Nat}(h:b<=z.length):(RP z none (ψ (b:Int))).cps.toList=z.cps.toList.take b:=by
 have e:RP z none (ψ (b:Int))=RP z (ψ ((0:Nat):Int)) (ψ (b:Int)):=by unfold RP;rw[J6]
 rw[e,rZ (RL _) h]
 simp
theorem vi{z:QH}{a:Nat}(h:a<=z.length):(RP z (ψ (a:Int)) none).cps.toList=z.cps.toList.drop a:=by
 have b:=bw z
 have e:RP z (ψ (a:Int)) none=RP z (ψ (a:Int)) (ψ (z.length:Int)):=by unfold RP;rw[Mu]
 rw[e,rZ h (Q2 _),SU (by rw[SX];omega)]
def j8(x:Int):Nat:=97+(x%26).toNat
theorem NC(x:Int):ux ("abcdefghijklmnopqrstuvwxyz":QH).cps.toList (x%26)=ψ (j8 x):=by
 have b:0<=x%26:=by omega
 have d:x%26<26:=by omega
 have c:("abcdefghijklmnopqrstuvwxyz":QH).cps.toList.length=26:=by rw[Ew];rfl
 rw[Kl b (by rw[c];omega),Ew]
 unfold j8
 generalize x%26=y at *
 obtain⟨n,rfl⟩:∃n:Nat,y=(n:Int):=⟨y.toNat,by omega⟩
 have hn:n<26:=by omega
 have a:∀n:Fin 26,([97,98,99,100,101,102,103,104,105,106,107,108,109,110,111,112,113,114,115,116,117,118,119,120,121,122]:⇑Nat).getD n.val 0=97+n.val:=by decide
 have:=a ⟨n,hn⟩
 rw[show((n:Int)).toNat=n by omega]
 rw[this]
theorem uc(x:Int):isLet (j8 x)=ω:=by
 unfold isLet j8
 simp
 omega
theorem wq{x:Int}{i j:Nat}(hi:i<26)(a:j<26)(h:j8 (x+i)=j8 (x+j)):i=j:=by
 unfold j8 at h
 omega
def wl(c:Int):⇑Nat:=(Q1 7).map fun j=>j8 (cp c j)
theorem jo(c:Int):(wl c).length=7:=by simp[wl]
theorem Oe(c:Int):∀x∈wl c,isLet x=ω:=fun x a=>by
 obtain⟨j,_,rfl⟩:=QO.mp a
 exact uc _
def Ls(c:Int):⇑Nat:=(wl c).take (cp c 8/4%8).toNat
def Jm(c:Int):Nat:=(cp c 8/32%(((Ls c).length:Int)+1)).toNat
noncomputable def iO(c:Int)(k:Nat):⇑Nat:=
 if cp c 8%4=0 then j8 (cp c 7+(k/8:Nat))::(wl c).take (k%8)
 else if cp c 8%4=1 then(wl c).drop (7-k%8)++[j8 (cp c 7+(k/8:Nat))]
 else(Ls c).take (Jm c)++j8 (cp c 7+(k:Int))::(Ls c).drop (Jm c)
noncomputable def cX(c:Int)(k:Nat):QH:=⟨(iO c k).toArray⟩
theorem gQ(c:Int)(k:Nat):(cX c k).cps.toList=iO c k:=by simp[cX]
theorem D9(c:Int):(Ls c).length<=7:=by
 unfold Ls
 rw[RJ,jo]
 omega
theorem IP(c:Int)(k:Nat):1<=(iO c k).length/\(iO c k).length<=8/\∀x∈iO c k,isLet x=ω:=by
 have b:=D9 c
 have hw:=Oe c
 have hn:∀x∈Ls c,isLet x=ω:=fun x a=>hw x (UA a)
 unfold iO
 split
 .refine⟨⋯,by simp[jo];omega,fun x a=>?_⟩
  rcases QW.mp a with rfl|a
  .exact uc _
  .exact hw x (UA a)
 .split
  .refine⟨⋯,by simp only[RN,SX,jo,TH];omega,fun x a=>?_⟩
   rcases Rr.mp a with a|a
   .exact hw x (Xk a)
   .rw[Rv.mp a];exact uc _
  .refine⟨by simp;omega,?_,fun x a=>?_⟩
   .simp only[RN,RB,RJ,SX];omega
   .rcases Rr.mp a with a|a
    .exact hn x (UA a)
    .rcases QW.mp a with rfl|a
     .exact uc _
     .exact hn x (Xk a)
theorem vW(c:Int)(k:Nat):bE (cX c k)=ω:=by
 obtain⟨d,e,a⟩:=IP c k
 have b:=bw (cX c k)
 rw[gQ]at b
 unfold bE
 rw[gQ,decide_eq_true "`",decide_eq_true "`",R7.mpr a]
 rfl
theorem FX{c:Int}{i j:Nat}(hi:i<21)(k:j<21)(h:cX c i=cX c j):i=j:=by
 have h:iO c i=iO c j:=by rw[<-gQ,<-gQ,h]
 unfold iO at h
 split at h
 .obtain⟨d,e⟩:=TU h
  have a:=congrArg S8 e
  rw[RJ,RJ,jo]at a
  have f:=wq "`" "`" d
  omega
 .split at h
  .have a:=congrArg S8 h
   simp only[RN,SX,jo,TH]at a
   have b:=congrArg (fun l=>l.getLast?) h
   simp only[List.getLast?_append,List.getLast?_singleton,Option.some_or]at b
   have f:=wq "`" "`" (RE b)
   omega
  .have g:=List.append_cancel_left h
   exact wq "`" "`" (TU g).1
section
variable {l e:QI}{a b x:Int}
end
section
variable {K:QK}{H:Hp}{Q:VK}{p:QI}{xs:⇑V}{i:Int}{v:V}
theorem eG(a:d5 K H p xs)(ha:ux xs i=ψ v)(h:Q v H):gU K (.ref p) (.int i) H Q:=⟨p,xs,i,v,rfl,rfl,a,ha,h⟩
theorem zd{z:QH}{zs:⇑QH}(a:aD K H p (zs.map V.str))(h:Q (.bl (!decide (z∈zs))) H):tV K true (.str z) (.ref p) H Q:=by
 exists p,_,rfl,.inl a,rfl,qS zs
 rw[if_pos rfl,zI]
 exact h
end
section
variable {K:QK}{H H':Hp}{c sd l:QI}{fp L:⇑QI}{s:aB}
end
theorem lK{α c:Type}{F:α->c->Prop}:∀{xs:⇑α}{ys:⇑c}{a:α}{b:c},Q4 F xs ys->F a b->Q4 F (xs++[a]) (ys++[b])
 |_,_,_,_,.nil,h=>.cons h .nil
 |_,_,_,_,.cons q t,h=>.cons q (lK t h)
section
variable {K:QK}{H H':Hp}{c dx d1 d2 w:QI}{wt:⇑QI}{s:aB}{fp l:⇑QI}
theorem tL.setC{cs:⇑(QH×Int)}(x:tL K H c dx d1 d2 w wt s)(nd:(cs.map (·.1)).Nodup):tL K (L2.upd H d2 (.dK (cD cs))) c dx d1 d2 w wt ⟨s.ps,cs,s.ws,s.pot,s.giv,s.spt⟩:=by
 have a:=aH x.at_ x.p2 ⋯
 have b:=aH x.w_ x.p2 ⋯
 exact⟨by rw[aj a];exact x.at_,by rw[aj x.ne];exact x.p1,ak,by rw[aj b];exact x.w_,Paired.mapP x.wt fun _ _ q=>by
  unfold AR at *
  rw[aj (aH q x.p2 ⋯)];exact q,x.ne,x.nd,nd⟩
theorem tL.addW{v n:QH}{t:QI}(x:tL K H c dx d1 d2 w wt s)(a:H t=ψ (.tup [.str v,.str n])):tL K (L2.upd H w (.lst ((wt++[t]).map V.ref))) c dx d1 d2 w (wt++[t]) ⟨s.ps,s.cs,s.ws++[(v,n)],s.pot,s.giv,s.spt⟩:=by
 have b:=aH x.at_ x.w_ ⋯
 have d:=aH x.p1 x.w_ ⋯
 have e:=aH x.p2 x.w_ ⋯
 refine⟨by rw[aj b];exact x.at_,by rw[aj d];exact x.p1,by rw[aj e];exact x.p2,ak,lK (Paired.mapP x.wt fun _ _ q=>?_) ?_,x.ne,x.nd,x.nd2⟩
 .unfold AR at *
  rw[aj (aH q x.w_ ⋯)];exact q
 .unfold AR
  rw[aj (aH a x.w_ ⋯)];exact a
end
def En(p:QH×QH):Rp:=.tuple [.str p.1,.str p.2]
theorem EE{p q:QH×QH}(h:En p=En q):p=q:=by
 unfold En at h
 simp at h
 exact Xl h.1 h.2
theorem Nl{K:QK}{H:Hp}{ws:⇑(QH×QH)}{a:⇑QI}(h:Q4 (AR H) ws a):DatAll K H (a.map V.ref) (ws.map En):=by
 induction h with
 |nil=>exact .nil
 |cons q _ b=>exact .cons (.tup (d5.of q) (.cons (.str _) (.cons (.str _) .nil))) b
theorem vy{n:Nat}{x:QH}(h:aU x):cK n (.str x):=⟨by rw[nice];exact sX h,by simp[UE]⟩
theorem AQ{n:Nat}{p:QH×QH}(a:aU p.1)(b:aU p.2):cK (n+1) (En p):=uA fun e he=>by
 rcases QW.mp he with rfl|he
 .exact vy a
 .rcases QW.mp he with rfl|he
  .exact vy b
  .cases he
theorem Ot{n:Nat}{ws:⇑(QH×QH)}(h:∀p∈ws,aU p.1/\aU p.2):cK (n+2) (.list (ws.map En)):=ue fun d hd=>by
 obtain⟨p,a,rfl⟩:=QO.mp hd
 exact AQ (h p a).1 (h p a).2
theorem EI(p:QH×QH):∀ws:⇑(QH×QH),((ws.map En).any fun y=>Vu y (En p))=decide (p∈ws)
 |[]=>by simp
 |q::r=>by
  rw[Rk,S4,EI p r,RZ,YD,decide_eq_true_eq,decide_eq_true_eq,Zt,QW]
  constructor
  .rintro(e|e)
   .exact .inl (EE e).symm
   .exact .inr e
  .rintro(e|e)
   .exact .inl (by rw[e])
   .exact .inr e
theorem G9(p q:QH×QH):Vu (En p) (En q)=decide (p=q):=by
 rw[RZ,Zt,decide_eq_true_eq]
 exact⟨EE,fun h=>by rw[h]⟩
section
variable {K:QK}{H:Hp}{Q:VK}{t w:QI}{p:QH×QH}{ws:⇑(QH×QH)}{wt:⇑QI}{neg:Bool}
theorem D6(a:H t=ψ (.tup [.str p.1,.str p.2]))(hw:H w=ψ (.lst (wt.map V.ref)))(b:Q4 (AR H) ws wt)(c:aU p.1)(d:aU p.2)(ha:∀p∈ws,aU p.1/\aU p.2)(h:Q (.bl (decide (p∈ws) != neg)) H):Gi K neg (.ref t) (.ref w) H Q:=
 ⟨ws.map En,En p,.lst (aD.of hw) (Nl b),.tup (d5.of a) (.cons (.str _) (.cons (.str _) .nil)),(Ot (n:=2) ha).mono "^",(AQ (n:=2) c d).mono "^",by rw[EI];exact h⟩
end
def ND(H:Hp)(r:QH×Int×⇑QH)(t:QI):Prop:=∃l:QI,H t=ψ (.tup [.str r.1,.int r.2.1,.ref l])/\H l=ψ (.lst (r.2.2.map V.str))
section
variable {K:QK}{mp:⇑(Option Nat)}{te td:TE}{σ:St}{H:Hp}{Q:VK}{d:QI}{kvs:⇑(Key×V)}
theorem A6(t:∀k:VK,k (.ref d) H->td σ H k)(hd:H d=ψ (.dK kvs))(hz:kvs.length<=QT)(u v:Nat->V)(E:∀i q,kvs[i]?=ψ q->kV q.1=u i/\q.2=v i)
  (st:Nat->St) (F:∀i c,(c=cE mp σ\/∃j,c=st j)->(c.set 0 (ψ (u i))).set 1 (ψ (v i))=st i) (R:QI->Nat->V->Hp->Prop)
  (I:∀l i v m f,dS l m f->R l i v m->R l i v f) (y:∀l i v m o,m d=ψ (.frz o (.dK kvs))->R l i v m->R l i v (upd m d (.dK kvs)))
  (he:∀l i,i<kvs.length->∀(H':Hp)(G:VK),H l=χ->(∃o,H' l=ψ o)->(∃o,H' d=ψ o)->dS d H H'->(∀v g,R l i v g->ah H' g->G v g)->te (st i) H' G)
  (J:∀l ys f,H l=χ->ah H f->f l=ψ (.lst ys)->Q4 (fun i v=>R l i v f) (Q1 kvs.length) ys->Q (.ref l) f):
  fQ (bp mp (wu td) (dN K 2 (aR (af 0) (aR (af 1) dJ))) cM te) σ H Q:=by
 exists d,kvs,hd
 refine ke ?_
 refine t _ ⟨d,kvs,rfl,hd,fun o w hw L=>?_⟩
 have n:∀a,upd (upd H w (yx w d)) d (.frz o (.dK kvs)) a=χ->H a=none:=fun a ha=>by
  by_cases b:a=d
  .subst b;rw[ak]at ha;cases ha
  .rw[aj b]at ha
   by_cases B:a=w
   .subst B;exact hw
   .rwa [aj B]at ha
 have C:∀H',ah (upd (upd H w (yx w d)) d (.frz o (.dK kvs))) H'->dS d H H':=fun H' s a x ha h=>by
  have z:a≠w:=fun e=>by rw[e,hw]at h;cases h
  exact s _ _ (by rw[aj ha,aj z];exact h)
 refine eR (BI 0 1 u v E) st F (fun H' s=>s _ _ ak) hz (fun _=>true) R I (fun i hi H' G s k=>k H' (ah.refl _)) (fun l i hi _ H' G p b s k=>he l i hi H' G (n l p) b ⟨_,s _ _ ak⟩ (C H' s) k) fun l ys H' p s b D=>?_
 rw[Sd.mpr (fun _ _=>rfl)]at D
 have r:H' d=ψ (.frz o (.dK kvs)):=s _ _ ak
 have A:l≠d:=fun e=>by rw[e,ak]at p;cases p
 refine⟨o,kvs,r,J l ys _ (n l p) (fun a x ha=>?_) (by rw[aj A];exact b) (Paired.mapP D fun i v q=>y l i v H' o r q)⟩
 by_cases b:a=d
 .subst b
  rw[ak,<-hd];exact ha
 .rw[aj b]
  exact C H' s a x b ha
theorem ko{p:QI}{z:QH}{zs:⇑QH}(a:aD K H p (zs.map V.str))(h:Q (.bl (decide (z∈zs))) H):tV K false (.str z) (.ref p) H Q:=by
 exists p,_,rfl,.inl a,rfl,qS zs
 rw[if_neg RA,zI]
 exact h
end
theorem rY{H':Hp}{P:QI->Prop}{f:Nat->QH×Int×⇑QH}:∀{is:⇑Nat}{ys:⇑V},Q4 (fun i v=>∃t w,v=V.ref t/\P w/\H' t=ψ (.tup [.str (f i).1,.int (f i).2.1,.ref w])/\H' w=ψ (.lst ((f i).2.2.map V.str))) is ys->
  ∃ts:⇑QI,ys=ts.map V.ref/\Q4 (ND H') (is.map f) ts/\∀t∈ts,∀x y w,H' t=ψ (.tup [x,y,.ref w])->P w
 |_,_,.nil=>⟨[],rfl,.nil,fun t b=>by cases b⟩
 |_,_,.cons ⟨t,w,e,d,c,g⟩ r=>by
  obtain⟨ts,h,j,k⟩:=rY r
  refine⟨t::ts,by rw[e,h];rfl,.cons ⟨w,c,g⟩ j,fun l b x y m a=>?_⟩
  rcases QW.mp b with rfl|b
  .rw[c]at a
   injection a with a
   injection a with a
   simp at a
   rw[<-a.2.2];exact d
  .exact k l b x y m a
theorem vx(ps:⇑(QH×Int))(P:QH->Bool):(((Q1 ps.length).filter fun i=>P (ps.getD i ("",0)).1).map fun i=>V.str (ps.getD i ("",0)).1)=((ps.map (·.1)).filter P).map V.str:=by
 have h:=de (fun p:QH×Int=>P p.1) ("",0) ps
 have e:((ps.map (·.1)).filter P)=(ps.filter fun p=>P p.1).map (·.1):=by rw[Uj];rfl
 rw[e,<-h,QY,QY]
 rfl
def bG(H:Hp)(l:QI)(ts:⇑QI)(rows:⇑(QH×Int×⇑QH)):Prop:=H l=ψ (.lst (ts.map V.ref))/\Q4 (ND H) rows ts
def bM(s:aB)(p:QH×Int):QH×Int×⇑QH:=(p.1,p.2,(s.ps.map (·.1)).filter fun v=>decide ((v,p.1)∈s.ws))
section
variable {K:QK}{H H':Hp}{c lp lw:QI}{fp L:⇑QI}{s:aB}{people:⇑QH}{rows:⇑WkR}{m:Nat}
end
def dW(r:QH×Int×⇑QH):Rp:=.tuple [.str r.1,.int r.2.1,.list (r.2.2.map Uc)]
theorem bG.dat{K:QK}{H:Hp}{l:QI}{ts:⇑QI}{rows:⇑(QH×Int×⇑QH)}(h:bG H l ts rows):cV K H (.ref l) (.list (rows.map dW)):=by
 obtain⟨h1,a⟩:=h
 refine .lst (aD.of h1) ?_
 clear h1
 induction a with
 |nil=>exact .nil
 |cons q _ b=>
  obtain⟨w,g1,g2⟩:=q
  exact .cons (.tup (d5.of g1) (.cons (.str _) (.cons (.int _) (.cons (.lst (aD.of g2) (i3 _)) .nil)))) b
theorem vg{rows:⇑(QH×Int×⇑QH)}(h:∀r∈rows,aU r.1/\∀z∈r.2.2,aU z):cK 3 (.list (rows.map dW)):=ue fun d hd=>by
 obtain⟨r,a,rfl⟩:=QO.mp hd
 refine uA fun e he=>?_
 rcases QW.mp he with rfl|he
 .exact vy (h r a).1
 .rcases QW.mp he with rfl|he
  .exact G5 _
  .rcases QW.mp he with rfl|he
   .exact ug _ (h r a).2
   .cases he
theorem bG.but{H H':Hp}{L:⇑QI}{l:QI}{ts:⇑QI}{rows:⇑(QH×Int×⇑QH)}(h:bG H l ts rows)(b:bo L H H')(n:l∉L)(a:∀t∈ts,∀x y w,H t=ψ (.tup [x,y,.ref w])->w∉L):bG H' l ts rows:=by
 obtain⟨h1,c⟩:=h
 exists b.1 _ _ n h1
 clear h1
 induction c with
 |nil=>exact .nil
 |@cons r t _ _ q _ d=>
  obtain⟨w,g1,g2⟩:=q
  exact .cons ⟨w,b.2.1 _ _ g1,b.1 _ _ (a t ⋯ _ _ _ g1) g2⟩ (d fun e f=>a e (by simp[f]))
theorem bG.tup{H:Hp}{l:QI}{ts:⇑QI}{rows:⇑(QH×Int×⇑QH)}(h:bG H l ts rows):∀t∈ts,∃r∈rows,ND H r t:=by
 obtain⟨h1,b⟩:=h
 clear h1
 induction b with
 |nil=>intro t a;cases a
 |cons q _ c=>
  intro d a
  rcases QW.mp a with rfl|a
  .exact⟨_,⋯,q⟩
  .obtain⟨r,hr,z⟩:=c d a
   exact⟨r,by simp[hr],z⟩
theorem FP{α b:Type}(f:α->b):∀(xs:⇑α)(j:Nat),(xs.map f).eraseIdx j=(xs.eraseIdx j).map f
 |[],_=>rfl
 |_::_,0=>rfl
 |a::r,j+1=>by
  show f a::(r.map f).eraseIdx j=f a::(r.eraseIdx j).map f
  rw[FP f r j]
section
variable {K:QK}{H:Hp}{Q:VK}{l:QI}{zs:⇑QH}{n:QH}{j:Nat}
end
def rN(s:aB)(v:QH):⇑Nat:=(Q1 s.cs.length).filter fun k=>decide ((v,(s.cs.getD k ("",0)).1)∈s.ws)
def intsOf(a:⇑Nat):⇑Int:=a.map fun k:Nat=>(k:Int)
def aq(s:aB):⇑(⇑Int):=s.ps.map fun p=>intsOf (rN s p.1)
def cO(s:aB):Nat:=kd s.ps.length ^ (s.cs.length+1)
def av(s:aB):⇑Int:=s.ps.map fun p=>p.2*(cO s:Int)
def bg(s:aB):⇑Int:=s.cs.map (·.2)
abbrev dz:=QH×Int×⇑(QH×Int)
def aT(s:aB)(x:Nat×Int×⇑Int):dz:=((s.cs.getD x.1 ("",0)).1,(s.cs.getD x.1 ("",0)).2,((s.ps.map (·.1)).zip x.2.2).filter fun p=>decide (0<p.2))
def LQ(H:Hp)(x:dz)(t:QI):Prop:=∃r:QI,H t=ψ (.tup [.str x.1,.int x.2.1,.ref r])/\jY H r x.2.2
def nO(H:Hp)(l:QI)(ts:⇑QI)(rows:⇑dz):Prop:=H l=ψ (.lst (ts.map V.ref))/\Q4 (LQ H) rows ts
theorem LQ.but{H H':Hp}{fp:⇑QI}{x:dz}{t:QI}(h:LQ H x t)(b:bo fp H H')(n:∀y z r,H t=ψ (.tup [y,z,.ref r])->r∉fp):LQ H' x t:=by
 obtain⟨r,h1,a⟩:=h
 exact⟨r,b.2.1 _ _ h1,a.but b (n _ _ _ h1)⟩
theorem nO.but{H H':Hp}{fp:⇑QI}{l:QI}{ts:⇑QI}{rows:⇑dz}(h:nO H l ts rows)(b:bo fp H H')(n:l∉fp)(nr:∀t∈ts,∀y z r,H t=ψ (.tup [y,z,.ref r])->r∉fp):nO H' l ts rows:=by
 obtain⟨h1,a⟩:=h
 exists b.1 _ _ n h1
 clear h1
 induction a with
 |nil=>exact .nil
 |cons q _ c=>exact .cons (q.but b (nr _ ⋯)) (c fun t d=>nr t (by simp[d]))
theorem nO.tup{H H':Hp}{l:QI}{ts:⇑QI}{rows:⇑dz}(h:nO H l ts rows){fp:⇑QI}(b:bo fp H H'):∀t∈ts,∀y z r,H' t=ψ (.tup [y,z,.ref r])->H t=ψ (.tup [y,z,.ref r]):=by
 obtain⟨h0,c⟩:=h
 clear h0
 induction c with
 |nil=>intro t a;cases a
 |cons q _ d=>
  intro t a y z r e
  rcases QW.mp a with rfl|a
  .obtain⟨f,h1,_⟩:=q
   rw[b.2.1 _ _ h1]at e
   rw[h1];exact e
  .exact d t a y z r e
def OB(a H:Hp)(r:QI)(rows:⇑(QH×Int)):Prop:=∃ts:⇑QI,H r=ψ (.lst (ts.map V.ref))/\Q4 (fun p t=>a t=χ/\Qe H p t) rows ts
theorem oR{H':Hp}{P:QI->Prop}{f:Nat->dz}:∀{is:⇑Nat}{ys:⇑V},Q4 (fun i v=>∃t r,v=V.ref t/\P r/\H' t=ψ (.tup [.str (f i).1,.int (f i).2.1,.ref r])/\jY H' r (f i).2.2) is ys->
  ∃ts:⇑QI,ys=ts.map V.ref/\Q4 (LQ H') (is.map f) ts/\∀t∈ts,∀x y w,H' t=ψ (.tup [x,y,.ref w])->P w
 |_,_,.nil=>⟨[],rfl,.nil,fun t b=>by cases b⟩
 |_,_,.cons ⟨t,w,e,d,c,g⟩ r=>by
  obtain⟨ts,h,j,k⟩:=oR r
  refine⟨t::ts,by rw[e,h];rfl,.cons ⟨w,c,g⟩ j,fun l b x y m a=>?_⟩
  rcases QW.mp b with rfl|b
  .rw[c]at a
   injection a with a
   injection a with a
   simp at a
   rw[<-a.2.2];exact d
  .exact k l b x y m a
theorem MK{K:QK}{H:Hp}{Q:VK}{d:QI}{kvs:⇑(Key×V)}(h:H d=ψ (.dK kvs))(q:∀v a,H v=χ->ah H a->a v=ψ (lF v d)->Q (.ref v) a):Lp K "dict" (.ref d) H/\Gy (.ref d) [] H Q:=
 ⟨.inr (.inr (.inl ⟨rfl,.inl ⟨kvs,h⟩⟩)),d,kvs,rfl,rfl,h,fun v b=>q v _ b (ah.updN b) ak⟩
def Nw:dz:=("",0,[])
theorem nO.ys{K:QK}{H:Hp}{l:QI}{ts:⇑QI}{rows:⇑dz}(h:nO H l ts rows):∃rs:⇑QI,∀(fp:⇑QI)(H':Hp),bo fp H H'->l∉fp->
  aD K H' l (ts.map V.ref)/\∀(i:Nat)(t:QI),ts[i]?=ψ t->d5 K H' t [.str (rows.getD i Nw).1,.int (rows.getD i Nw).2.1,.ref (rs.getD i 0)]:=by
 obtain⟨h1,a⟩:=h
 have go:∀{rows:⇑dz}{ts:⇑QI},Q4 (LQ H) rows ts->∃rs:⇑QI,∀(i:Nat)(t:QI),ts[i]?=ψ t->H t=ψ (.tup [.str (rows.getD i Nw).1,.int (rows.getD i Nw).2.1,.ref (rs.getD i 0)]):=by
  intro rows ts h
  induction h with
  |nil=>exact⟨[],fun i t e=>by simp at e⟩
  |cons q _ c=>
   obtain⟨rs,hr⟩:=c
   obtain⟨r,g1,_⟩:=q
   refine⟨r::rs,fun i t e=>?_⟩
   cases i with
   |zero=>
    simp at e
    subst e
    exact g1
   |succ i=>exact hr i t (by simpa using e)
 obtain⟨rs,hr⟩:=go a
 exact⟨rs,fun fp H' b n=>⟨aD.of (b.1 _ _ n h1),fun i t e=>d5.of (b.2.1 _ _ (hr i t e))⟩⟩
theorem JL{s:aB}(g:s.ps.length<=20/\s.cs.length<=12):0<(cO s:Int)/\((cO s:Nat):Int)<j7:=by
 have a:=cS s.ps.length (s.cs.length+1)
 have b:=ot (v:=s.ps.length) (w:=s.cs.length+1) g.1 (by have:=g.2;omega)
 have c:=Hn
 unfold cO
 refine⟨by exact_mod_cast a,Te b (Te ?_ c)⟩
 decide +kernel
def Hx(s:aB)(left:⇑Int)(g:Int):aB:={s with pot:=s.pot+(left.map (· % g)).sum/g,ps:=(s.ps.map (·.1)).zip (left.map (· / g))}
noncomputable def bW(s:aB)(left:⇑Int)(g:Int)(a:⇑dz):aB:=
 ⟨(s.ps.map (·.1)).zip (left.map (· / g)),s.cs.filter fun p=>decide (p.1∉a.map (·.1)),s.ws.filter fun p=>decide (p.2∉a.map (·.1)),s.pot+(left.map (· % g)).sum/g,s.giv,s.spt+(a.map (·.2.1)).sum⟩
theorem C6(s:aB)(left:⇑Int)(g:Int):bW s left g []=Hx s left g:=by
 unfold bW Hx
 simp
structure jW(s:aB):Prop where
 v20:s.ps.length<=20
 n12:s.cs.length<=12
 ap:∀p∈s.ps,aU p.1
 ac:∀p∈s.cs,aU p.1
 aw:∀p∈s.ws,aU p.1/\aU p.2
 cb:∀p∈s.cs,1<=p.2/\p.2<=1000000000000
 p0:∀p∈s.ps,0<=p.2/\p.2<=1000000000000
 wl:s.ws.length<=900
theorem jW.town{s:aB}(g:jW s)(h:s.ps≠[]):Ij (bg s) (aq s) (av s) where
 c12:=by simp[bg];exact g.n12
 cb:=fun x a=>by
  obtain⟨p,hp,rfl⟩:=QO.mp a
  exact g.cb p hp
 v1:=by simp[aq];exact SF.mpr h
 v20:=by simp[aq];exact g.v20
 pl:=by simp[av,aq]
 p0:=fun x a=>by
  obtain⟨p,hp,rfl⟩:=QO.mp a
  exact UL (g.p0 p hp).1 (Int.natCast_nonneg _)
 pd:=fun x a=>by
  obtain⟨p,hp,rfl⟩:=QO.mp a
  have b:(aq s).length=s.ps.length:=by simp[aq]
  have c:(bg s).length=s.cs.length:=by simp[bg]
  rw[b,c]
  exact Vb (fu (SA _)) (VU _ _)
theorem getD_mem{α:Type}{xs:⇑α}{i:Nat}(d:α)(h:i<xs.length):xs.getD i d∈xs:=by
 rw[Rl,QZ h]
 exact R3 h
theorem BS(s:aB)(left:⇑Int)(g:Int)(a:⇑dz)(r:dz):bW s left g (a++[r])=
  {bW s left g a with spt:=(bW s left g a).spt+r.2.1,cs:=(bW s left g a).cs.filter fun p=>decide (p.1≠r.1),ws:=(bW s left g a).ws.filter fun p=>!decide (p.2=r.1)}:=by
 unfold bW
 simp only[Sv,UO,Xu,Rk,TZ,RK,Zz,aB.mk.injEq,true_and]
 refine⟨?_,?_,by omega⟩
 .refine SJ fun p _=>?_
  rw[RZ]
  simp
  exact ZP
 .refine SJ fun p _=>?_
  rw[RZ]
  simp
  exact ZP
theorem ma{ps:⇑(QH×Int)}(b:(ps.map (·.1)).Nodup){i j:Nat}(hi:i<ps.length)(a:j<ps.length)(h:(ps.getD i ("",0)).1=(ps.getD j ("",0)).1):i=j:=by
 rw[Rl,Rl,QZ hi,QZ a]at h
 have h:(ps[i]).1=(ps[j]).1:=h
 rcases VJ i j with c|c|c
 .have:=Se.mp b i j (by simpa using hi) (by simpa using a) c
  simp at this
  exact absurd h this
 .exact c
 .have:=Se.mp b j i (by simpa using a) (by simpa using hi) c
  simp at this
  exact absurd h.symm this
section
variable {K:QK}{σ:St}{H:Hp}{Q:VK}{l:QI}
end
theorem DJ{a:⇑Nat}{x:Int}:x∈intsOf a↔∃k∈a,(k:Int)=x:=by
 unfold intsOf
 rw[QO]
theorem yl{s:aB}{v:QH}{k:Nat}:k∈rN s v↔k<s.cs.length/\(v,(s.cs.getD k ("",0)).1)∈s.ws:=by
 unfold rN
 rw[Ra,R1,decide_eq_true_eq]
theorem Fo{s:aB}{i:Nat}(h:i<s.ps.length):(aq s).getD i []=intsOf (rN s (s.ps.getD i ("",0)).1):=by simp[aq,Q3,h]
section
variable {K:QK}{H:Hp}{Q:VK}{a l:QI}{n:Nat}{ds:⇑Rp}
end
def wN:QH×Int×⇑QH:=("",0,[])
theorem bG.at{H:Hp}{l:QI}{ts:⇑QI}{rows:⇑(QH×Int×⇑QH)}(h:bG H l ts rows):ts.length=rows.length/\∀i,i<rows.length->∃t w,ts[i]?=ψ t/\H t=ψ (.tup [.str (rows.getD i wN).1,.int (rows.getD i wN).2.1,.ref w])/\H w=ψ (.lst ((rows.getD i wN).2.2.map V.str)):=by
 obtain⟨h1,a⟩:=h
 refine⟨(Ro a).symm,fun i hi=>?_⟩
 obtain⟨t,e,w,b,c⟩:=d9 a (QZ hi)
 have g:rows.getD i wN=rows[i]:=by simp[Q3,hi]
 exact⟨t,w,e,by rw[g];exact b,by rw[g];exact c⟩
theorem map_getD{α a:Type}(f:α->a)(d:α)(e:a){xs:⇑α}{i:Nat}(h:i<xs.length):(xs.map f).getD i e=f (xs.getD i d):=by simp[Q3,h]
theorem gR(ps:⇑Int)(a:⇑(Nat×Int×⇑Int)):(aZ ps a).length=ps.length:=by simp[aZ]
theorem CV{s:aB}{left:⇑Int}{g:Int}{a:⇑(Nat×Int×⇑Int)}(j:(s.cs.map (·.1)).Nodup)(q:left.length=s.ps.length)(n:∀x∈a,x.1<s.cs.length):
  (bW s left g (a.map (aT s))).cs.map (bM (bW s left g (a.map (aT s))))=((Q1 s.cs.length).filter fun k=>!decide (k∈a.map (·.1))).map fun k=>bM s (s.cs.getD k ("",0)):=by
 have b:∀k,k<s.cs.length->((s.cs.getD k ("",0)).1∉(a.map (aT s)).map (·.1)↔k∉a.map (·.1)):=fun k f=>by
  rw[QY]
  constructor
  .intro h m
   obtain⟨x,i,e⟩:=QO.mp m
   exact h (QO.mpr ⟨x,i,by rw[<-e];rfl⟩)
  .intro h m
   obtain⟨x,i,e⟩:=QO.mp m
   exact h (QO.mpr ⟨x,i,ma j (n x i) f e⟩)
 have l:((bW s left g (a.map (aT s))).ps.map (·.1))=s.ps.map (·.1):=by
  show((s.ps.map (·.1)).zip (left.map (· / g))).map (·.1)=_
  rw[VD "%"]
 have o:(bW s left g (a.map (aT s))).cs=((Q1 s.cs.length).filter fun k=>!decide (k∈a.map (·.1))).map fun k=>s.cs.getD k ("",0):=by
  show s.cs.filter _=_
  rw[<-de (fun p:QH×Int=>decide (p.1∉(a.map (aT s)).map (·.1))) ("",0) s.cs]
  congr 1
  refine SJ fun k f=>?_
  rw[RZ,decide_eq_true_eq,b k (R1.mp f)]
  simp
 rw[o,QY]
 refine RT fun k f=>?_
 obtain⟨c,d⟩:=Ra.mp f
 have c:=R1.mp c
 have d:k∉a.map (·.1):=by simpa using d
 show bM _ (s.cs.getD k ("",0))=_
 unfold bM
 rw[l]
 refine Xl rfl (Xl rfl ?_)
 show ZF _ _=ZF _ _
 refine SJ fun v _=>?_
 refine decide_eq_decide.mpr ?_
 show _∈s.ws.filter _↔_
 rw[Ra,decide_eq_true_eq]
 exact⟨fun z=>z.1,fun z=>⟨z,(b k c).mpr d⟩⟩
theorem bG.same{H H':Hp}{l:QI}{ts:⇑QI}{rows:⇑(QH×Int×⇑QH)}(h:bG H l ts rows)(s:ah H H'):bG H' l ts rows:=h.but (bo.of (l:=[]) s) ⋯ fun _ _ _ _ _ _=>by simp
theorem rB{cs:⇑Int}{rows:⇑(⇑Int)}:∀{run:⇑(Nat×Int)}{ps:⇑Int}{done:⇑Nat},ps.length=rows.length->eN (aW cs rows) (PF ps) done run->(bK rows ps run).sum=ps.sum-(run.map fun x=>(aW cs rows).c x.1).sum
 |[],ps,done,a,h=>by simp[bK]
 |(k,L)::r,ps,done,a,h=>by
  cases h with
  |step d b rest=>
   rw[bK,rB (by rw[di];exact a) (by rw[dC a];exact rest)]
   have e:ps.sum=sumTo ps.length (PF ps):=by
    unfold sumTo PF
    rw[aM (fun x:Int=>x) 0 ps,TR]
   have:(dU rows ps k L).sum=ps.sum-(aW cs rows).c k:=by
    rw[<-b]
    show sumTo ps.length (BQ (WR rows) (PF ps) k L)=_
    rw[e,a]
    unfold BQ jd
    exact yM _ _ _
   rw[Rk,RK,this]
   show _=_-((aW cs rows).c k+_)
   omega
theorem EL{g:Int}:∀{l:⇑Int},g∣l.sum-(l.map (· % g)).sum
 |[]=>⟨0,⋯⟩
 |x::l=>by
  obtain⟨q,a⟩:=EL (g:=g) (l:=l)
  exists x/g+q
  have:=WD x g
  rw[Rk,RK,RK,UT]
  omega
theorem zW{g:Int}:∀{l:⇑Int},(∀x∈l,g∣x)->g∣l.sum
 |[],_=>⟨0,⋯⟩
 |x::l,h=>by
  rw[RK]
  exact XD (h x ⋯) (zW fun y a=>h y (by simp[a]))
theorem Hz{s:aB}{run:⇑(Nat×Int)}(d:eN (aW (bg s) (aq s)) (PF (av s)) [] run):(cO s:Int)∣((aZ (av s) (aE (aq s) (av s) run)).map (· % (cO s:Int))).sum:=by
 have e:=rB (by simp[av,aq]) d
 have f:(cO s:Int)∣(bK (aq s) (av s) run).sum:=by
  rw[e]
  refine VL (zW fun x c=>?_) (zW fun x c=>?_)
  .obtain⟨p,_,rfl⟩:=QO.mp c
   exact VU _ _
  .obtain⟨y,_,rfl⟩:=QO.mp c
   have h:(aq s).length=s.ps.length:=by simp[aq]
   have i:(bg s).length=s.cs.length:=by simp[bg]
   show _∣(bg s).getD y.1 0*((kd (aq s).length ^ ((bg s).length+1):Nat):Int)
   rw[h,i]
   exact VU _ _
 rw[cR]
 have j:=EL (g:=(cO s:Int)) (l:=bK (aq s) (av s) run)
 have:=VL f j
 rwa [show ∀a b:Int,a-(a-b)=b from fun a b=>by omega]at this
theorem Dc(ps:⇑Int):aZ ps []=ps:=by
 unfold aZ
 refine Ux (RT fun i _=>?_) ((aM (fun x:Int=>x) 0 ps).trans (TR _))
 simp
theorem Bg:∀ps:⇑(QH×Int),(ps.map (·.1)).zip (ps.map (·.2))=ps
 |[]=>rfl
 |p::r=>by rw[Rk,Rk,List.zip_cons_cons,Bg r]
def QG(H:Hp)(t:QI):QI:=match H t with
 |some (.tup [_,_,.ref r])=>r
 |_=>0
theorem bo.ext{fp Ms:⇑QI}{H e f:Hp}(b:bo fp H e)(d:bo Ms e f)(h:∀a∈Ms,H a=χ):bo fp H f:=
 ⟨fun c o n q=>d.1 c o (fun m=>by rw[h c m]at q;cases q) (b.1 c o n q),fun c xs q=>d.2.1 _ _ (b.2.1 _ _ q),fun c q=>b.2.2 _ (d.2.2 _ q)⟩
theorem dg{s:aB}{run:⇑(Nat×Int)}(g:eN (aW (bg s) (aq s)) (PF (av s)) [] run):(aE (aq s) (av s) run).length<=s.cs.length/\∀x∈aE (aq s) (av s) run,x.1<s.cs.length/\x.2.2.length=s.ps.length:=by
 have a:=yw g.run
 have b:(bg s).length=s.cs.length:=by simp[bg]
 have d:(av s).length=s.ps.length:=by simp[av]
 refine⟨?_,fun x c=>⟨?_,by rw[il _ _ _ x c,d]⟩⟩
 .rw[gK]
  have:=eY s.cs.length (run.map (·.1)) a.2 (fun x c=>by
   obtain⟨y,f,rfl⟩:=QO.mp c
   have:=(a.1 y f).1
   rw[<-b];exact this)
  simpa using this
 .have hm:x.1∈run.map (·.1):=by rw[<-jb];exact QO.mpr ⟨x,c,rfl⟩
  obtain⟨y,f,e⟩:=QO.mp hm
  have:=(a.1 y f).1
  rw[<-e,<-b];exact this
theorem y8(f:Nat->Int)(g:Int):∀v,sumTo v (fun i=>f i*g)=sumTo v f*g
 |0=>by simp[sumTo]
 |v+1=>by rw[cv,cv,y8 f g v,UD]
theorem DN{α:Type}(d:α)(g:α->Bool)(h:α->Int)(xs:⇑α):((xs.filter g).map h).sum=sumTo xs.length fun i=>if g (xs.getD i d)=ω then h (xs.getD i d)else 0:=by
 have e:sumTo xs.length (fun i=>if g (xs.getD i d)=ω then h (xs.getD i d)else 0)=(xs.map fun x=>if g x=ω then h x else 0).sum:=by
  unfold sumTo
  rw[aM (fun x=>if g x=ω then h x else 0) d xs]
 rw[e]
 clear e
 induction xs with
 |nil=>rfl
 |cons x r b=>
  rw[Rk,RK,<-b]
  by_cases a:g x=ω
  .rw[Wb a,Rk,RK,if_pos a]
  .rw[V5 a,if_neg a,V9]
def TD(s:aB):Prop:=∀p∈s.cs,((s.ps.filter fun v=>decide ((v.1,p.1)∈s.ws)).map (·.2)).sum<p.2
theorem B6{s:aB}{i k:Nat}(hi:i<s.ps.length)(a:k<s.cs.length):WR (aq s) i k=decide (((s.ps.getD i ("",0)).1,(s.cs.getD k ("",0)).1)∈s.ws):=by
 unfold WR
 rw[Fo hi]
 refine decide_eq_decide.mpr ?_
 rw[DJ]
 constructor
 .rintro⟨b,h,e⟩
  have:b=k:=by omega
  subst this
  exact(yl.mp h).2
 .intro h
  exact⟨k,yl.mpr ⟨a,h⟩,rfl⟩
theorem um{s:aB}{i:Nat}(hi:i<s.ps.length):PF (av s) i=(s.ps.getD i ("",0)).2*(cO s:Int):=by
 unfold PF av
 exact map_getD (fun p:QH×Int=>p.2*(cO s:Int)) ("",0) 0 hi
theorem uo{s:aB}{k:Nat}(a:k<s.cs.length):(aW (bg s) (aq s)).c k=(s.cs.getD k ("",0)).2*(cO s:Int):=by
 have b:(aq s).length=s.ps.length:=by simp[aq]
 have d:(bg s).length=s.cs.length:=by simp[bg]
 show(bg s).getD k 0*((kd (aq s).length ^ ((bg s).length+1):Nat):Int)=_
 rw[b,d]
 unfold bg
 rw[map_getD (fun p:QH×Int=>p.2) ("",0) 0 a]
 rfl
theorem BF{cs:⇑Int}{rows:⇑(⇑Int)}:∀{run:⇑(Nat×Int)}{ps:⇑Int}{done:⇑Nat},ps.length=rows.length->eN (aW cs rows) (PF ps) done run->∀k,k<cs.length->k∉done->k∉run.map (·.1)->Cn rows.length (WR rows) (PF (bK rows ps run)) k<(aW cs rows).c k
 |[],ps,done,b,h,k,d,hd,_=>by
  cases h with
  |stop z=>exact z k d hd
 |(j,L)::r,ps,done,b,h,k,d,hd,a=>by
  cases h with
  |step f g rest=>
   rw[bK]
   have a:k∉j::r.map (·.1):=a
   refine BF (by rw[di];exact b) (by rw[dC b];exact rest) k d (fun m=>?_) fun m=>a (Rm _ m)
   rcases QW.mp m with e|m
   .exact a (by rw[e];simp)
   .exact hd m
theorem zip_get{ns:⇑QH}{xs:⇑Int}{i:Nat}(a:i<ns.length)(b:i<xs.length):(ns.zip xs).getD i ("",0)=(ns.getD i "",xs.getD i 0):=by
 have c:i<(ns.zip xs).length:=by simp;omega
 rw[Rl,QZ c,Rl,QZ a,Rl,QZ b]
 simp[YT]
noncomputable def cm(s:aB)(run:⇑(Nat×Int)):aB:=bW s (aZ (av s) (aE (aq s) (av s) run)) (cO s) ((aE (aq s) (av s) run).map (aT s))
theorem CU{s:aB}(c:(s.cs.map (·.1)).Nodup){a:⇑(Nat×Int×⇑Int)}(d:∀x∈a,x.1<s.cs.length){k:Nat}(f:k<s.cs.length):((s.cs.getD k ("",0)).1∉(a.map (aT s)).map (·.1)↔k∉a.map (·.1)):=by
 rw[QY]
 constructor
 .intro h m
  obtain⟨x,b,e⟩:=QO.mp m
  exact h (QO.mpr ⟨x,b,by rw[<-e];rfl⟩)
 .intro h m
  obtain⟨x,b,e⟩:=QO.mp m
  exact h (QO.mpr ⟨x,b,ma c (d x b) f e⟩)
theorem gg{s:aB}{run:⇑(Nat×Int)}:(cm s run).ps.map (·.1)=s.ps.map (·.1):=by
 show((s.ps.map (·.1)).zip (Sr _ (aZ (av s) (aE (aq s) (av s) run)))).map (·.1)=_
 rw[VD (by simp[gR,av])]
theorem Gp{v:Nat}{f:Nat->Int}{g:Int}(a:0<g):sumTo v (fun i=>f i/g)*g<=sumTo v f:=by
 rw[<-y8]
 exact gw fun i _=>Ym _ "`"
theorem TD.closed{s:aB}(nd2:(s.cs.map (·.1)).Nodup){run:⇑(Nat×Int)}(q:eN (aW (bg s) (aq s)) (PF (av s)) [] run):TD (cm s run):=by
 obtain⟨_,r⟩:=dg q
 intro p hp
 obtain⟨l,a⟩:=Ra.mp hp
 have a:p.1∉((aE (aq s) (av s) run).map (aT s)).map (·.1):=by simpa using a
 obtain⟨k,d,e⟩:=Sa l
 have e:s.cs.getD k ("",0)=p:=by rw[Rl,QZ d];exact e
 rw[<-e]at a
 have g:=(CU nd2 (fun x t=>(r x t).1) d).mp a
 rw[jb]at g
 have m:(av s).length=(aq s).length:=by simp[av,aq]
 have b:=BF m q k (by simpa[bg]using d) ⋯ g
 rw[<-cR,uo d,e]at b
 have g0:0<(cO s:Int):=by exact_mod_cast cS s.ps.length (s.cs.length+1)
 have h:(aZ (av s) (aE (aq s) (av s) run)).length=s.ps.length:=by rw[gR];simp[av]
 have n:(aq s).length=s.ps.length:=by simp[aq]
 have j:(((cm s run).ps.filter fun v=>decide ((v.1,p.1)∈(cm s run).ws)).map (·.2)).sum=sumTo s.ps.length fun i=>(if WR (aq s) i k=ω then PF (aZ (av s) (aE (aq s) (av s) run)) i else 0)/(cO s:Int):=by
  rw[DN (α:=QH×Int) ("",0)]
  have o:(cm s run).ps.length=s.ps.length:=by have:=congrArg S8 (gg (s:=s) (run:=run));simpa using this
  rw[o]
  refine k7 fun i hi=>?_
  have u:(cm s run).ps.getD i ("",0)=((s.ps.getD i ("",0)).1,(aZ (av s) (aE (aq s) (av s) run)).getD i 0/(cO s:Int)):=by
   show((s.ps.map (·.1)).zip (Sr (fun x=>x/(cO s:Int)) (aZ (av s) (aE (aq s) (av s) run)))).getD i ("",0)=_
   rw[zip_get (by simpa using hi) (by simpa[h]using hi),map_getD (fun p:QH×Int=>p.1) ("",0) "" hi,map_getD (fun x:Int=>x/(cO s:Int)) 0 0 (by rw[h];exact hi)]
  rw[u,B6 hi d,e]
  have c:((s.ps.getD i ("",0)).1,p.1)∈(cm s run).ws↔((s.ps.getD i ("",0)).1,p.1)∈s.ws:=by
   show _∈s.ws.filter _↔_
   rw[Ra,decide_eq_true_eq]
   exact⟨fun z=>z.1,fun z=>⟨z,by rw[<-e];exact a⟩⟩
  by_cases hw:((s.ps.getD i ("",0)).1,p.1)∈s.ws
  .rw[decide_eq_true hw,decide_eq_true (c.mpr hw),if_pos rfl,if_pos rfl]
   rfl
  .rw[decide_eq_false hw,decide_eq_false (fun z=>hw (c.mp z)),if_neg ⋯,if_neg ⋯,Y9]
 rw[j]
 have w:=Gp (v:=s.ps.length) (f:=fun i=>if WR (aq s) i k=ω then PF (aZ (av s) (aE (aq s) (av s) run)) i else 0) g0
 rw[n]at b
 have y:sumTo s.ps.length (fun i=>if WR (aq s) i k=ω then PF (aZ (av s) (aE (aq s) (av s) run)) i else 0)<p.2*(cO s:Int):=b
 exact Int.lt_of_mul_lt_mul_right (Te w y) (S0 g0)
theorem sM(s:aB):cm s []=s:=by
 have e:0<(cO s:Int):=by exact_mod_cast cS s.ps.length (s.cs.length+1)
 have a:(aE (aq s) (av s) [])=[]:=rfl
 have b:((av s).map (· / (cO s:Int)))=s.ps.map (·.2):=by
  unfold av
  rw[QY]
  exact RT fun p _=>Y3 _ "`"
 have c:((av s).map (· % (cO s:Int))).sum=0:=by
  have:∀l:⇑(QH×Int),((l.map fun p=>p.2*(cO s:Int)).map (· % (cO s:Int))).sum=0:=fun l=>by
   induction l with
   |nil=>rfl
   |cons x r d=>rw[Rk,Rk,RK,d,Int.mul_emod_left];rfl
  exact this s.ps
 unfold cm
 rw[a,Dc]
 unfold bW
 rw[b,c,Bg]
 simp only[TZ,RM,not_false_eq_true,decide_true,Zz,Int.add_zero,Y9,Sd.mpr (fun _ _=>rfl)]
theorem sr{cs:⇑Int}{rows:⇑(⇑Int)}:∀{run:⇑(Nat×Int)}{ps:⇑Int}{done:⇑Nat},ps.length=rows.length->eN (aW cs rows) (PF ps) done run->(∀i,0<=PF ps i)->∀i,0<=PF (bK rows ps run) i/\PF (bK rows ps run) i<=PF ps i
 |[],ps,done,a,h,b,i=>⟨b i,Sl _⟩
 |(k,L)::r,ps,done,a,h,b,i=>by
  cases h with
  |step c g rest=>
   rw[bK]
   have l:=c.pos
   have d:∀j,0<=PF (dU rows ps k L) j:=fun j=>by rw[dC a];exact qV (b j)
   obtain⟨e,f⟩:=sr (by rw[di];exact a) (by rw[dC a];exact rest) d i
   refine⟨e,Ue f ?_⟩
   rw[dC a]
   exact Iy (b i) "`"
theorem jW.closed{s:aB}(G:jW s){run:⇑(Nat×Int)}(h:eN (aW (bg s) (aq s)) (PF (av s)) [] run):jW (cm s run):=by
 have g0:0<(cO s:Int):=by exact_mod_cast cS s.ps.length (s.cs.length+1)
 have hn:=gg (s:=s) (run:=run)
 have b:(cm s run).ps.length=s.ps.length:=by have:=congrArg S8 hn;simpa using this
 have d:(av s).length=(aq s).length:=by simp[av,aq]
 have c:(aZ (av s) (aE (aq s) (av s) run)).length=s.ps.length:=by rw[gR];simp[av]
 have f:∀i,0<=PF (av s) i:=fun i=>by
  by_cases hi:i<s.ps.length
  .rw[um hi]
   exact UL (G.p0 _ (getD_mem _ hi)).1 (S0 g0)
  .rw[zr (by simp[av];omega)]
   exact Sl _
 refine⟨by rw[b];exact G.v20,QV (Sb _ _) G.n12,fun p hp=>?_,fun p hp=>G.ac p (Ra.mp hp).1,fun p hp=>G.aw p (Ra.mp hp).1,fun p hp=>G.cb p (Ra.mp hp).1,fun p hp=>?_,QV (Sb _ _) G.wl⟩
 .have:p.1∈s.ps.map (·.1):=by rw[<-hn];exact QO.mpr ⟨p,hp,rfl⟩
  obtain⟨r,hr,e⟩:=QO.mp this
  rw[<-e];exact G.ap r hr
 .obtain⟨i,hi,e⟩:=Sa hp
  have a:i<s.ps.length:=by rw[<-b];exact hi
  have g:(cm s run).ps.getD i ("",0)=((s.ps.getD i ("",0)).1,(aZ (av s) (aE (aq s) (av s) run)).getD i 0/(cO s:Int)):=by
   show((s.ps.map (·.1)).zip (Sr (fun x=>x/(cO s:Int)) (aZ (av s) (aE (aq s) (av s) run)))).getD i ("",0)=_
   rw[zip_get (by simpa using a) (by simpa[c]using a),map_getD (fun p:QH×Int=>p.1) ("",0) "" a,map_getD (fun x:Int=>x/(cO s:Int)) 0 0 (by rw[c];exact a)]
  have j:(cm s run).ps.getD i ("",0)=p:=by rw[Rl,QZ hi];exact e
  rw[j]at g
  rw[g]
  obtain⟨z1,z2⟩:=sr d h f i
  rw[<-cR]at z1 z2
  have z1:0<=(aZ (av s) (aE (aq s) (av s) run)).getD i 0:=z1
  have z2:(aZ (av s) (aE (aq s) (av s) run)).getD i 0<=PF (av s) i:=z2
  rw[um a]at z2
  exists Zn z1 (S0 g0)
  have h1:=(G.p0 _ (getD_mem (xs:=s.ps) ("",0) a)).2
  have k:(aZ (av s) (aE (aq s) (av s) run)).getD i 0/(cO s:Int)<=(s.ps.getD i ("",0)).2:=by
   have:=Int.ediv_le_ediv g0 z2
   rwa [Y3 _ "`"]at this
  exact Ue k h1
theorem TD.none{s:aB}(G:jW s)(h:s.ps=[]\/s.cs=[]):TD s:=fun p hp=>by
 rcases h with e|e
 .rw[e]
  have:=(G.cb p hp).1
  show(0:Int)<_
  omega
 .rw[e]at hp;cases hp
def vP:⇑(QH×Int)->QH->Int
 |[],_=>0
 |p::r,v=>if p.1=v then p.2 else vP r v
theorem ji:∀{ps:⇑(QH×Int)}{v:QH},v∈ps.map (·.1)->(v,vP ps v)∈ps
 |[],_,h=>by cases h
 |p::r,v,h=>by
  unfold vP
  by_cases e:p.1=v
  .rw[if_pos e,<-e]
   exact RW
  .rw[if_neg e]
   have h:v∈p.1::r.map (·.1):=h
   rcases QW.mp h with z|z
   .exact absurd z.symm e
   .exact Rm _ (ji z)
theorem nV{ps:⇑(QH×Int)}(a:(ps.map (·.1)).Nodup){v:QH}{x:Int}(h:(v,x)∈ps):vP ps v=x:=by
 induction ps with
 |nil=>cases h
 |cons p r b=>
  have a:(p.1::r.map (·.1)).Nodup:=a
  obtain⟨c,d⟩:=RC.mp a
  unfold vP
  rcases QW.mp h with z|z
  .rw[<-z,if_pos rfl]
  .rw[if_neg (fun e=>c (by rw[e];exact QO.mpr ⟨_,z,rfl⟩))]
   exact b d z
theorem DS{ps:⇑(QH×Int)}(a:(ps.map (·.1)).Nodup){v:QH}(h:v∈ps.map (·.1)):fj (cD ps) (.inr v)=ψ (.int (vP ps v)):=jn a (ji h)
abbrev iW:=QH×Int×⇑QH
section
variable {lps:⇑(QH×Int)}{g:Int}{rows:⇑iW}{r:iW}{k:Nat}{L M:Int}
end
theorem mn{ns:⇑QH}{xs:⇑Int}(h:xs.length=ns.length):(ns.zip xs).map (·.1)=ns:=by rw[VD "`"]
theorem L4{ns:⇑QH}{xs:⇑Int}(a:xs.length=ns.length)(b:ns.Nodup){i:Nat}(hi:i<ns.length):vP (ns.zip xs) (ns.getD i "")=xs.getD i 0:=by
 refine nV (by rw[mn a];exact b) ?_
 have:=getD_mem (xs:=ns.zip xs) (i:=i) ("",0) "%"
 rwa [zip_get hi "`"]at this
section
variable {s:aB}{left:⇑Int}(hl:left.length=s.ps.length)(nd:(s.ps.map (·.1)).Nodup)
include hl nd
end
theorem erase_filter{α:Type}[DecidableEq α]:∀{l:⇑α}{i:Nat}{x:α},l.Nodup->l[i]?=ψ x->l.eraseIdx i=l.filter fun y=>!decide (y=x)
 |[],i,x,_,h=>by simp at h
 |y::r,0,x,a,h=>by
  simp at h
  subst h
  obtain⟨b,_⟩:=RC.mp a
  rw[YW,V5 ⋯]
  refine(Sd.mpr fun z d=>?_).symm
  have:z≠y:=fun e=>b (by rw[<-e];exact d)
  simpa using this
 |y::r,i+1,x,a,h=>by
  obtain⟨b,f⟩:=RC.mp a
  have h:r[i]?=ψ x:=by simpa using h
  have c:y≠x:=fun e=>b (by rw[e];exact Td h)
  rw[Y2,Wb (by simpa using c),erase_filter f h]
theorem eX{α a:Type}(f:α->a):∀(l:⇑α)(i:Nat),(l.eraseIdx i).map f=(l.map f).eraseIdx i
 |[],_=>by simp
 |_::_,0=>rfl
 |x::r,i+1=>by simp[eX f r i]
def Kw(ps:⇑(QH×Int))(v:QH)(x:Int):⇑(QH×Int):=ps.map fun p=>if p.1=v then(p.1,x)else p
theorem Jx{ps:⇑(QH×Int)}{v:QH}{x:Int}(_:(ps.map (·.1)).Nodup)(h:v∈ps.map (·.1)):putK (cD ps) (.inr v) (.int x)=cD (Kw ps v x):=by
 have ha:((cD ps).any fun a=>decide (a.1=(Ss v:Key)))=ω:=by
  obtain⟨p,b,e⟩:=QO.mp h
  rw[VV]
  exact⟨_,QO.mpr ⟨p,b,rfl⟩,by simp[e]⟩
 unfold putK
 rw[if_pos ha]
 unfold cD Kw
 rw[QY,QY]
 refine RT fun p _=>?_
 simp only[Xi]
 by_cases e:p.1=v
 .rw[if_pos (by rw[e]),if_pos e]
 .rw[if_neg (by simpa using e),if_neg e]
section
variable {s:aB}{left:⇑Int}(hl:left.length=s.ps.length)(nd:(s.ps.map (·.1)).Nodup)
include hl nd
end
theorem wC{ps:⇑(QH×Int)}(c:(ps.map (·.1)).Nodup){i:Nat}(hi:i<ps.length):(ps.getD i ("",0)).1∉(ps.take i).map (·.1):=fun m=>by
 obtain⟨q,d,e⟩:=QO.mp m
 obtain⟨j,f,b⟩:=Sa d
 have a:j<i/\j<ps.length:=by rw[RJ]at f;omega
 rw[Vl]at b
 have g:ps.getD j ("",0)=q:=by rw[Rl,QZ a.2];exact b
 have:=ma c a.2 hi (by rw[g];exact e)
 omega
theorem Dr{ps:⇑(QH×Int)}(f:QH->Bool):(ps.map (·.1)).filter f=(ps.filter fun p=>f p.1).map (·.1):=by rw[Uj];rfl
theorem MV{a n:Nat}(h:a<n):seqIndex? (a:Int) n=ψ a:=by
 unfold seqIndex?
 have b:¬((a:Int)<0):=by omega
 simp[b,h]
def cc(K:QK)(H:Hp)(E:XK)(n:QH):Prop:=∀a,ah H a->E (.ref (aF K n)) none a
inductive aL where
 |enrol (z:QH)
 |propose (z:QH) (x:Int)
 |give (x:Int)
 |leave (z:QH)
 |withdraw (z:QH)
 |want (v n:QH)
 |unwant (v n:QH)
noncomputable def aL.due(s:aB):aL->Option QH
 |.enrol z=>if bE z=ξ then some "NoName" else if z∈s.ps.map (·.1)then some "Twice" else if 20<=s.ps.length then some "Full" else none
 |.propose z x=>if bE z=ξ then some "NoName" else if z∈s.cs.map (·.1)then some "Twice" else if x<1\/1000000000<x then some "TooMuch" else if 12<=s.cs.length then some "Full" else none
 |.give x=>if x<0\/1000000000<x then some "TooMuch" else none
 |.leave z=>if z∈s.ps.map (·.1)then none else some "NoVoter"
 |.withdraw z=>if z∈s.cs.map (·.1)then none else some "NoWork"
 |.want v n=>if v∈s.ps.map (·.1)then(if n∈s.cs.map (·.1)then none else some "NoWork")else some "NoVoter"
 |.unwant v n=>if v∈s.ps.map (·.1)then(if n∈s.cs.map (·.1)then none else some "NoWork")else some "NoVoter"
def Tx(z:QH):Prop:=aU z/\z.length<=1000
theorem By{ps:⇑(QH×Int)}{n:QH}(a:(ps.map (·.1)).Nodup)(h:n∈ps.map (·.1)):(fj (cD ps) (.inr n)).isSome=ω:=by
 obtain⟨p,b,rfl⟩:=QO.mp h
 rw[jn a (show(p.1,p.2)∈ps from b)]
 rfl
theorem wJ{z a:QH}{n:Nat}(hz:Tx z)(ha:(Rh++a).length=n)(hn:n<=1000):(Rh++a).length<=QT/\(U5 z).length<=QT/\(Rh++a++U5 z).length<=QT:=by
 have b:=size_eq
 have d:=hz.2
 have c:=repr_fits hz.1 (show z.length<=100000 by omega)
 exists by omega,by omega
 rw[Ru]
 omega
structure js where
 t:QI
 w:QI
 n:QH
 x:Int
 zs:⇑QH
def js.at(H:Hp)(r:js):Prop:=H r.t=ψ (.tup [.str r.n,.int r.x,.ref r.w])/\H r.w=ψ (.lst (r.zs.map V.str))
def Qx(a b c:Int):⇑(Key×V):=[(.inr "pot",.int a),(.inr "given",.int b),(.inr "spent",.int c)]
section
variable {a b c x:Int}
end
def QD(lp lw ld:QI)(rows:⇑js):⇑QI:=lp::lw::ld::rows.map (·.w)
structure PQ(H:Hp)(lp lw ld:QI)(s:aB)(rows:⇑js):Prop where
 hp:jY H lp s.ps
 hw:H lw=ψ (.lst (rows.map fun r=>V.ref r.t))
 hr:∀r∈rows,r.at H
 hd:H ld=ψ (.dK (Qx s.pot s.giv s.spt))
 nd:(QD lp lw ld rows).Nodup
 ec:s.cs=rows.map fun r=>(r.n,r.x)
 ew:∀v n,(v,n)∈s.ws↔∃r∈rows,r.n=n/\v∈r.zs
 zs:∀r∈rows,r.zs.Nodup/\∀z∈r.zs,z∈s.ps.map (·.1)
 np:(s.ps.map (·.1)).Nodup
 nc:(s.cs.map (·.1)).Nodup
 nm:∀p∈s.ps,bE p.1=ω
 nn:∀p∈s.cs,bE p.1=ω
 le:s.ps.length<=20
 lr:s.cs.length<=12
 cb:∀p∈s.cs,1<=p.2/\p.2<=1000000000
section
variable {H H':Hp}{lp lw ld:QI}{L:⇑QI}{s:aB}{rows:⇑js}
theorem PQ.nr(x:PQ H lp lw ld s rows):(rows.map (·.n)).Nodup:=by
 have:=x.nc
 rw[x.ec,QY]at this
 exact this
theorem uh{rows:⇑js}(f:(rows.map (·.n)).Nodup){r a:js}(h:r∈rows)(h':a∈rows)(e:r.n=a.n):r=a:=by
 obtain⟨i,hi,b⟩:=Sa h
 obtain⟨j,g,d⟩:=Sa h'
 have:i=j:=by
  rcases VJ i j with c|c|c
  .have:=Se.mp f i j (by simpa using hi) (by simpa using g) c
   simp[b,d]at this
   exact absurd e this
  .exact c
  .have:=Se.mp f j i (by simpa using g) (by simpa using hi) c
   simp[b,d]at this
   exact absurd e.symm this
 subst this
 rw[<-b,<-d]
theorem PQ.told(x:PQ H lp lw ld s rows):s.cs.map (bM s)=rows.map fun r=>(r.n,r.x,(s.ps.map (·.1)).filter fun v=>decide (v∈r.zs)):=by
 rw[x.ec,QY]
 refine RT fun r hr=>?_
 show(r.n,r.x,(s.ps.map (·.1)).filter fun v=>decide ((v,r.n)∈s.ws))=_
 congr 2
 refine SJ fun v _=>?_
 refine decide_eq_decide.mpr ((x.ew v r.n).trans ⟨fun ⟨c,h1,a,b⟩=>?_,fun h=>⟨r,hr,rfl,h⟩⟩)
 rw[<-uh x.nr h1 hr a];exact b
end
section
variable {H:Hp}{l t:QI}{rows:⇑(QH×Int)}{i:Nat}{z:QH}{y:Int}
theorem nj{α a:Type}{F:α->a->Prop}:∀{xs:⇑α}{ys:⇑a}(i:Nat),Q4 F xs ys->Q4 F (xs.eraseIdx i) (ys.eraseIdx i)
 |_,_,_,.nil=>by simpa using Xd
 |_,_,0,.cons _ r=>r
 |_,_,i+1,.cons h r=>.cons h (nj i r)
end
theorem lX{α:Type}:∀{ps:⇑(QH×α)}{j:Nat}{z:QH},(ps.map (·.1)).Nodup->(ps.map (·.1))[j]?=ψ z->ps.eraseIdx j=ps.filter fun p=>decide (p.1≠z)
 |[],j,z,_,h=>by simp at h
 |p::r,0,z,a,h=>by
  have h:p.1=z:=by simpa using h
  subst h
  have a:(p.1::r.map (·.1)).Nodup:=a
  obtain⟨b,_⟩:=RC.mp a
  rw[YW,V5 ⋯]
  refine(Sd.mpr fun q d=>?_).symm
  have:q.1≠p.1:=fun e=>b (by rw[<-e];exact QO.mpr ⟨q,d,rfl⟩)
  simpa using this
 |p::r,j+1,z,a,h=>by
  have a:(p.1::r.map (·.1)).Nodup:=a
  obtain⟨b,f⟩:=RC.mp a
  have h:(r.map (·.1))[j]?=ψ z:=by simpa using h
  have c:p.1≠z:=fun e=>b (by rw[e];exact Td h)
  rw[Y2,Wb (by simpa using c),lX f h]
theorem sC{ns:⇑QH}(d:ns.Nodup){z:QH}(h:z∈ns):∃j,ns[j]?=ψ z/\j<ns.length/\∀m,m<j->ns[m]?≠some z:=by
 obtain⟨j,b,e⟩:=Sa h
 refine⟨j,by rw[QZ b,e],b,fun m hm c=>?_⟩
 have a:m<ns.length:=by omega
 rw[QZ a]at c
 have:=Se.mp d m j a b hm
 exact this ((RE c).trans e.symm)
section
variable {H:Hp}{lp lw ld:QI}{s:aB}{rows:⇑js}
end
theorem gq:∀{xs ys:⇑QH},xs.Nodup->(∀x∈xs,x∈ys)->xs.length<=ys.length
 |[],_,_,_=>RL _
 |x::r,ys,b,h=>by
  obtain⟨c,d⟩:=RC.mp b
  have f:(ys.filter fun y=>!decide (y=x)).length<ys.length:=List.length_filter_lt_length_iff_exists.mpr ⟨x,h x ⋯,⋯⟩
  have g:=gq (ys:=ys.filter fun y=>!decide (y=x)) d fun y a=>Ra.mpr ⟨h y (by simp[a]),by
   have:y≠x:=fun e=>c (by rw[<-e];exact a)
   simpa using this⟩
  rw[RB]
  omega
def iT(n:Int):QH:=((toString n:String):QH)
theorem fe(n:Nat):(iT (n:Int)).cps.toList=(TK 10 n).map Ts:=WO n
theorem AH{n:Int}{k:Nat}(a:0<=n)(c:0<k)(h:n<10 ^ k):(iT n).length<=k:=by
 obtain⟨m,rfl⟩:=S5 a
 have hm:m<10 ^ k:=by exact_mod_cast h
 have:=(Nat.length_toDigits_le_iff (b:=10) (n:=m) (k:=k) "^" c).mpr hm
 rw[show(iT (m:Int)).length=(iT (m:Int)).cps.toList.length by simp[UC],fe,QR]
 exact this
theorem AG{a b:Int}(ha:0<=a)(d:0<=b)(h:iT a=iT b):a=b:=by
 obtain⟨m,rfl⟩:=S5 ha
 obtain⟨n,rfl⟩:=S5 d
 have e:(TK 10 m).map Ts=(TK 10 n).map Ts:=by rw[<-fe,<-fe,h]
 have f:TK 10 m=TK 10 n:=VH (fun x y c=>W6 (Wn.mp c)) |>.mp e
 have:=congrArg (fun l=>Nat.ofDigitChars 10 l 0) f
 simp only[Nat.ofDigitChars_toDigits (b:=10) "^" "^"]at this
 omega
def OU:Int:=10 ^ 500
theorem KD{n:Int}(a:0<=n)(h:n<OU):n.natAbs.log2<1920:=by
 obtain⟨m,rfl⟩:=S5 a
 have hm:m<2 ^ 1920:=by
  have b:(m:Int)<((2 ^ 1920:Nat):Int):=Ug h nofun
  exact Int.ofNat_lt.mp b
 by_cases e:m=0
 .subst e;decide
 .exact(Wv (by simpa using e)).mpr (by rw[YK];exact hm)
def cZ(p:QH×Int):QH:=Rh++p.1++" "++iT p.2
def eM(a:⇑(QH×Int)):QH:=Q7 ", " (a.map cZ)
def bQ(r:dz):QH:=Rh++r.1++" "++iT r.2.1++": "++eM r.2.2
def eO(a:⇑dz)(g:Int):QH:=if a=[]then "none" else Rh++Q7 "; " (a.map bQ)++" of "++iT g
def bY(ns:⇑QH):QH:=if ns=[]then "-" else Q7 "+" ns
def cN(r:QH×Int×⇑QH):QH:=Rh++r.1++" "++iT r.2.1++" "++bY r.2.2
def dH(a:⇑(QH×Int×⇑QH)):QH:=if a=[]then "none" else Q7 ", " (a.map cN)
def Sm(x:QH):Prop:=x.length<=8
def Nb(n:Int):Prop:=0<=n/\n<OU
theorem Nb.len{n:Int}(h:Nb n):(iT n).length<=600:=AH h.1 "^" (Ug h.2 nofun)
theorem Nb.log{n:Int}(h:Nb n):n.natAbs.log2<1920:=KD h.1 h.2
theorem ck:(", ":QH).length=2/\("; ":QH).length=2/\(" ":QH).length=1/\(": ":QH).length=2/\(" of ":QH).length=4/\("+":QH).length=1/\("-":QH).length=1/\(Rh).length=0:=nofun
theorem pQ{p:QH×Int}(a:Sm p.1)(b:Nb p.2):(cZ p).length<=609:=by
 obtain⟨_,_,e,_,_,_,_,c⟩:=ck
 have:=b.len
 unfold Sm at a
 unfold cZ
 simp only[Ru]
 omega
theorem ri{a:⇑(QH×Int)}(c:a.length<=20)(h:∀p∈a,Sm p.1/\Nb p.2):(eM a).length<=12220:=by
 obtain⟨e,_⟩:=ck
 have:=fk (sep:=", ") (m:=609) (xs:=a.map cZ) (fun x d=>by
  obtain⟨p,b,rfl⟩:=QO.mp d
  exact pQ (h p b).1 (h p b).2)
 rw[QR,e]at this
 have:a.length*(609+2)<=20*611:=SV _ c
 unfold eM
 omega
theorem mC{r:dz}(a:Sm r.1)(b:Nb r.2.1)(c:r.2.2.length<=20)(h:∀p∈r.2.2,Sm p.1/\Nb p.2):(bQ r).length<=12840:=by
 obtain⟨_,_,e,d,_,_,_,f⟩:=ck
 have:=b.len
 have:=ri c h
 unfold Sm at a
 unfold bQ
 simp only[Ru]
 omega
theorem oM{ns:⇑QH}(hn:ns.length<=20)(h:∀x∈ns,Sm x):(bY ns).length<=180:=by
 obtain⟨_,_,_,_,_,e,a,_⟩:=ck
 unfold bY
 split
 .omega
 .have:=fk (sep:="+") (m:=8) (xs:=ns) h
  rw[e]at this
  have:ns.length*(8+1)<=20*9:=SV _ hn
  omega
theorem ml{r:QH×Int×⇑QH}(a:Sm r.1)(b:Nb r.2.1)(c:r.2.2.length<=20)(h:∀x∈r.2.2,Sm x):(cN r).length<=800:=by
 obtain⟨_,_,e,_,_,_,_,d⟩:=ck
 have:=b.len
 have:=oM c h
 unfold Sm at a
 unfold cN
 simp only[Ru]
 omega
theorem A7{s:aB}{a b:⇑(Nat×Int)}(c:eN (aW (bg s) (aq s)) (PF (av s)) [] a)(d:eN (aW (bg s) (aq s)) (PF (av s)) [] b):a=b:=DO c.run d.run
open Classical in
noncomputable def runOf(s:aB):⇑(Nat×Int):=if h:∃run,eN (aW (bg s) (aq s)) (PF (av s)) [] run then h.choose else[]
theorem p9{s:aB}{run:⇑(Nat×Int)}(h:eN (aW (bg s) (aq s)) (PF (av s)) [] run):runOf s=run:=by
 unfold runOf
 rw[dif_pos ⟨run,h⟩]
 exact A7 (Exists.choose_spec (⟨run,h⟩:∃run,eN (aW (bg s) (aq s)) (PF (av s)) [] run)) h
noncomputable def toldOf(s:aB):⇑dz:=(aE (aq s) (av s) (runOf s)).map (aT s)
noncomputable def aC(s:aB):aB:=if s.ps=[]\/s.cs=[]then s else cm s (runOf s)
noncomputable def d6(s:aB):QH:=if s.ps=[]\/s.cs=[]then "none" else eO (toldOf s) (cO s)
noncomputable def aL.app(s:aB):aL->aB
 |.enrol z=>{s with ps:=s.ps++[(z,0)]}
 |.propose z x=>{s with cs:=s.cs++[(z,x)]}
 |.give x=>gA s x
 |.leave z=>II s z (vP s.ps z)
 |.withdraw z=>{s with cs:=s.cs.filter fun p=>decide (p.1≠z),ws:=s.ws.filter fun p=>!decide (p.2=z)}
 |.want v n=>if(v,n)∈s.ws then s else{s with ws:=s.ws++[(v,n)]}
 |.unwant v n=>{s with ws:=s.ws.filter fun p=>!decide (p=(v,n))}
inductive Act where
 |deed (D:aL)
 |close
 |tell (t:QH)
 |no (cl:QH)
def xH(z:QH):Int:=(Vo z).getD 0
def kq(s:aB)(w:QH):Act:=if w="close" then .close else if w="works" then .tell (dH (s.cs.map (bM s)))else if w="pot" then .tell (iT s.pot)else if w="given" then .tell (iT s.giv)else if w="spent" then .tell (iT s.spt)else .no "NoRow"
noncomputable def act2(s:aB)(w a:QH):Act:=if w="purse" then(if a∈s.ps.map (·.1)then .tell (iT (vP s.ps a))else .no "NoVoter")else if w="enrol" then .deed (.enrol a)else if w="leave" then .deed (.leave a)else if w="give" then(if gk a then .deed (.give (xH a))else .no "NoRow")else if w="withdraw" then .deed (.withdraw a)else .no "NoRow"
def we(s:aB)(w a b:QH):Act:=if w="propose" then(if gk b then .deed (.propose a (xH b))else .no "NoRow")else if w="want" then .deed (.want a b)else if w="unwant" then .deed (.unwant a b)else .no "NoRow"
noncomputable def GF(s:aB):⇑QH->Act
 |[w]=>kq s w
 |[w,a]=>act2 s w a
 |[w,a,b]=>we s w a b
 |_=>.no "NoRow"
noncomputable def kD(s:aB)(row:QH):Act:=if("":QH)∈Rg row " " then .no "NoRow" else GF s (Rg row " ")
noncomputable def yK(K:QK)(A:Hp->⇑QI->aB->Prop)(H:Hp)(fp:⇑QI)(s:aB)(Q:VK)(E:XK):Act->Prop
 |.deed D=>(D.due s=χ->∀b a,A b a (D.app s)->bo fp H b->gY fp a H->Q (.str "ok") b)/\∀cl,D.due s=ψ cl->cc K H E cl
 |.close=>∀b a,A b a (aC s)->bo fp H b->gY fp a H->Q (.str (d6 s)) b
 |.tell t=>∀b,ah H b->Q (.str t) b
 |.no cl=>cc K H E cl
structure mL(s:aB):Prop where
 g:jW s
 nv:∀p∈s.ps,bE p.1=ω
 nc:∀p∈s.cs,bE p.1=ω
 pot:Nb s.pot
 giv:Nb s.giv
 spt:Nb s.spt
theorem eU{n:Int}(a:0<=n)(h:n<=1000000000000):Nb n:=⟨a,Te h nofun⟩
def cA(K:QK)(H:Hp)(d:QI)(fp:⇑QI)(s:aB):Prop:=∃dx c a,H d=ψ (.ins (aF K "Desk") dx [("chest",.ref c)])/\aI K H c a s/\d∉a/\fp=d::a
theorem Ag{cs:⇑Int}{rows:⇑(⇑Int)}{M:Int}:∀{run:⇑(Nat×Int)}{ps:⇑Int}{done:⇑Nat},ps.length=rows.length->eN (aW cs rows) (PF ps) done run->(∀i,0<=PF ps i/\PF ps i<=M)->∀x∈aE rows ps run,∀y∈x.2.2,y<=M
 |[],ps,done,d,h,a,x,b,y,c=>by cases b
 |(k,L)::r,ps,done,d,h,a,x,b,y,c=>by
  cases h with
  |step e f rest=>
   have g:=e.pos
   have j:0<=M:=Ue (a 0).1 (a 0).2
   rw[aE]at b
   rcases QW.mp b with rfl|b
   .have c:y∈b9 rows ps k L:=c
    obtain⟨i,_,rfl⟩:=QO.mp c
    have l:=(a i).2
    unfold wA
    split<;>omega
   .refine Ag (by rw[di];exact d) (by rw[dC d];exact rest) (fun i=>?_) x b y c
    rw[dC d]
    exact⟨qV (a i).1,Ue (Iy (a i).1 "`") (a i).2⟩
theorem Bo{s:aB}(G:jW s):(0:Int)<(cO s:Int)/\((cO s:Nat):Int)<=232792560 ^ 13:=by
 have a:=cS s.ps.length (s.cs.length+1)
 have b:=ot (v:=s.ps.length) (w:=s.cs.length+1) G.v20 (by have:=G.n12;omega)
 unfold cO
 exact⟨by exact_mod_cast a,b⟩
theorem OK{s:aB}(G:jW s):Nb ((cO s:Nat):Int):=⟨S0 (Bo G).1,Te (Bo G).2 nofun⟩
theorem J1{s:aB}(G:mL s){run:⇑(Nat×Int)}(d:eN (aW (bg s) (aq s)) (PF (av s)) [] run):
  ∀r∈(aE (aq s) (av s) run).map (aT s),Sm r.1/\Nb r.2.1/\r.2.2.length<=20/\∀p∈r.2.2,Sm p.1/\Nb p.2:=fun r j=>by
 obtain⟨x,f,rfl⟩:=QO.mp j
 obtain⟨k,t⟩:=(dg d).2 x f
 obtain⟨g1,g2⟩:=Bo G.g
 have hm:=getD_mem (xs:=s.cs) ("",0) k
 have b:=G.g.cb _ hm
 refine⟨(cy (G.nc _ hm)).2,eU (by have:=b.1;show(0:Int)<=(s.cs.getD x.1 ("",0)).2;omega) b.2,?_,fun p l=>?_⟩
 .refine QV (Sb _ _) ?_
  rw[XA,QR]
  exact QV (W8 _ _) G.g.v20
 .obtain⟨m,a⟩:=Ra.mp l
  have a:=of_decide_eq_true a
  have c:(av s).length=(aq s).length:=by simp[av,aq]
  obtain⟨n,o⟩:=T7 m
  obtain⟨v,q,e⟩:=QO.mp n
  exists ?_,S0 a
  .rw[<-e]
   exact(cy (G.nv v q)).2
  .have:=Ag (M:=1000000000000*232792560 ^ 13) c d (fun i=>?_) x f p.2 o
   .exact Te this nofun
   .by_cases hi:i<s.ps.length
    .rw[um hi]
     have h:=G.g.p0 _ (getD_mem (xs:=s.ps) ("",0) hi)
     exact⟨UL h.1 (S0 g1),Ue (UM h.2 (S0 g1)) (Wo g2 "^")⟩
    .rw[zr (by simp[av];omega)]
     exact⟨Sl _,nofun⟩
def d0(ps:⇑(QH×Int)):Int:=(ps.map (·.2)).sum
theorem zY:∀{ps:⇑(QH×Int)},(∀p∈ps,0<=p.2)->0<=d0 ps/\∀p∈ps,p.2<=d0 ps
 |[],_=>⟨Sl _,fun _ h=>nomatch h⟩
 |q::r,h=>by
  obtain⟨c,b⟩:=zY (ps:=r) fun p a=>h p (Rm _ a)
  have d:=h q (RW ..)
  have e:d0 (q::r)=q.2+d0 r:=by simp[d0]
  refine⟨by omega,fun p a=>?_⟩
  rcases QW.mp a with rfl|a
  .omega
  .have:=b p a;omega
theorem Cu(x:Int):∀ps:⇑(QH×Int),d0 (ps.map fun p=>(p.1,p.2+x))=d0 ps+x*ps.length
 |[]=>by simp[d0]
 |q::r=>by
  have:=Cu x r
  simp only[d0,Rk,RK,RB]at this ⊢
  rw[this]
  have:x*((r.length+1:Nat):Int)=x*(r.length:Int)+x:=by rw[US,UT];simp
  omega
theorem yu:∀{ps:⇑(QH×Int)}{z:QH},(ps.map (·.1)).Nodup->z∈ps.map (·.1)->d0 (ps.filter fun p=>decide (p.1≠z))+vP ps z=d0 ps
 |[],_,_,h=>nomatch h
 |q::r,z,a,h=>by
  have b:q.1∉r.map (·.1):=(RC.mp a).1
  rw[vP]
  by_cases e:q.1=z
  .subst e
   rw[if_pos rfl,T1,if_neg ⋯,(Sd (p:=fun p:QH×Int=>decide (p.1≠q.1)) (l:=r)).mpr fun p c=>decide_eq_true fun z=>b (QO.mpr ⟨p,c,z⟩)]
   simp[d0];omega
  .have:=yu (ps:=r) (z:=z) (RC.mp a).2 (by
    rcases QW.mp h with h|h
    .exact absurd h.symm e
    .exact h)
   rw[if_neg e,T1,if_pos (decide_eq_true e)]
   simp only[d0,Rk,RK]at this ⊢
   omega
structure bX(n:Nat)(s:aB):Prop where
 d:mL s
 nd:(s.ps.map (·.1)).Nodup
 nd2:(s.cs.map (·.1)).Nodup
 w:s.ws.length<=n
 gn:s.giv<=n*1000000000
 co:s.spt+s.pot+d0 s.ps=s.giv
theorem bX.of{n:Nat}{s:aB}(hn:n<=900)(v20:s.ps.length<=20)(n12:s.cs.length<=12)(nv:∀p∈s.ps,bE p.1=ω)(nc:∀p∈s.cs,bE p.1=ω)(aw:∀p∈s.ws,aU p.1/\aU p.2)
  (cb:∀p∈s.cs,1<=p.2/\p.2<=1000000000000) (p0:∀p∈s.ps,0<=p.2) (nd:(s.ps.map (·.1)).Nodup) (nd2:(s.cs.map (·.1)).Nodup) (w:s.ws.length<=n) (gn:s.giv<=n*1000000000) (h1:0<=s.pot) (a:0<=s.spt) (co:s.spt+s.pot+d0 s.ps=s.giv):bX n s:=by
 obtain⟨z1,z2⟩:=zY p0
 have b:(n:Int)<=900:=by exact_mod_cast hn
 exact⟨⟨⟨v20,n12,fun p hp=>fi (nv p hp),fun p hp=>fi (nc p hp),aw,cb,fun p hp=>⟨p0 p hp,by have:=z2 p hp;omega⟩,QV w hn⟩,nv,nc,eU h1 "`",eU "`" "`",eU a "`"⟩,nd,nd2,w,gn,co⟩
theorem bX.up{n m:Nat}{s:aB}(g:bX n s)(h:n<=m):bX m s:=by
 have h1:=g.gn
 have a:(n:Int)<=m:=by exact_mod_cast h
 exact⟨g.d,g.nd,g.nd2,QV g.w h,by omega,g.co⟩
theorem pZ{zs:⇑QH}{z:QH}(h:zs.Nodup)(n:z∉zs):(zs++[z]).Nodup:=Xa.mpr ⟨h,Zo (fun _ h=>nomatch h) .nil,fun a ha b c e=>n (by rw[Rv]at c;rw[<-c,<-e];exact ha)⟩
theorem bX.app{n:Nat}{s:aB}(g:bX n s)(hn:n+1<=900){D:aL}(hd:D.due s=χ):bX (n+1) (D.app s):=by
 have G:=g.d.g
 have F:=g.gn
 have j:=g.co
 have a:∀p∈s.ps,0<=p.2:=fun p hp=>(G.p0 p hp).1
 have hw:s.ws.length<=n+1:=Yr g.w
 have b:s.giv<=((n+1:Nat):Int)*1000000000:=by rw[US];omega
 have same:∀{c:aB},c.ps=s.ps->c.pot=s.pot->c.giv=s.giv->c.spt=s.spt->c.cs.length<=12->(∀p∈c.cs,bE p.1=ω/\1<=p.2/\p.2<=1000000000000)->(c.cs.map (·.1)).Nodup->(∀p∈c.ws,aU p.1/\aU p.2)->c.ws.length<=n+1->bX (n+1) c:=fun {c} e1 u A B h1 o h3 h4 h5=>by
  refine bX.of hn (by rw[e1];exact G.v20) h1 (by rw[e1];exact g.d.nv) (fun p hp=>(o p hp).1) h4 (fun p hp=>(o p hp).2) (by rw[e1];exact a) (by rw[e1];exact g.nd) h3 h5 (by rw[A];exact b) (by rw[u];exact g.d.pot.1) (by rw[B];exact g.d.spt.1) (by rw[e1,u,A,B];exact j)
 have f:∀p∈s.cs,bE p.1=ω/\1<=p.2/\p.2<=1000000000000:=fun p hp=>⟨g.d.nc p hp,G.cb p hp⟩
 cases D with
 |enrol z=>
  rw[aL.due]at hd
  split at hd
  .cases hd
  rename_i i
  split at hd
  .cases hd
  rename_i k
  split at hd
  .cases hd
  rename_i H
  have hz:bE z=ω:=by cases h:bE z<;>simp_all
  have hm:∀p∈s.ps++[(z,0)],bE p.1=ω/\0<=p.2:=fun p hp=>by
   rcases Rr.mp hp with h|h
   .exact⟨g.d.nv p h,a p h⟩
   .rw[Rv]at h;subst h;exact⟨hz,Sl _⟩
  refine bX.of hn (by simp[aL.app];omega) G.n12 (fun p hp=>(hm p hp).1) g.d.nc G.aw G.cb (fun p hp=>(hm p hp).2) ?_ g.nd2 hw b g.d.pot.1 g.d.spt.1 ?_
  .simp only[aL.app,Sv,Rk,TZ]
   exact pZ g.nd k
  .simp only[aL.app]
   rw[<-j]
   simp[d0]
 |propose z x=>
  rw[aL.due]at hd
  split at hd
  .cases hd
  rename_i i
  split at hd
  .cases hd
  rename_i k
  split at hd
  .cases hd
  rename_i H
  split at hd
  .cases hd
  rename_i M
  have hz:bE z=ω:=by cases h:bE z<;>simp_all
  refine same rfl rfl rfl rfl (by simp[aL.app];omega) (fun p hp=>?_) ?_ G.aw hw
  .rcases Rr.mp hp with h|h
   .exact f p h
   .rw[Rv]at h;subst h;exact⟨hz,by omega,by omega⟩
  .simp only[aL.app,Sv,Rk,TZ]
   exact pZ g.nd2 k
 |give x=>
  rw[aL.due]at hd
  split at hd
  .cases hd
  rename_i i
  have C:0<=x/\x<=1000000000:=by omega
  have E:s.giv+x<=((n+1:Nat):Int)*1000000000:=by rw[US];omega
  have l:=g.d.pot.1
  show bX (n+1) (gA s x)
  unfold gA
  split
  .exact bX.of hn G.v20 G.n12 g.d.nv g.d.nc G.aw G.cb a g.nd g.nd2 hw E (by show 0<=s.pot+x;omega) g.d.spt.1 (by show s.spt+(s.pot+x)+d0 s.ps=s.giv+x;omega)
  .rename_i t
   have N:0<(s.ps.length:Int):=by have:=SF.mpr t;omega
   have I:0<=(s.pot+x)/(s.ps.length:Int):=Zn "`" "`"
   have J:(s.pot+x)/(s.ps.length:Int)*(s.ps.length:Int)<=s.pot+x:=Ym _ "`"
   generalize (s.pot+x)/(s.ps.length:Int)=q at *
   have hm:∀p∈s.ps.map (fun p=>(p.1,p.2+q)),bE p.1=ω/\0<=p.2:=fun p hp=>by
    obtain⟨r,hr,rfl⟩:=QO.mp hp
    exact⟨g.d.nv r hr,by have:=a r hr;show 0<=r.2+q;omega⟩
   refine bX.of hn (by simp[uD];exact G.v20) G.n12 (fun p hp=>(hm p hp).1) g.d.nc G.aw G.cb (fun p hp=>(hm p hp).2) (by simp only[uD];rw[map_fst];exact g.nd) g.nd2 hw E (by show 0<=s.pot+x-q*(s.ps.length:Int);omega) g.d.spt.1 ?_
   show s.spt+(s.pot+x-q*(s.ps.length:Int))+d0 (s.ps.map fun p=>(p.1,p.2+q))=s.giv+x
   rw[Cu]
   omega
 |leave z=>
  rw[aL.due]at hd
  split at hd
  .rename_i i
   have h1:=yu g.nd i
   have o:=a _ (ji i)
   have l:=g.d.pot.1
   exact bX.of hn (QV (Sb _ _) G.v20) G.n12 (fun p hp=>g.d.nv p (Ra.mp hp).1) g.d.nc (fun p hp=>G.aw p (Ra.mp hp).1) G.cb (fun p hp=>a p (Ra.mp hp).1) (oX g.nd) g.nd2 (QV (Sb _ _) hw) b (by show 0<=s.pot+vP s.ps z;omega) g.d.spt.1 (by
    show s.spt+(s.pot+vP s.ps z)+d0 (s.ps.filter fun p=>decide (p.1≠z))=s.giv
    omega)
  .cases hd
 |withdraw z=>
  exact same rfl rfl rfl rfl (QV (Sb _ _) G.n12) (fun p hp=>f p (Ra.mp hp).1) (oX g.nd2) (fun p hp=>G.aw p (Ra.mp hp).1) (QV (Sb _ _) hw)
 |want v m=>
  rw[aL.due]at hd
  split at hd
  .rename_i i
   split at hd
   .rename_i k
    rw[aL.app]
    split
    .exact same rfl rfl rfl rfl G.n12 f g.nd2 G.aw hw
    .refine same rfl rfl rfl rfl G.n12 f g.nd2 (fun p hp=>?_) (by simp;exact g.w)
     rcases Rr.mp hp with h|h
     .exact G.aw p h
     .rw[Rv]at h;subst h
      obtain⟨x,C,e⟩:=QO.mp i
      obtain⟨y,K,L⟩:=QO.mp k
      exact⟨by rw[<-e];exact G.ap x C,by rw[<-L];exact G.ac y K⟩
   .cases hd
  .cases hd
 |unwant v m=>
  exact same rfl rfl rfl rfl G.n12 f g.nd2 (fun p hp=>G.aw p (Ra.mp hp).1) (QV (Sb _ _) hw)
theorem Ez{g:Int}:∀{l:⇑Int},g*(l.map (· / g)).sum+(l.map (· % g)).sum=l.sum
 |[]=>by simp
 |x::l=>by
  have:=Ez (g:=g) (l:=l)
  have:=WD x g
  simp only[Rk,RK,UT]at *
  omega
theorem u9(g:Int):∀l:⇑Int,(l.map (· * g)).sum=l.sum*g
 |[]=>by simp
 |x::l=>by rw[Rk,RK,RK,u9 g l,UD]
theorem yL{rows:⇑(⇑Int)}:∀{run:⇑(Nat×Int)}{ps:⇑Int},(aE rows ps run).map (·.1)=run.map (·.1)
 |[],_=>rfl
 |(k,L)::r,ps=>by rw[aE,Rk,Rk,yL]
theorem bX.closed{n:Nat}{s:aB}(g:bX n s)(hn:n<=900){run:⇑(Nat×Int)}(a:eN (aW (bg s) (aq s)) (PF (av s)) [] run):bX n (cm s run):=by
 have GC:=g.d.g.closed a
 have G:=g.d.g
 have g0:0<(cO s:Int):=by exact_mod_cast cS s.ps.length (s.cs.length+1)
 have b:=gg (s:=s) (run:=run)
 have hd:=Hz a
 have f:=rB (by simp[av,aq]) a
 rw[<-cR]at f
 have j:=g.co
 have m:(av s).sum=d0 s.ps*(cO s:Int):=by
  unfold av d0
  rw[<-u9,QY];rfl
 have o:(run.map fun x=>(aW (bg s) (aq s)).c x.1).sum=(((aE (aq s) (av s) run).map (aT s)).map (·.2.1)).sum*(cO s:Int):=by
  rw[<-u9,QY,QY]
  have q:(run.map fun x=>(aW (bg s) (aq s)).c x.1)=(run.map (·.1)).map (aW (bg s) (aq s)).c:=by rw[QY];rfl
  rw[q,<-yL (rows:=aq s) (ps:=av s),QY]
  exact congrArg List.sum (RT fun x h=>uo ((dg a).2 x h).1)
 have E:=Ez (g:=(cO s:Int)) (l:=aZ (av s) (aE (aq s) (av s) run))
 obtain⟨k,i⟩:=hd
 have t:d0 (cm s run).ps=((aZ (av s) (aE (aq s) (av s) run)).map (· / (cO s:Int))).sum:=by
  show d0 ((s.ps.map (·.1)).zip _)=_
  unfold d0
  rw[Xx (by rw[QR,QR,gR];simp[av])]
 have u:(cm s run).pot=s.pot+k:=by
  show s.pot+_/(cO s:Int)=_
  rw[i,Int.mul_ediv_cancel_left _ "`"]
 have v:(cm s run).spt=s.spt+(((aE (aq s) (av s) run).map (aT s)).map (·.2.1)).sum:=rfl
 have F:0<=k:=by
  have h1:0<=(cO s:Int)*k:=by
   rw[<-i]
   exact oC fun x h=>by
    obtain⟨y,_,rfl⟩:=QO.mp h
    exact VX _ "`"
  exact Int.nonneg_of_mul_nonneg_right h1 g0
 have H:0<=(((aE (aq s) (av s) run).map (aT s)).map (·.2.1)).sum:=oC fun x h=>by
  obtain⟨y,A,rfl⟩:=QO.mp h
  obtain⟨z,hz,rfl⟩:=QO.mp A
  have:=(G.cb _ (getD_mem (xs:=s.cs) ("",0) ((dg a).2 z hz).1)).1
  show 0<=(s.cs.getD z.1 ("",0)).2
  omega
 generalize (((aE (aq s) (av s) run).map (aT s)).map (·.2.1)).sum=C at *
 generalize (aZ (av s) (aE (aq s) (av s) run)).sum=Z at *
 generalize ((aZ (av s) (aE (aq s) (av s) run)).map (· / (cO s:Int))).sum=D at *
 generalize ((aZ (av s) (aE (aq s) (av s) run)).map (· % (cO s:Int))).sum=M at *
 have B:D+k+C=d0 s.ps:=by
  have:(cO s:Int)*(D+k+C)=(cO s:Int)*d0 s.ps:=by
   rw[UT,UT,Ul _ C,Ul _ (d0 s.ps),<-o,<-m]
   omega
  exact Int.eq_of_mul_eq_mul_left "`" this
 refine bX.of hn GC.v20 GC.n12 (fun p hp=>?_) (fun p hp=>g.d.nc p (Ra.mp hp).1) GC.aw GC.cb (fun p hp=>(GC.p0 p hp).1) (by rw[b];exact g.nd) (oX g.nd2) (QV (Sb _ _) g.w) g.gn (by have:=g.d.pot.1;omega) (by have:=g.d.spt.1;omega) ?_
 .have:p.1∈s.ps.map (·.1):=by rw[<-b];exact QO.mpr ⟨p,hp,rfl⟩
  obtain⟨r,hr,e⟩:=QO.mp this
  rw[<-e];exact g.d.nv r hr
 .rw[t,u,v]
  show s.spt+C+(s.pot+k)+D=s.giv
  omega
theorem bX.close{n:Nat}{s:aB}(g:bX n s)(hn:n<=900):bX n (aC s):=by
 unfold aC
 split
 .exact g
 .by_cases h:∃run,eN (aW (bg s) (aq s)) (PF (av s)) [] run
  .obtain⟨run,a⟩:=h
   rw[p9 a]
   exact g.closed hn a
  .rw[show runOf s=[]from dif_neg h,sM]
   exact g
theorem JZ{D:aL}{s:aB}{cl:QH}(h:D.due s=ψ cl):cl="NoName"\/cl="Twice"\/cl="NoVoter"\/cl="NoWork"\/cl="TooMuch"\/cl="Full":=by
 cases D<;>simp only[aL.due]at h<;>(repeat' split at h)<;>cases h<;>simp
inductive QF where
 |txt (t:QH)
 |kin (cl:QH)
noncomputable def NI(s:aB):Act->QF
 |.deed D=>match D.due s with
  |none=>.txt "ok"
  |some cl=>.kin cl
 |.close=>.txt (d6 s)
 |.tell t=>.txt t
 |.no cl=>.kin cl
theorem cA.but{K:QK}{H H':Hp}{d:QI}{fp l:⇑QI}{s:aB}(x:cA K H d fp s)(b:bo l H H')(n:∀a∈fp,a∉l):cA K H' d fp s:=by
 obtain⟨dx,c,e,hd,f,nd,rfl⟩:=x
 exact⟨dx,c,e,b.1 _ _ (n d (RW ..)) hd,f.but b fun a ha=>n a (Rm _ ha),nd,rfl⟩
theorem cA.same{K:QK}{H H':Hp}{d:QI}{fp:⇑QI}{s:aB}(x:cA K H d fp s)(b:ah H H'):cA K H' d fp s:=x.but (bo.of (l:=[]) b) ⋯
theorem cA.there{K:QK}{H:Hp}{d:QI}{fp:⇑QI}{s:aB}(x:cA K H d fp s):∀a∈fp,H a≠none:=by
 obtain⟨dx,c,b,hd,e,nd,rfl⟩:=x
 intro a ha
 rcases QW.mp ha with rfl|ha
 .rw[hd];exact fun z=>nomatch z
 .exact e.there a ha
theorem Kt{s:aB}{row cl:QH}(h:NI s (kD s row)=.kin cl):cl="NoName"\/cl="Twice"\/cl="NoVoter"\/cl="NoWork"\/cl="TooMuch"\/cl="Full"\/cl="NoRow":=by
 have a:∀cl,kD s row=.no cl->cl="NoVoter"\/cl="NoRow":=fun cl h=>by
  unfold kD at h
  split at h
  .cases h;exact .inr rfl
  .unfold GF at h
   split at h
   .unfold kq at h
    (repeat' split at h)<;>cases h
    exact .inr rfl
   .unfold act2 at h
    (repeat' split at h)<;>cases h<;>first|exact .inl rfl|exact .inr rfl
   .unfold we at h
    (repeat' split at h)<;>cases h<;>exact .inr rfl
   .cases h;exact .inr rfl
 cases e:kD s row with
 |deed D=>
  rw[e]at h
  simp only[NI]at h
  split at h
  .cases h
  .rename_i c hd
   cases h
   rcases JZ hd with h|h|h|h|h|h<;>simp[h]
 |close=>rw[e]at h;cases h
 |tell t=>rw[e]at h;cases h
 |no c=>
  rw[e]at h
  cases h
  rcases a cl e with h|h<;>simp[h]
theorem Lh:∀{p q A B:⇑Nat},p++32::A=q++32::B->32∉p->32∉q->p=q/\A=B
 |[],[],A,B,h,_,_=>⟨rfl,(TU h).2⟩
 |[],c::q,A,B,h,_,a=>absurd (QW.mpr (.inl (TU h).1)) a
 |c::p,[],A,B,h,b,_=>absurd (QW.mpr (.inl (TU h).1.symm)) b
 |c::p,e::q,A,B,h,b,a=>by
  obtain⟨d,f⟩:=TU h
  obtain⟨g,i⟩:=Lh f (fun z=>b (Rm _ z)) fun z=>a (Rm _ z)
  exact⟨by rw[d,g],i⟩
theorem yq:∀{ps a:⇑(⇑Nat)},ps≠[]->a≠[]->(∀p∈ps,32∉p)->(∀p∈a,32∉p)->eh ps=eh a->ps=a
 |[],_,h,_,_,_,_=>absurd rfl h
 |_::_,[],_,h,_,_,_=>absurd rfl h
 |[p],[q],_,_,_,_,h=>by rw[show p=q from h]
 |[p],q::d::r,_,_,b,_,h=>absurd (show 32∈p by rw[show p=q++32::eh (d::r)from h];simp) (b p ⋯)
 |p::e::r,[q],_,_,_,c,h=>absurd (show 32∈q by rw[<-show p++32::eh (e::r)=q from h];simp) (c q ⋯)
 |p::e::r,q::d::g,_,_,b,c,h=>by
  obtain⟨i,j⟩:=Lh (show p++32::eh (e::r)=q++32::eh (d::g)from h) (b p ⋯) (c q ⋯)
  rw[i,yq ⋯ ⋯ (fun x f=>b x (Rm _ f)) (fun x f=>c x (Rm _ f)) j]
def Wd(z:QH):Prop:=z.length<=40/\∀c∈z.cps.toList,c<128/\c≠32
theorem Wd.asc{z:QH}(h:Wd z):aU z:=cJ.mpr fun c a=>(h.2 c a).1
theorem Ce{ws:⇑QH}(h:ws≠[])(f:∀w∈ws,Wd w):Rg (Q7 " " ws) " "=ws:=by
 rw[Bc]
 have e:eh ((Rg (Q7 ⟨#[32]⟩ ws) ⟨#[32]⟩).map (·.cps.toList))=eh (ws.map (·.cps.toList)):=by rw[<-i6,Tf,i6]
 have:=yq (fun e=>IS _ _ (Ti.mp e)) (fun e=>h (Ti.mp e)) (fun p a=>by
  obtain⟨x,b,rfl⟩:=QO.mp a
  exact Vg _ 32 x b) (fun p a=>by
  obtain⟨x,b,rfl⟩:=QO.mp a
  exact fun z=>((f x b).2 32 z).2 rfl) e
 exact(VH fun x y c=>ju.mpr c).mp this
theorem gO{s:aB}{ws:⇑QH}(h:ws≠[])(f:∀w∈ws,Wd w):kD s (Q7 " " ws)=if("":QH)∈ws then .no "NoRow" else GF s ws:=by
 unfold kD
 rw[Ce h f]
theorem iH{ws:⇑QH}(b:ws.length<=20)(f:∀w∈ws,Wd w):Tx (Q7 " " ws):=by
 exists uR (cJ.mpr (by rw[Bc];simp)) fun x a=>(f x a).asc
 have:=fk (sep:=" ") (m:=40) (xs:=ws) fun x a=>(f x a).1
 rw[ck.2.2.1]at this
 have:ws.length*(40+1)<=20*41:=SV _ b
 omega
def W1:⇑QH:=["close","works","pot","given","spent"]
theorem PL{s:aB}{w:QH}(h:w∉W1):kq s w=.no "NoRow":=by
 simp only[W1,QW,RM,or_false,not_or]at h
 obtain⟨a,b,c,d,e⟩:=h
 rw[kq,if_neg a,if_neg b,if_neg c,if_neg d,if_neg e]
def WA:⇑QH:=(["enrol","leave","give","propose","withdraw","want","unwant"]:⇑QH)++(["close","purse","pot","given","spent","works"]:⇑QH)
def Qt(n o:QH):⇑(⇑QH):=["enrol",n]::["leave",n]::["give","5"]::["propose",n,"7"]::["withdraw",n]::["close"]::[["want",n,o],["unwant",n,o],["purse",n],["pot"],["works"],["spent"]]
def LU(n o:QH):⇑(⇑QH):=Qt n o++([["given"]]:⇑(⇑QH))
theorem Jf{n o:QH}{g:⇑QH}(h:g∈LU n o):g=(["enrol",n]:⇑QH)\/g=(["leave",n]:⇑QH)\/g=(["give","5"]:⇑QH)\/g=(["propose",n,"7"]:⇑QH)\/g=(["withdraw",n]:⇑QH)\/g=(["close"]:⇑QH)\/g=(["want",n,o]:⇑QH)\/g=(["unwant",n,o]:⇑QH)\/g=(["purse",n]:⇑QH)\/g=(["pot"]:⇑QH)\/g=(["works"]:⇑QH)\/g=(["spent"]:⇑QH)\/g=(["given"]:⇑QH):=by
 simpa[LU,Qt]using h
theorem AD:(∀w∈WA,Wd w)/\Wd "5"/\Wd "7"/\Wd "rows"/\Wd ""/\Wd "\t"/\Wd "\n":=by
 unfold Wd
 decide +kernel
theorem Px{n o:QH}{g:⇑QH}(h:g∈LU n o):∃w r,g=w::r/\w∈WA/\(∀x∈r,x=n\/x=o\/x="5"\/x="7")/\r.length<=2:=by
 rcases Jf h with rfl|rfl|rfl|rfl|rfl|rfl|rfl|rfl|rfl|rfl|rfl|rfl|rfl<;>exact⟨_,_,rfl,nofun,⋯,⋯⟩
def Lm(ns:⇑QH)(r:QH):Prop:=Tx r/\∀s z,kD s r=.deed (.enrol z)->z∈ns
theorem Dq{s:aB}{ws:⇑QH}{z:QH}(h:GF s ws=.deed (.enrol z)):ws=(["enrol",z]:⇑QH):=by
 unfold GF at h
 split at h
 .unfold kq at h
  (repeat' split at h)<;>cases h
 .rename_i w a
  unfold act2 at h
  (repeat' split at h)<;>cases h
  rename_i e
  rw[e]
 .unfold we at h
  (repeat' split at h)<;>cases h
 .cases h
theorem OT{ns ws:⇑QH}(h:ws≠[])(f:∀w∈ws,Wd w)(b:ws.length<=20)(he:∀z,ws=(["enrol",z]:⇑QH)->z∈ns):Lm ns (Q7 " " ws):=⟨iH b f,fun s z a=>by
 rw[gO h f]at a
 split at a
 .cases a
 .exact he z (Dq a)⟩
theorem NA{n:Int}{k:Nat}(e:0<=n)(g:0<k)(h:n<10 ^ k)(a:k<=40):Wd (iT n):=by
 refine⟨QV (AH e g h) a,fun c f=>?_⟩
 obtain⟨m,rfl⟩:=S5 e
 rw[fe]at f
 obtain⟨d,hd,rfl⟩:=QO.mp f
 have:=Vk (b:=10) (n:=m) "^" "^" hd
 unfold VT at this
 simp only[RI,decide_eq_true_eq]at this
 have i:48<=d.toNat:=this.1
 have j:d.toNat<=57:=this.2
 omega
theorem N7{z:QH}(h:bE z=ω):Wd z:=by
 refine⟨by have:=(cy h).2;omega,fun c a=>?_⟩
 unfold bE at h
 simp only[RI]at h
 have:=R7.mp h.2 c a
 unfold isLet at this
 simp only[RI,decide_eq_true_eq]at this
 omega
theorem gj(a b c:QH):a++b++c=a++(b++c):=ju.mpr (by simp only[c8,YC])
theorem Kf{w b a:QH}(h:b=w++" "):b++a=Q7 " " [w,a]:=by rw[h];rfl
theorem Qm{w c a b:QH}(h:c=w++" "):c++a++" "++b=Q7 " " [w,a,b]:=by
 rw[h]
 show w++" "++a++" "++b=w++" "++(a++" "++b)
 simp only[gj]
theorem wk:Wd "enrol"/\Wd "give"/\Wd "propose"/\Wd "want"/\Wd "purse"/\Wd "close":=by
 have:=AD.1
 exact⟨this _ nofun,this _ nofun,this _ nofun,this _ nofun,this _ nofun,this _ nofun⟩
theorem NW{ns:⇑QH}{z:QH}(h:Wd z)(hz:z∈ns):Lm ns (("enrol ":QH)++z):=by
 rw[Kf (w:="enrol") nofun]
 exact OT ⋯ (by simp[wk,h]) ⋯ (fun y e=>by
  have e:z=y:=by simpa using e
  rw[<-e];exact hz)
theorem Ob{i:Int}{H:Hp}{Q:VK}(a:0<=i)(h:i<=1000000000000)(q:Q (.str (iT i)) H):mQ [.int i] H Q:=rF (eU a h).log q
theorem Im{n:Int}(e:0<=n):aU (iT n):=cJ.mpr fun c a=>by
 obtain⟨m,rfl⟩:=S5 e
 rw[fe]at a
 obtain⟨d,hd,rfl⟩:=QO.mp a
 have:=Vk (b:=10) (n:=m) "^" "^" hd
 unfold VT at this
 simp only[RI,decide_eq_true_eq]at this
 have f:d.toNat<=57:=this.2
 omega
theorem OR{C:QI}{H i:Hp}{c dx:QI}{fp:⇑QI}(g:H c=χ)(j:H dx=χ)(b:bo [c] (upd (upd H dx (.own c)) c (.ins C dx [])) i)(w:gY [c] fp (upd (upd H dx (.own c)) c (.ins C dx []))):
  ah H i/\∀a∈fp,H a=none:=by
 refine⟨fun a o h=>?_,fun a ha=>?_⟩
 .have d:a≠c:=fun e=>by rw[e,g]at h;cases h
  have f:a≠dx:=fun e=>by rw[e,j]at h;cases h
  exact b.1 a o (by simpa using d) (by rw[aj d,aj f];exact h)
 .rcases w a ha with e|e
  .rw[Rv.mp e];exact g
  .by_cases d:a=c
   .rw[d];exact g
   .rw[aj d]at e
    by_cases f:a=dx
    .rw[f];exact j
    .rw[aj f]at e;exact e
theorem KI{z:QH}(h:bE z=ω):∀c∈z.cps.toList,isLet c=ω:=fun c a=>by
 unfold bE at h
 simp only[RI]at h
 exact R7.mp h.2 c a
theorem O1{s:aB}{z:QH}(hz:Wd z)(a:z≠"")(h:∀p∈s.ps,p.1≠z):kD s (("purse ":QH)++z)=.no "NoVoter"/\Tx (("purse ":QH)++z):=by
 rw[Kf (w:="purse") nofun]
 have f:∀x∈(["purse",z]:⇑QH),Wd x:=by simp[wk,hz]
 refine⟨?_,iH ⋯ f⟩
 rw[gO ⋯ f,if_neg]
 .show act2 s "purse" z=_
  rw[act2,if_pos rfl,if_neg]
  intro m
  obtain⟨p,b,e⟩:=QO.mp m
  exact h p b e
 .intro m
  rcases QW.mp m with m|m
  .exact absurd m nofun
  .exact a (Rv.mp m).symm
def Jk(z:QH):Prop:=Wd z/\z≠""/\z.length<=20
def aL.row:aL->⇑QH
 |.enrol z=>["enrol",z]
 |.propose z x=>["propose",z,iT x]
 |.give x=>["give",iT x]
 |.leave z=>["leave",z]
 |.withdraw z=>["withdraw",z]
 |.want v n=>["want",v,n]
 |.unwant v n=>["unwant",v,n]
def Am(x:Int):Prop:=0<=x/\x<10000000000000
def aL.ok:aL->Prop
 |.enrol z=>Jk z
 |.propose z x=>Jk z/\Am x
 |.give x=>Am x
 |.leave z=>Jk z
 |.withdraw z=>Jk z
 |.want v n=>Jk v/\Jk n
 |.unwant v n=>Jk v/\Jk n
theorem Am.wd{x:Int}(h:Am x):Wd (iT x):=NA (k:=13) h.1 "^" (by have:=h.2;omega) "^"
theorem Ep(n:Nat):0<n->∃c r,TK 10 n=c::r/\c≠'0':=by
 induction n using Xj with
 |ind n a=>
  intro h
  rw[XE (b:=10) "^"]
  split
  .rename_i d
   exists _,_,rfl
   have:∀k:Fin 10,0<k.val->Nat.digitChar k.val≠'0':=by decide
   exact this ⟨n,d⟩ h
  .obtain⟨c,r,e,f⟩:=a (n/10) "`" "`"
   rw[e]
   exact⟨c,_,rfl,f⟩
theorem Am.num{x:Int}(h:Am x):gk (iT x)=ω/\xH (iT x)=x:=by
 have ok:gk (iT x)=ω:=by
  obtain⟨m,rfl⟩:=S5 h.1
  have g:=AH (k:=13) h.1 "^" (by have:=h.2;omega)
  rw[<-bw]at g
  unfold gk
  have a:∀c∈(iT (m:Int)).cps.toList,gz c=ω:=fun c f=>by
   rw[fe]at f
   obtain⟨d,hd,rfl⟩:=QO.mp f
   have:=Vk (b:=10) (n:=m) "^" "^" hd
   unfold VT at this
   simp only[RI,decide_eq_true_eq]at this
   have h1:48<=d.toNat:=this.1
   have j:d.toNat<=57:=this.2
   unfold gz
   simp only[RI,decide_eq_true_eq]
   exact⟨h1,j⟩
  by_cases h0:m=0
  .subst h0;decide +kernel
  .obtain⟨c,r,e,f⟩:=Ep m "`"
   have i:(iT (m:Int)).cps.toList=c.toNat::r.map Ts:=by rw[fe,e];rfl
   rw[i]at g a ⊢
   have hn:c.toNat≠48:=fun z=>f (W6 (Wn.mp z))
   unfold FT
   rw[if_neg (by simpa using hn),decide_eq_true (show 1<=(c.toNat::r.map Ts).length by simp),decide_eq_true g,R7.mpr a]
   rfl
 exists ok
 obtain⟨n,h0,_,e,i,_⟩:=pK ok
 have:n=x:=AG h0 h.1 i
 unfold xH
 rw[e,this];rfl
theorem Lv{x:Int}(h:Am x):iT x≠"":=fun e=>by
 have:=h.num.1
 rw[e]at this
 revert this
 decide +kernel
theorem aL.rowWd{D:aL}(h:D.ok):(∀w∈D.row,Wd w)/\("":QH)∉D.row/\D.row≠[]/\D.row.length<=3:=by
 have w:=AD.1
 have e:("enrol":QH)∈WA/\("leave":QH)∈WA/\("give":QH)∈WA/\("propose":QH)∈WA/\("withdraw":QH)∈WA/\("want":QH)∈WA/\("unwant":QH)∈WA:=nofun
 have n:("":QH)≠"enrol"/\("":QH)≠"leave"/\("":QH)≠"give"/\("":QH)≠"propose"/\("":QH)≠"withdraw"/\("":QH)≠"want"/\("":QH)≠"unwant":=nofun
 obtain⟨a,b,c,d,f,g,i⟩:=e
 obtain⟨j,k,l,m,o,p,q⟩:=n
 cases D<;>simp only[aL.ok,aL.row]at h ⊢ <;> refine⟨?_,?_,⋯,⋯⟩<;>simp only[QW,RM,or_false,not_or,forall_eq_or_imp,forall_eq]
 .exact⟨w _ a,h.1⟩
 .exact⟨j,Rb h.2.1⟩
 .exact⟨w _ d,h.1.1,h.2.wd⟩
 .exact⟨m,Rb h.1.2.1,Rb (Lv h.2)⟩
 .exact⟨w _ c,h.wd⟩
 .exact⟨l,Rb (Lv h)⟩
 .exact⟨w _ b,h.1⟩
 .exact⟨k,Rb h.2.1⟩
 .exact⟨w _ f,h.1⟩
 .exact⟨o,Rb h.2.1⟩
 .exact⟨w _ g,h.1.1,h.2.1⟩
 .exact⟨p,Rb h.1.2.1,Rb h.2.2.1⟩
 .exact⟨w _ i,h.1.1,h.2.1⟩
 .exact⟨q,Rb h.1.2.1,Rb h.2.2.1⟩
theorem aL.acts{D:aL}(h:D.ok)(s:aB):kD s (Q7 " " D.row)=.deed D:=by
 obtain⟨a,b,c,_⟩:=aL.rowWd h
 rw[gO c a,if_neg b]
 have n:("enrol":QH)≠"purse"/\("leave":QH)≠"purse"/\("leave":QH)≠"enrol"/\("give":QH)≠"purse"/\("give":QH)≠"enrol"/\("give":QH)≠"leave"/\("withdraw":QH)≠"purse"/\("withdraw":QH)≠"enrol"/\("withdraw":QH)≠"leave"/\("withdraw":QH)≠"give"/\("want":QH)≠"propose"/\("unwant":QH)≠"propose"/\("unwant":QH)≠"want":=nofun
 obtain⟨g,i,j,k,l,o,p,q,r,d,e,n12,f⟩:=n
 cases D with
 |enrol z=>show act2 s "enrol" z=_;rw[act2,if_neg g,if_pos rfl]
 |leave z=>show act2 s "leave" z=_;rw[act2,if_neg i,if_neg j,if_pos rfl]
 |give x=>
  show act2 s "give" (iT x)=_
  rw[act2,if_neg k,if_neg l,if_neg o,if_pos rfl,(Am.num h).1,(Am.num h).2];rfl
 |withdraw z=>show act2 s "withdraw" z=_;rw[act2,if_neg p,if_neg q,if_neg r,if_neg d,if_pos rfl]
 |propose z x=>
  show we s "propose" z (iT x)=_
  rw[we,if_pos rfl,(Am.num h.2).1,(Am.num h.2).2];rfl
 |want v m=>show we s "want" v m=_;rw[we,if_neg e,if_pos rfl]
 |unwant v m=>show we s "unwant" v m=_;rw[we,if_neg n12,if_neg f,if_pos rfl]
section
variable {A B:Hp->⇑QI->aB->Prop}{H0 H H':Hp}{F:⇑QI}{s1 s2:aB}{L:⇑(QI×⇑V)}
end
theorem Mj{z:QH}(h:1<=z.length):z≠"":=fun e=>by rw[e]at h;exact absurd h nofun
theorem d8{s:aB}{w:QH}(h:w∈W1):kD s w=kq s w/\Tx w:=by
 have hw:Wd w:=AD.1 w (by
  have:∀w∈W1,w∈WA:=nofun
  exact this w h)
 have e:Q7 " " [w]=w:=rfl
 have f:∀x∈[w],Wd x:=fun x a=>by rw[Rv.mp a];exact hw
 refine⟨?_,by have:=iH (ws:=[w]) ⋯ f;rwa [e]at this⟩
 have:=gO (s:=s) (ws:=[w]) ⋯ f
 rw[e,if_neg]at this
 .exact this
 .intro m
  have:("":QH)∉W1:=nofun
  exact this (by rw[Rv.mp m];exact h)
theorem pY(s:aB):kq s "close"=.close/\kq s "works"=.tell (dH (s.cs.map (bM s)))/\kq s "pot"=.tell (iT s.pot)/\kq s "given"=.tell (iT s.giv)/\kq s "spent"=.tell (iT s.spt):=by
 have n:("works":QH)≠"close"/\("pot":QH)≠"close"/\("pot":QH)≠"works"/\("given":QH)≠"close"/\("given":QH)≠"works"/\("given":QH)≠"pot"/\("spent":QH)≠"close"/\("spent":QH)≠"works"/\("spent":QH)≠"pot"/\("spent":QH)≠"given":=nofun
 obtain⟨b,c,d,e,f,g,h,i,j,a⟩:=n
 exact⟨if_pos rfl,by rw[kq,if_neg b,if_pos rfl],by rw[kq,if_neg c,if_neg d,if_pos rfl],by rw[kq,if_neg e,if_neg f,if_neg g,if_pos rfl],by rw[kq,if_neg h,if_neg i,if_neg j,if_neg a,if_pos rfl]⟩
theorem EZ(s:aB){z:QH}(hz:Jk z):kD s (("purse ":QH)++z)=(if z∈s.ps.map (·.1)then .tell (iT (vP s.ps z))else .no "NoVoter")/\Tx (("purse ":QH)++z):=by
 rw[Kf (w:="purse") nofun]
 have f:∀x∈(["purse",z]:⇑QH),Wd x:=by simp[wk,hz.1]
 refine⟨?_,iH ⋯ f⟩
 rw[gO ⋯ f,if_neg]
 .show act2 s "purse" z=_
  rw[act2,if_pos rfl]
 .intro m
  rcases QW.mp m with m|m
  .exact absurd m nofun
  .exact hz.2.1 (Rv.mp m).symm
def HS(c d:Nat):⇑(⇑Nat)->⇑Nat
 |[]=>[]
 |[p]=>p
 |p::q::r=>p++c::d::HS c d (q::r)
theorem zt(c d:Nat):∀ps:⇑QH,(Q7 ⟨#[c,d]⟩ ps).cps.toList=HS c d (ps.map (·.cps.toList))
 |[]=>rfl
 |[p]=>rfl
 |p::q::r=>by
  have a:=zt c d (q::r)
  show(p++⟨#[c,d]⟩++Q7 ⟨#[c,d]⟩ (q::r)).cps.toList=_
  simp only[TN,VC]
  rw[a]
  simp[HS]
def Ah(c d:Nat)(l:⇑Nat):Prop:=∃u v,l=u++c::d::v
theorem Ah.cons{c d a:Nat}{l:⇑Nat}(h:Ah c d l):Ah c d (a::l):=by
 obtain⟨u,v,rfl⟩:=h
 exact⟨a::u,v,rfl⟩
theorem OV{c d:Nat}(e:c≠d){X Y:⇑Nat}:∀{p q:⇑Nat},p++c::d::X=q++c::d::Y->c∉p->¬Ah c d q->p=q/\X=Y
 |[],[],h,_,_=>by
  simp at h
  exact⟨rfl,h⟩
 |[],[a],h,_,_=>by
  simp at h
  exact absurd h.2.1.symm e
 |[],a::b::q,h,_,f=>by
  simp at h
  exact absurd ⟨[],q,by rw[h.1,h.2.1];rfl⟩ f
 |a::p,[],h,g,_=>by
  simp at h
  exact absurd (by rw[h.1];simp) g
 |a::p,b::q,h,g,f=>by
  simp only[VN,Zm]at h
  obtain⟨i,j⟩:=h
  obtain⟨k,l⟩:=OV e j (fun m=>g (Rm _ m)) (fun m=>f m.cons)
  exact⟨by rw[i,k],l⟩
theorem Ex{c d:Nat}(a:c≠d):∀{ps b:⇑(⇑Nat)},ps≠[]->b≠[]->(∀p∈ps,c∉p)->(∀q∈b,¬Ah c d q)->HS c d ps=HS c d b->ps=b
 |[],_,h,_,_,_,_=>absurd rfl h
 |_,[],_,h,_,_,_=>absurd rfl h
 |[p],[q],_,_,_,_,h=>by rw[show p=q from h]
 |[p],q::g::r,_,_,e,_,h=>by
  have h:p=q++c::d::HS c d (g::r):=h
  exact absurd (by rw[h];simp) (e p ⋯)
 |p::i::r,[q],_,_,_,f,h=>by
  have h:p++c::d::HS c d (i::r)=q:=h
  exact absurd ⟨p,_,h.symm⟩ (f q ⋯)
 |p::i::r,q::g::k,_,_,e,f,h=>by
  have h:p++c::d::HS c d (i::r)=q++c::d::HS c d (g::k):=h
  obtain⟨l,m⟩:=OV a h (e p ⋯) (f q ⋯)
  rw[l,Ex a ⋯ ⋯ (fun x j=>e x (Rm _ j)) (fun x j=>f x (Rm _ j)) m]
theorem oN(x:QH)(c d a b:Nat)(g:b<=x.length)(hn:∀k,a<=k->k<b->¬Zs x ⟨#[c,d]⟩ x.length k):¬Ah c d (aaS x a b).cps.toList:=by
 rintro⟨u,v,hm⟩
 rw[acn]at hm
 have h:x.cps.toList.length=x.length:=by simp[UC]
 have e:=congrArg S8 hm
 simp only[RJ,SX,RN,RB]at e
 refine hn (a+u.length) "`" "`" ⟨?_,?_⟩
 .show a+u.length+2<=x.length
  omega
 .rw[abP]
  show((x.cps.toList.drop (a+u.length)).take 2==[c,d])=ω
  rw[beq_iff_eq]
  have f:x.cps.toList.drop a=u++c::d::v++(x.cps.toList.drop a).drop (b-a):=by
   rw[<-hm,Wq]
  rw[<-List.drop_drop,f]
  simp
theorem si(x:QH)(c d:Nat):∀(b:⇑Nat)(a f:Nat),aaF x ⟨#[c,d]⟩ x.length a b f->(∀k,f<=k->¬Zs x ⟨#[c,d]⟩ x.length k)->∀p∈aa7 x (⟨#[c,d]⟩:QH).length a b,¬Ah c d p.cps.toList
 |[],a,f,h,hn,p,g=>by
  have e:f=a:=h
  subst e
  rw[Rv.mp g]
  exact oN x c d f x.length (Q2 _) fun k j _=>hn k j
 |e::r,a,f,h,hn,p,g=>by
  rcases QW.mp g with rfl|i
  .exact oN x c d a e (by have:=h.2.1.1;omega) h.2.2.1
  .exact si x c d r _ f h.2.2.2 hn p i
theorem BE(x:QH)(c d:Nat)(j:TV x<TV ⟨#[c,d]⟩->False):∀p∈Rg x ⟨#[c,d]⟩,¬Ah c d p.cps.toList:=by
 obtain⟨f,b,hn⟩:=abw x ⟨#[c,d]⟩ (show 1<=2 by decide)
 have a:S2 x ⟨#[c,d]⟩ 0 x.length (x.length+1)=[]->¬Ah c d x.cps.toList:=fun l=>by
  rw[l]at b
  have m:f=0:=b
  subst m
  have:=oN x c d 0 x.length (Q2 _) fun k n _=>hn k n
  rwa [ab1]at this
 unfold Rg
 split
 .rename_i i
  intro p g
  rw[Rv.mp g]
  rw[YD,decide_eq_true_eq,decide_eq_true_eq]at i
  rcases i with h|h
  .rintro⟨u,v,e⟩
   have:=congrArg S8 e
   simp only[RN,RB]at this
   have o:x.cps.toList.length=x.length:=by simp[UC]
   have h:x.length<2:=h
   omega
  .exact absurd h j
 .split
  .rename_i he
   intro p g
   rw[Rv.mp g]
   exact a (List.isEmpty_iff.mp he)
  .rw[X8]
   exact si x c d _ 0 f b hn
theorem Ie{c d:Nat}(x:QH)(a:c<256)(hd:d<256):TV x<TV ⟨#[c,d]⟩->False:=fun h=>by
 have e:TV ⟨#[c,d]⟩=1:=by
  unfold TV
  rw[if_pos (by simp[a,hd])]
 rw[e]at h
 unfold TV at h
 split at h
 .omega
 .split at h<;>omega
theorem iL(x y:QH):Rg x y≠[]:=by
 unfold Rg
 split
 .simp
 .split
  .simp
  .rw[X8]
   obtain⟨p,r,e⟩:=abD x y.length 0 (S2 x y 0 x.length (x.length+1))
   rw[e];simp
theorem mx{c d:Nat}(a:c≠d)(j:c<256)(hd:d<256){ws:⇑QH}(h:ws≠[])(f:∀w∈ws,c∉w.cps.toList):Rg (Q7 ⟨#[c,d]⟩ ws) ⟨#[c,d]⟩=ws:=by
 have e:HS c d (ws.map (·.cps.toList))=HS c d ((Rg (Q7 ⟨#[c,d]⟩ ws) ⟨#[c,d]⟩).map (·.cps.toList)):=by rw[<-zt,<-zt,Tf]
 have:=Ex a (fun e=>h (Ti.mp e)) (fun e=>iL _ _ (Ti.mp e)) (fun p b=>by
  obtain⟨x,g,rfl⟩:=QO.mp b
  exact f x g) (fun p b=>by
  obtain⟨x,g,rfl⟩:=QO.mp b
  exact BE _ c d (Ie _ j hd) x g) e
 exact((VH fun x y i=>UY (YO.mp i)).mp this).symm
def Hs(c:Nat):⇑(⇑Nat)->⇑Nat
 |[]=>[]
 |[p]=>p
 |p::q::r=>p++c::Hs c (q::r)
theorem ze(c:Nat):∀ps:⇑QH,(Q7 ⟨#[c]⟩ ps).cps.toList=Hs c (ps.map (·.cps.toList))
 |[]=>rfl
 |[p]=>rfl
 |p::q::r=>by
  have a:=ze c (q::r)
  show(p++⟨#[c]⟩++Q7 ⟨#[c]⟩ (q::r)).cps.toList=_
  simp only[TN,VC]
  rw[a]
  simp[Hs]
theorem OY{c:Nat}{X Y:⇑Nat}:∀{p q:⇑Nat},p++c::X=q++c::Y->c∉p->c∉q->p=q/\X=Y
 |[],[],h,_,_=>by
  simp at h
  exact⟨rfl,h⟩
 |[],a::q,h,_,d=>by
  simp at h
  exact absurd (by rw[h.1];simp) d
 |a::p,[],h,e,_=>by
  simp at h
  exact absurd (by rw[h.1];simp) e
 |a::p,b::q,h,e,d=>by
  simp only[VN,Zm]at h
  obtain⟨f,g⟩:=h
  obtain⟨i,j⟩:=OY g (fun m=>e (Rm _ m)) (fun m=>d (Rm _ m))
  exact⟨by rw[f,i],j⟩
theorem EB{c:Nat}:∀{ps a:⇑(⇑Nat)},ps≠[]->a≠[]->(∀p∈ps,c∉p)->(∀q∈a,c∉q)->Hs c ps=Hs c a->ps=a
 |[],_,h,_,_,_,_=>absurd rfl h
 |_,[],_,h,_,_,_=>absurd rfl h
 |[p],[q],_,_,_,_,h=>by rw[show p=q from h]
 |[p],q::e::r,_,_,b,_,h=>by
  have h:p=q++c::Hs c (e::r):=h
  exact absurd (by rw[h];simp) (b p ⋯)
 |p::f::r,[q],_,_,_,d,h=>by
  have h:p++c::Hs c (f::r)=q:=h
  exact absurd (by rw[<-h];simp) (d q ⋯)
 |p::f::r,q::e::i,_,_,b,d,h=>by
  have h:p++c::Hs c (f::r)=q++c::Hs c (e::i):=h
  obtain⟨j,k⟩:=OY h (b p ⋯) (d q ⋯)
  rw[j,EB ⋯ ⋯ (fun x g=>b x (Rm _ g)) (fun x g=>d x (Rm _ g)) k]
theorem gh{c:Nat}{ws:⇑QH}(h:ws≠[])(f:∀w∈ws,c∉w.cps.toList):Rg (Q7 ⟨#[c]⟩ ws) ⟨#[c]⟩=ws:=by
 have e:Hs c (ws.map (·.cps.toList))=Hs c ((Rg (Q7 ⟨#[c]⟩ ws) ⟨#[c]⟩).map (·.cps.toList)):=by rw[<-ze,<-ze,Tf]
 have:=EB (fun e=>h (Ti.mp e)) (fun e=>iL _ _ (Ti.mp e)) (fun p a=>by
  obtain⟨x,b,rfl⟩:=QO.mp a
  exact f x b) (fun p a=>by
  obtain⟨x,b,rfl⟩:=QO.mp a
  exact Vg _ c x b) e
 exact((VH fun x y d=>UY (YO.mp d)).mp this).symm
theorem cw:(", ":QH)=⟨#[44,32]⟩/\(": ":QH)=⟨#[58,32]⟩/\("; ":QH)=⟨#[59,32]⟩/\("+":QH)=⟨#[43]⟩/\(" ":QH)=⟨#[32]⟩/\(" of ":QH)=⟨#[32,111,102,32]⟩/\("of":QH)=⟨#[111,102]⟩/\("-":QH)=⟨#[45]⟩:=nofun
def Pl(z:QH):Prop:=∀c∈z.cps.toList,(97<=c/\c<=122)\/(48<=c/\c<=57)
theorem sW{z:QH}(h:bE z=ω):Pl z:=fun c a=>by
 have:=KI h c a
 unfold isLet at this
 simp only[RI,decide_eq_true_eq]at this
 exact .inl this
theorem uf{n:Int}(e:0<=n):∀c∈(iT n).cps.toList,48<=c/\c<=57:=fun c a=>by
 obtain⟨m,rfl⟩:=S5 e
 rw[fe]at a
 obtain⟨d,hd,rfl⟩:=QO.mp a
 have:=Vk (b:=10) (n:=m) "^" "^" hd
 unfold VT at this
 simp only[RI,decide_eq_true_eq]at this
 exact⟨this.1,this.2⟩
theorem yo{n:Int}(a:0<=n):Pl (iT n):=fun c b=>.inr (uf a c b)
theorem Pl.no{z:QH}(h:Pl z){c:Nat}(a:c<48\/(57<c/\c<97)):c∉z.cps.toList:=fun m=>by
 have:=h c m
 omega
theorem fX{a b:QH}{c:Nat}:c∈(a++b).cps.toList↔c∈a.cps.toList\/c∈b.cps.toList:=by rw[c8,Rr]
theorem jc{sep:QH}{c:Nat}:∀{xs:⇑QH},c∈(Q7 sep xs).cps.toList->c∈sep.cps.toList\/∃x∈xs,c∈x.cps.toList
 |[],h=>by cases h
 |[x],h=>.inr ⟨x,⋯,h⟩
 |x::y::r,h=>by
  have h:c∈(x++sep++Q7 sep (y::r)).cps.toList:=h
  rw[fX,fX]at h
  rcases h with(h|h)|h
  .exact .inr ⟨x,⋯,h⟩
  .exact .inl h
  .rcases jc h with z|⟨w,hw,z⟩
   .exact .inl z
   .exact .inr ⟨w,Rm _ hw,z⟩
theorem pB(a:QH):Rh++a=a:=ab2 a
theorem iN(p:QH×Int):cZ p=Q7 " " [p.1,iT p.2]:=by unfold cZ;rw[pB];rfl
theorem oP(r:QH×Int×⇑QH):cN r=Q7 " " [r.1,iT r.2.1,bY r.2.2]:=by
 unfold cN;rw[pB]
 show r.1++" "++iT r.2.1++" "++bY r.2.2=r.1++" "++(iT r.2.1++" "++bY r.2.2)
 simp only[gj]
theorem u7(r:dz):bQ r=Q7 ": " [cZ (r.1,r.2.1),eM r.2.2]:=by
 unfold bQ cZ;rfl
theorem oi{p:QH×Int}(a:bE p.1=ω)(b:0<=p.2):Rg (cZ p) " "=[p.1,iT p.2]:=by
 rw[iN,cw.2.2.2.2.1]
 refine gh ⋯ fun w hw=>?_
 simp only[QW,RM,or_false]at hw
 rcases hw with rfl|rfl
 .exact(sW a).no "`"
 .exact(yo b).no "`"
theorem tY{p:QH×Int}(a:bE p.1=ω)(b:0<=p.2){c:Nat}(d:(c<48/\c≠32)\/(57<c/\c<97)):c∉(cZ p).cps.toList:=fun m=>by
 rw[iN,cw.2.2.2.2.1]at m
 rcases jc m with z|⟨w,hw,z⟩
 .simp at z;omega
 .simp only[QW,RM,or_false]at hw
  rcases hw with rfl|rfl
  .exact(sW a).no "`" z
  .exact(yo b).no "`" z
theorem BW{a:⇑(QH×Int)}(h:∀p∈a,bE p.1=ω/\0<=p.2){c:Nat}(d:(c<48/\c≠32/\c≠44)\/(57<c/\c<97)):c∉(eM a).cps.toList:=fun m=>by
 unfold eM at m
 rw[cw.1]at m
 rcases jc m with z|⟨w,hw,z⟩
 .simp at z;omega
 .obtain⟨p,b,rfl⟩:=QO.mp hw
  exact tY (h p b).1 (h p b).2 "`" z
theorem Cb{a:⇑(QH×Int)}(hn:a≠[])(h:∀p∈a,bE p.1=ω/\0<=p.2):Rg (eM a) ", "=a.map cZ:=by
 unfold eM
 rw[cw.1]
 refine mx "^" "^" "^" (by simpa using hn) fun w hw=>?_
 obtain⟨p,b,rfl⟩:=QO.mp hw
 exact tY (h p b).1 (h p b).2 "`"
theorem A8{r:dz}(a:bE r.1=ω)(b:0<=r.2.1)(h:∀p∈r.2.2,bE p.1=ω/\0<=p.2):Rg (bQ r) ": "=[cZ (r.1,r.2.1),eM r.2.2]:=by
 rw[u7,cw.2.1]
 refine mx "^" "^" "^" ⋯ fun w hw=>?_
 simp only[QW,RM,or_false]at hw
 rcases hw with rfl|rfl
 .exact tY a b "`"
 .exact BW h "`"
theorem A9{a:⇑dz}(hn:a≠[])(h:∀r∈a,bE r.1=ω/\0<=r.2.1/\∀p∈r.2.2,bE p.1=ω/\0<=p.2):Rg (Q7 "; " (a.map bQ)) "; "=a.map bQ:=by
 rw[cw.2.2.1]
 refine mx "^" "^" "^" (by simpa using hn) fun w hw=>?_
 obtain⟨r,b,rfl⟩:=QO.mp hw
 obtain⟨c,d,e⟩:=h r b
 intro m
 rw[u7,cw.2.1]at m
 rcases jc m with z|⟨w,hw,z⟩
 .simp at z
 .simp only[QW,RM,or_false]at hw
  rcases hw with rfl|rfl
  .exact tY c d "`" z
  .exact BW e "`" z
theorem yr{ns:⇑QH}(h:∀z∈ns,bE z=ω){c:Nat}(a:(c<48/\c≠43/\c≠45)\/(57<c/\c<97)):c∉(bY ns).cps.toList:=fun m=>by
 unfold bY at m
 split at m
 .rw[cw.2.2.2.2.2.2.2]at m
  simp at m;omega
 .rw[cw.2.2.2.1]at m
  rcases jc m with z|⟨w,hw,z⟩
  .simp at z;omega
  .exact(sW (h w hw)).no "`" z
theorem BA{r:QH×Int×⇑QH}(a:bE r.1=ω)(b:0<=r.2.1)(c:∀z∈r.2.2,bE z=ω):Rg (cN r) " "=[r.1,iT r.2.1,bY r.2.2]:=by
 rw[oP,cw.2.2.2.2.1]
 refine gh ⋯ fun w hw=>?_
 simp only[QW,RM,or_false]at hw
 rcases hw with rfl|rfl|rfl
 .exact(sW a).no "`"
 .exact(yo b).no "`"
 .exact yr c "`"
theorem A1{a:⇑(QH×Int×⇑QH)}(hn:a≠[])(h:∀r∈a,bE r.1=ω/\0<=r.2.1/\∀z∈r.2.2,bE z=ω):Rg (dH a) ", "=a.map cN:=by
 unfold dH
 rw[if_neg hn,cw.1]
 refine mx "^" "^" "^" (by simpa using hn) fun w hw=>?_
 obtain⟨r,b,rfl⟩:=QO.mp hw
 obtain⟨c,d,e⟩:=h r b
 intro m
 rw[oP,cw.2.2.2.2.1]at m
 rcases jc m with z|⟨w,hw,z⟩
 .simp at z
 .simp only[QW,RM,or_false]at hw
  rcases hw with rfl|rfl|rfl
  .exact(sW c).no "`" z
  .exact(yo d).no "`" z
  .exact yr e "`" z
theorem kC{ns:⇑QH}(hn:ns≠[])(h:∀z∈ns,bE z=ω):Rg (bY ns) "+"=ns:=by
 unfold bY
 rw[if_neg hn,cw.2.2.2.1]
 exact gh hn fun w hw=>(sW (h w hw)).no "`"
theorem Jb{a b:QH}{c:Nat}(h:c∈a.cps.toList)(n:c∉b.cps.toList):a≠b:=fun e=>n (by rw[<-e];exact h)
theorem JC{sep:QH}{c:Nat}:∀{xs:⇑QH},c∈sep.cps.toList->2<=xs.length->c∈(Q7 sep xs).cps.toList
 |[],_,h=>by simp at h
 |[_],_,h=>by simp at h
 |x::y::r,a,_=>by
  show c∈(x++sep++Q7 sep (y::r)).cps.toList
  rw[fX,fX]
  exact .inl (.inr a)
theorem EF{sep:QH}{c:Nat}:∀{xs:⇑QH}{x:QH},x∈xs->c∈x.cps.toList->c∈(Q7 sep xs).cps.toList
 |[y],x,h,a=>by rw[Rv.mp h]at a;exact a
 |y::z::r,x,h,a=>by
  show c∈(y++sep++Q7 sep (z::r)).cps.toList
  rw[fX]
  rcases QW.mp h with e|h
  .rw[e]at a;exact .inl (fX.mpr (.inl a))
  .exact .inr (EF h a)
theorem GL{a:⇑(QH×Int×⇑QH)}(hn:a≠[]):dH a≠"none":=by
 unfold dH
 rw[if_neg hn]
 obtain⟨r,b⟩:=List.exists_mem_of_ne_nil _ hn
 refine Jb (c:=32) (EF (x:=cN r) (QO.mpr ⟨r,b,rfl⟩) ?_) nofun
 rw[oP]
 exact JC nofun ⋯
theorem vn:Rg "-" "+"=([("-":QH)]:⇑QH):=by
 have:=gh (c:=43) (ws:=[("-":QH)]) ⋯ nofun
 rw[<-cw.2.2.2.1]at this
 exact this
theorem Fg{ns:⇑QH}(hn:ns≠[])(h:∀z∈ns,bE z=ω):bY ns≠"-":=fun e=>by
 have a:=kC hn h
 rw[e]at a
 rw[vn]at a
 have:=h "-" (by rw[<-a];simp)
 revert this
 decide +kernel
theorem Jy{a:⇑dz}{g:Int}(hn:a≠[]):eO a g≠"none":=by
 unfold eO
 rw[if_neg hn]
 refine Jb (c:=32) ?_ nofun
 rw[fX,fX]
 exact .inl (.inr nofun)
theorem yb(sep x:QH):∀xs:⇑QH,∃t,Q7 sep (x::xs)=x++t
 |[]=>⟨Rh,(abV x).symm⟩
 |y::r=>⟨sep++Q7 sep (y::r),gj _ _ _⟩
theorem qY(sep:QH):∀{xs ys:⇑QH},xs≠[]->ys≠[]->Q7 sep (xs++ys)=Q7 sep xs++sep++Q7 sep ys
 |[],_,h,_=>absurd rfl h
 |[x],y::r,_,_=>rfl
 |x::a::r,ys,_,h=>by
  show x++sep++Q7 sep (a::r++ys)=x++sep++Q7 sep (a::r)++sep++Q7 sep ys
  rw[qY sep ⋯ h]
  simp only[gj]
theorem Ds{a:⇑dz}{g:Int}(hn:a≠[])(j:0<=g)(h:∀r∈a,bE r.1=ω/\0<=r.2.1/\r.2.2≠[]/\∀p∈r.2.2,bE p.1=ω/\0<=p.2):
  ∃ws:⇑QH,Rg (eO a g) " "=ws++[("of":QH),iT g]/\4<=ws.length/\Q7 " " ws=Q7 "; " (a.map bQ):=by
 refine⟨Rg (Q7 "; " (a.map bQ)) " ",?_,?_,Tf _ _⟩
 .have k:∀w∈Rg (Q7 "; " (a.map bQ)) " "++[("of":QH),iT g],32∉w.cps.toList:=fun w hw=>by
   rcases Rr.mp hw with hw|hw
   .rw[cw.2.2.2.2.1]at hw
    exact Vg _ 32 w hw
   .simp only[QW,RM,or_false]at hw
    rcases hw with rfl|rfl
    .decide +kernel
    .exact(yo j).no "`"
  have e:eO a g=Q7 " " (Rg (Q7 "; " (a.map bQ)) " "++[("of":QH),iT g]):=by
   rw[qY " " (iL _ _) ⋯,Tf]
   unfold eO
   rw[if_neg hn,pB]
   show _++" of "++iT g=_++" "++("of"++" "++iT g)
   rw[show(" of ":QH)=" "++"of"++" " by decide +kernel]
   simp only[gj]
  rw[e,cw.2.2.2.2.1]at *
  exact gh ⋯ k
 .match a,hn,h with
  |r::f,_,h=>
   obtain⟨l,n,o,q⟩:=h r ⋯
   obtain⟨p,pp,i⟩:=List.exists_cons_of_ne_nil o
   obtain⟨b,s⟩:=yb "; " (bQ r) (f.map bQ)
   obtain⟨d,t⟩:=yb ", " (cZ p) (pp.map cZ)
   have u:=q p (by rw[i];simp)
   have e:Q7 "; " ((r::f).map bQ)=Q7 " " ([r.1,iT r.2.1++⟨#[58]⟩,p.1]++Rg (iT p.2++(d++b)) " "):=by
    rw[qY " " ⋯ (iL _ _),Tf,Rk,s]
    unfold bQ eM
    rw[i,Rk,t,iN p]
    show Rh++r.1++" "++iT r.2.1++": "++(p.1++" "++iT p.2++d)++b=r.1++" "++(iT r.2.1++⟨#[58]⟩++" "++p.1)++" "++(iT p.2++(d++b))
    rw[pB,show(": ":QH)=⟨#[58]⟩++" " by decide +kernel]
    simp only[gj]
   have:=gh (c:=32) (ws:=[r.1,iT r.2.1++⟨#[58]⟩,p.1]++Rg (iT p.2++(d++b)) " ") ⋯ fun w hw=>by
    rcases Rr.mp hw with hw|hw
    .simp only[QW,RM,or_false]at hw
     rcases hw with rfl|rfl|rfl
     .exact(sW l).no "`"
     .intro m
      rw[fX]at m
      rcases m with m|m
      .exact(yo n).no "`" m
      .simp at m
     .exact(sW u.1).no "`"
    .rw[cw.2.2.2.2.1]at hw
     exact Vg _ 32 w hw
   rw[e]
   rw[<-cw.2.2.2.2.1]at this
   rw[this,RN]
   have:=SF.mpr (iL (iT p.2++(d++b)) " ")
   simp only[RB,WB]
   omega
def NB:Int:=10 ^ 150
structure Num(n:Int):Prop where
 h0:0<=n
 h1:n<NB
theorem Num.len{n:Int}(h:Num n):1<=(iT n).length/\(iT n).length<=150:=by
 refine⟨?_,AH h.h0 "^" h.h1⟩
 obtain⟨m,rfl⟩:=S5 h.h0
 rw[<-bw,fe,QR]
 have:TK 10 m≠[]:=by
  rw[XE (b:=10) "^"]
  split<;>simp
 exact SF.mpr this
theorem Ej{n:Int}(b:0<=n):(iT n).cps.toList.length=1\/∃c r,(iT n).cps.toList=c::r/\49<=c:=by
 have a:=uf b
 obtain⟨m,rfl⟩:=S5 b
 rw[fe]at a ⊢
 by_cases e:m=0
 .subst e;left;decide
 .obtain⟨c,r,e,d⟩:=Ep m "`"
  rw[e]at a ⊢
  refine .inr ⟨c.toNat,r.map Ts,rfl,?_⟩
  have f:=a c.toNat ⋯
  have hn:c.toNat≠48:=fun z=>d (W6 (Wn.mp z))
  omega
theorem Num.int{n:Int}(h:Num n):Vo (iT n)=ψ n:=by
 obtain⟨j,k⟩:=h.len
 have d:=bw (iT n)
 have hd:VG (iT n).cps.toList:=fun c a=>uf h.h0 c a
 have b:(iT n).cps.toList≠[]:=fun e=>by rw[e]at d;simp at d;omega
 rw[Y4 hd b "`"]
 have e:=XG ((iT n).cps.toList.length-1) (iT n).cps.toList "`" hd (by rcases Ej h.h0 with z|z;exact .inl "`";exact .inr z)
 have f:=WO (SY (iT n).cps.toList)
 have g:iT ((SY (iT n).cps.toList:Nat):Int)=iT n:=by
  refine UY ?_
  apply WC
  rw[show(iT ((SY (iT n).cps.toList:Nat):Int)).cps.toList=_ from f,e,QY]
  have:∀c∈(iT n).cps.toList,(Ts ∘ Uw) c=c:=fun c a=>by
   have:=hd c a
   have i:c.isValidChar:=.inl "`"
   show(Uw c).toNat=c
   rw[Uw,dif_pos i]
   rfl
  rw[RT this,TR]
 rw[AG "`" h.h0 g]
theorem lP{n:Int}(a:0<=n)(h:n<=1000000000000):Num n:=⟨a,Te h nofun⟩
def dI(ps a:⇑(QH×Int)):⇑(QH×Int):=ps.map fun p=>(p.1,p.2-vP a p.1)
theorem dG(ps a:⇑(QH×Int)):(dI ps a).map (·.1)=ps.map (·.1):=by
 unfold dI
 rw[QY]
 rfl
theorem Hi(ps:⇑(QH×Int)):dI ps []=ps:=by
 unfold dI
 refine(RT fun p _=>?_).trans (TR _)
 show(p.1,p.2-0)=p
 rw[Wz]
theorem Dp:∀{ps:⇑(QH×Int)}{v:QH},v∉ps.map (·.1)->vP ps v=0
 |[],_,_=>rfl
 |p::r,v,h=>by
  have h:v∉p.1::r.map (·.1):=h
  unfold vP
  rw[if_neg (fun e=>h (by rw[e];simp))]
  exact Dp fun m=>h (Rm _ m)
theorem AE:∀{ps:⇑(QH×Int)}{v w:QH}{a:Int},v∉ps.map (·.1)->vP (ps++[(v,a)]) w=if w=v then a else vP ps w
 |[],v,w,a,_=>by
  show(if v=w then a else 0)=_
  by_cases e:w=v
  .rw[if_pos e,if_pos e.symm]
  .rw[if_neg e,if_neg fun z=>e z.symm];rfl
 |p::r,v,w,a,h=>by
  have h:v∉p.1::r.map (·.1):=h
  show(if p.1=w then p.2 else vP (r++[(v,a)]) w)=if w=v then a else(if p.1=w then p.2 else vP r w)
  rw[AE fun m=>h (Rm _ m)]
  by_cases e:p.1=w
  .rw[if_pos e,if_pos e,if_neg (fun z=>h (by rw[<-z,<-e];simp))]
  .rw[if_neg e,if_neg e]
theorem ED{ps a:⇑(QH×Int)}(b:(ps.map (·.1)).Nodup){v:QH}(c:v∈ps.map (·.1)):vP (dI ps a) v=vP ps v-vP a v:=by
 refine nV (by rw[dG];exact b) ?_
 exact QO.mpr ⟨(v,vP ps v),ji c,rfl⟩
theorem FU{ps b:⇑(QH×Int)}(c:(ps.map (·.1)).Nodup){v:QH}{a:Int}(hn:v∉b.map (·.1)):Kw (dI ps b) v (vP ps v-a)=dI ps (b++[(v,a)]):=by
 unfold Kw dI
 rw[QY]
 refine RT fun p d=>?_
 simp only[Xi]
 rw[AE hn]
 by_cases e:p.1=v
 .rw[if_pos e,if_pos e,nV c (v:=v) (x:=p.2) (by rw[<-e];exact d)]
 .rw[if_neg e,if_neg e]
structure HL(names:⇑QH)(ps pays:⇑(QH×Int)):Prop where
 nd:(pays.map (·.1)).Nodup
 ne:pays≠[]
 ok:∀p∈pays,p.1∈names/\p.1∈ps.map (·.1)/\1<=p.2/\p.2<=vP ps p.1
noncomputable def Lk(g:Int):⇑dz->⇑iW->⇑(QH×Int)->⇑iW->⇑(QH×Int)->Prop
 |[],W,ps,c,b=>c=W/\b=ps
 |r::d,W,ps,c,b=>(∃a,(r.1,r.2.1,a)∈W/\HL a ps r.2.2)/\(r.2.2.map (·.2)).sum=r.2.1*g/\Lk g d (W.filter fun w=>decide (w.1≠r.1)) (dI ps r.2.2) c b
def Bm(s:aB)(done:⇑Nat):⇑iW:=((Q1 s.cs.length).filter fun k=>!decide (k∈done)).map fun k=>bM s (s.cs.getD k ("",0))
theorem E5{s:aB}(a:(s.cs.map (·.1)).Nodup){done:⇑Nat}{k:Nat}(c:k<s.cs.length):(Bm s done).filter (fun w=>decide (w.1≠(s.cs.getD k ("",0)).1))=Bm s (k::done):=by
 unfold Bm
 rw[Uj,Xu]
 refine congrArg _ (SJ fun j b=>?_)
 have b:=R1.mp b
 simp only[Xi]
 have:((bM s (s.cs.getD j ("",0))).1≠(s.cs.getD k ("",0)).1)↔j≠k:=⟨fun h e=>h (by rw[e];rfl),fun h e=>h (ma a b c e)⟩
 rw[RZ]
 simp only[RI,decide_eq_true_eq,Bool.not_eq_true',decide_eq_false_iff_not,QW,not_or]
 rw[this]
theorem pj:∀{l:⇑(QH×Int)},(∀p∈l,0<=p.2)->((l.filter fun p=>decide (0<p.2)).map (·.2)).sum=(l.map (·.2)).sum
 |[],_=>rfl
 |p::r,h=>by
  have a:=pj (l:=r) fun q b=>h q (Rm _ b)
  have c:=h p ⋯
  by_cases e:0<p.2
  .rw[Wb (by simpa using e),Rk,RK,a,Rk,RK]
  .rw[V5 (by simpa using e),a,Rk,RK]
   omega
theorem BU{l:⇑(QH×Int)}{f:QH×Int->Bool}(h:(l.map (·.1)).Nodup):((l.filter f).map (·.1)).Nodup:=U1 (U9 _ VI) h
section
variable {s:aB}{left:⇑Int}(hl:left.length=s.ps.length)(nd:(s.ps.map (·.1)).Nodup)
include hl nd
theorem Io{done:⇑Nat}{k:Nat}{L:Int}(F:∀i,0<=PF left i)(nx:Nx (aW (bg s) (aq s)) (PF left) done k L)(ex:jd (aW (bg s) (aq s)).v (aW (bg s) (aq s)).W (PF left) k L=(aW (bg s) (aq s)).c k)(G:∀p∈s.cs,1<=p.2):
  k<s.cs.length/\HL (bM s (s.cs.getD k ("",0))).2.2 ((s.ps.map (·.1)).zip left) (aT s (k,L,b9 (aq s) left k L)).2.2/\((aT s (k,L,b9 (aq s) left k L)).2.2.map (·.2)).sum=(s.cs.getD k ("",0)).2*(cO s:Int)/\dI ((s.ps.map (·.1)).zip left) (aT s (k,L,b9 (aq s) left k L)).2.2=(s.ps.map (·.1)).zip (dU (aq s) left k L):=by
 have t:k<s.cs.length:=by have:=nx.lt;simpa[aW,bg]using this
 have S:=nx.pos
 have j:=yg (aq s) left k L
 have l:(s.ps.map (·.1)).length=left.length:=by rw[QR,hl]
 have u:((s.ps.map (·.1)).zip (b9 (aq s) left k L)).map (·.1)=s.ps.map (·.1):=mn (by rw[j,l])
 have H:((s.ps.map (·.1)).zip left).map (·.1)=s.ps.map (·.1):=mn l.symm
 have B:∀i,i<left.length->(b9 (aq s) left k L).getD i 0=if WR (aq s) i k=ω then min (left.getD i 0) L else 0:=fun i hi=>by
  simp[b9,wA,PF,Q3,hi]
 have C:∀p∈(s.ps.map (·.1)).zip (b9 (aq s) left k L),0<=p.2:=fun p o=>by
  have:=(T7 (a:=p.1) (b:=p.2) o).2
  obtain⟨i,_,e⟩:=QO.mp this
  have hi:=F i
  rw[<-e]
  unfold wA
  split<;>omega
 have z:(aT s (k,L,b9 (aq s) left k L)).2.2=((s.ps.map (·.1)).zip (b9 (aq s) left k L)).filter fun p=>decide (0<p.2):=rfl
 have g:((aT s (k,L,b9 (aq s) left k L)).2.2.map (·.2)).sum=(s.cs.getD k ("",0)).2*(cO s:Int):=by
  rw[z,pj C,Xx (by rw[j,l];exact Q2 _),<-uo t,<-ex]
  show _=sumTo (aq s).length _
  rw[show(aq s).length=left.length by simp[aq,hl]]
  rfl
 have I:0<(cO s:Int):=by exact_mod_cast cS s.ps.length (s.cs.length+1)
 have T:=G _ (getD_mem (xs:=s.cs) ("",0) t)
 exists t,⟨?_,?_,?_⟩,g
 .rw[z]
  exact BU (by rw[u];exact nd)
 .intro e
  rw[e]at g
  have:0<(s.cs.getD k ("",0)).2*(cO s:Int):=ZC "`" I
  have g:(0:Int)=(s.cs.getD k ("",0)).2*(cO s:Int):=g
  omega
 .intro p o
  have J:=o
  rw[z]at o
  obtain⟨w,h⟩:=Ra.mp o
  have h:=of_decide_eq_true h
  obtain⟨i,hi,D⟩:=Sa w
  have f:i<s.ps.length:=by simp at hi;omega
  have d:i<left.length:=by omega
  have y:(s.ps.map (·.1)).getD i ("":QH)=p.1:=by
   have:=zip_get (ns:=s.ps.map (·.1)) (xs:=b9 (aq s) left k L) (i:=i) (by simpa using f) (by rw[j];exact d)
   rw[Rl,QZ hi]at this
   rw[show some (((s.ps.map (·.1)).zip (b9 (aq s) left k L))[i])=ψ p by rw[D]]at this
   exact(congrArg Zf this).symm
  have A:(b9 (aq s) left k L).getD i 0=p.2:=by
   have:=zip_get (ns:=s.ps.map (·.1)) (xs:=b9 (aq s) left k L) (i:=i) (by simpa using f) (by rw[j];exact d)
   rw[Rl,QZ hi]at this
   rw[show some (((s.ps.map (·.1)).zip (b9 (aq s) left k L))[i])=ψ p by rw[D]]at this
   exact(congrArg Prod.snd this).symm
  rw[B i d]at A
  have hw:WR (aq s) i k=ω:=by
   by_cases hw:WR (aq s) i k=ω
   .exact hw
   .rw[if_neg hw]at A;omega
  rw[if_pos hw]at A
  have n:p.1∈s.ps.map (·.1):=by rw[<-y];exact getD_mem _ (by simpa using f)
  exists ?_,by rw[H];exact n,by omega
  .rw[B6 f t,decide_eq_true_eq]at hw
   rw[map_getD (fun p:QH×Int=>p.1) ("",0) "" f]at y
   rw[y]at hw
   exact Ra.mpr ⟨n,decide_eq_true hw⟩
  .rw[<-y,L4 (xs:=left) l.symm nd (by simpa using f)]
   omega
 .refine T5 (by simp[dI,dU]) fun i K U=>?_
  have f:i<s.ps.length:=by simp[dI]at K;omega
  have d:i<left.length:=by omega
  have M:(dU (aq s) left k L)[i]'(by rw[di];exact d)=left[i]'d-(if WR (aq s) i k=ω then min (left[i]'d) L else 0):=by
   simp[dU,BQ,wA,PF,Q3,d]
  have pv:vP (aT s (k,L,b9 (aq s) left k L)).2.2 (s.ps[i]).1=if WR (aq s) i k=ω then min (left[i]'d) L else 0:=by
   have r:=B i d
   have N:left.getD i 0=left[i]:=by simp[Q3,d]
   rw[N]at r
   have hm:((s.ps[i]).1,(b9 (aq s) left k L).getD i 0)∈(s.ps.map (·.1)).zip (b9 (aq s) left k L):=by
    have:=getD_mem (xs:=(s.ps.map (·.1)).zip (b9 (aq s) left k L)) (i:=i) (("",0):QH×Int) "%"
    rw[zip_get (by simpa using f) "`"]at this
    have e:(s.ps.map (·.1)).getD i ("":QH)=(s.ps[i]).1:=by simp[Q3,f]
    rwa [e]at this
   rw[<-r]
   by_cases h:0<(b9 (aq s) left k L).getD i 0
   .exact nV (BU (by rw[u];exact nd)) (Ra.mpr ⟨hm,decide_eq_true h⟩)
   .have w:=C _ hm
    have w:0<=(b9 (aq s) left k L).getD i 0:=w
    rw[Dp]
    .omega
    .intro m
     obtain⟨q,O,e⟩:=QO.mp m
     obtain⟨P,E⟩:=Ra.mp O
     have E:=of_decide_eq_true E
     have Q:=nV (ps:=(s.ps.map (·.1)).zip (b9 (aq s) left k L)) (by rw[u];exact nd) (v:=q.1) (x:=q.2) P
     have R:=nV (ps:=(s.ps.map (·.1)).zip (b9 (aq s) left k L)) (by rw[u];exact nd) hm
     rw[e,R]at Q
     omega
  simp only[dI,Ui,YT,M]
  rw[pv]
end
theorem EJ{s:aB}(e:(s.ps.map (·.1)).Nodup)(a:(s.cs.map (·.1)).Nodup)(f:∀p∈s.cs,1<=p.2):∀{run:⇑(Nat×Int)}{left:⇑Int}{done:⇑Nat},left.length=s.ps.length->(∀i,0<=PF left i)->eN (aW (bg s) (aq s)) (PF left) done run->
  Lk (cO s) ((aE (aq s) left run).map (aT s)) (Bm s done) ((s.ps.map (·.1)).zip left) (Bm s ((run.map (·.1)).reverse++done)) ((s.ps.map (·.1)).zip (bK (aq s) left run))
 |[],left,done,c,d,h=>⟨rfl,rfl⟩
 |(k,L)::r,left,done,c,d,h=>by
  cases h with
  |step g l rest=>
   obtain⟨j,po,m,n⟩:=Io c e d g l f
   have b:left.length=(aq s).length:=by simp[aq,c]
   rw[aE,Rk,bK]
   exists ⟨_,?_,po⟩,m
   .refine QO.mpr ⟨k,Ra.mpr ⟨R1.mpr j,by simpa using g.new⟩,rfl⟩
   .have o:=E5 (done:=done) a j
    rw[show(aT s (k,L,b9 (aq s) left k L)).1=(s.cs.getD k ("",0)).1 from rfl,o,n]
    have q:=EJ e a f (run:=r) (left:=dU (aq s) left k L) (done:=k::done) (by rw[di];exact c) (fun i=>by rw[dC b];exact qV (d i)) (by rw[dC b];exact rest)
    rw[show(((k,L)::r).map (·.1)).reverse++done=(r.map (·.1)).reverse++k::done by simp]
    exact q
theorem Jd{T:oB}(q:∀k,k<T.n->1<=T.c k):∀(m:Nat){p:Nat->Int}{done:⇑Nat},T.n<=done.length+m->done.Nodup->(∀k∈done,k<T.n)->(∀i,0<=p i)->∃run,Run T p done run
 |0,p,done,hm,d,hd,f=>by
  refine⟨[],.stop fun k g hn=>?_⟩
  have:=eY T.n (k::done) (RC.mpr ⟨hn,d⟩) (fun j l=>by
   rcases QW.mp l with e|e
   .rw[e];exact g
   .exact hd j e)
  rw[RB]at this
  omega
 |m+1,p,done,hm,d,hd,f=>by
  by_cases h:∃k,k<T.n/\k∉done/\T.c k<=Cn T.v T.W p k
  .obtain⟨t,a,b,c⟩:=h
   obtain⟨k,L,o⟩:=F9 (fun i _=>f i) q a b c
   obtain⟨r,s⟩:=Jd q m (p:=BQ T.W p k L) (done:=k::done) (by rw[RB];omega) (RC.mpr ⟨o.new,d⟩) (fun j l=>by
    rcases QW.mp l with e|e
    .rw[e];exact o.lt
    .exact hd j e) (fun i=>qV (f i))
   exact⟨_,.step o s⟩
  .refine⟨[],.stop fun k g hn=>?_⟩
   rcases S3 (Cn T.v T.W p k) (T.c k)with z|z
   .exact z
   .exact absurd ⟨k,g,hn,z⟩ h
theorem EK{s:aB}(g:jW s)(b:s.ps≠[]):∃run,eN (aW (bg s) (aq s)) (PF (av s)) [] run:=by
 have G:=g.town b
 have d:(bg s).length=s.cs.length:=by simp[bg]
 have e:∀k,k<(aW (bg s) (aq s)).n->1<=(aW (bg s) (aq s)).c k:=fun k a=>by
  have a:k<s.cs.length:=by simpa[aW,bg]using a
  rw[uo a]
  have l:=(g.cb _ (getD_mem (xs:=s.cs) ("",0) a)).1
  have f:0<(cO s:Int):=by exact_mod_cast cS s.ps.length (s.cs.length+1)
  have:=ZC (show 0<(s.cs.getD k ("",0)).2 by omega) f
  omega
 obtain⟨run,j⟩:=Jd e (aW (bg s) (aq s)).n (p:=PF (av s)) (done:=[]) ⋯ .nil (fun _ h=>nomatch h) (y9 G.p0)
 refine⟨run,yT (T:=aW (bg s) (aq s)) G.v20 (fun k a=>?_) j .nil (fun _ h=>nomatch h) fun i hi=>?_⟩
 .show _∣(bg s).getD k 0*((kd (aq s).length ^ ((bg s).length+1):Nat):Int)
  exact Vb (fu (SA _)) (VU _ _)
 .have hi:i<(aq s).length:=hi
  have:=G.pd ((av s).getD i 0) (getD_mem _ (by rw[G.pl];exact hi))
  exact this
theorem F1{s:aB}(g:jW s)(u:(s.ps.map (·.1)).Nodup)(d:(s.cs.map (·.1)).Nodup)(e:s.ps≠[])(v:s.cs≠[]):∃o c,Lk (cO s) (toldOf s) (s.cs.map (bM s)) (s.ps.map fun p=>(p.1,p.2*(cO s:Int))) o c/\o=(aC s).cs.map (bM (aC s))/\c.map (fun p=>(p.1,p.2/(cO s:Int)))=(aC s).ps/\c.map (·.1)=s.ps.map (·.1)/\(∀p∈c,0<=p.2)/\(aC s).spt=s.spt+((toldOf s).map (·.2.1)).sum/\(aC s).giv=s.giv/\TD (aC s)/\(toldOf s=[]->d6 s="none"):=by
 obtain⟨run,n⟩:=EK g e
 have q:=p9 n
 have f:¬(s.ps=[]\/s.cs=[]):=fun z=>by rcases z with z|z;exact e z;exact v z
 have j:aC s=cm s run:=by rw[<-q];exact if_neg f
 have l:(av s).length=s.ps.length:=by simp[av]
 have G:=g.town e
 have cl:=EJ u d (fun p e=>(g.cb p e).1) l (y9 G.p0) n
 have w:(s.ps.map (·.1)).zip (av s)=s.ps.map fun p=>(p.1,p.2*(cO s:Int)):=by
  unfold av
  rw[List.zip_map']
 have A:Bm s []=s.cs.map (bM s):=by
  unfold Bm
  rw[show((Q1 s.cs.length).filter fun k=>!decide (k∈([]:⇑Nat)))=Q1 s.cs.length from Sd.mpr fun _ _=>by simp]
  exact aM (bM s) ("",0) s.cs
 obtain⟨_,B⟩:=dg n
 have m:(aZ (av s) (aE (aq s) (av s) run)).length=s.ps.length:=by rw[gR];exact l
 have C:=CV (s:=s) (left:=aZ (av s) (aE (aq s) (av s) run)) (g:=cO s) d m fun x D=>(B x D).1
 rw[w,A]at cl
 have t:toldOf s=(aE (aq s) (av s) run).map (aT s):=by unfold toldOf;rw[q]
 rw[<-t]at cl
 exists _,_,cl,?_,?_,?_,?_,?_,?_,?_
 .rw[j]
  refine Ux ?_ C.symm
  unfold Bm
  refine congrArg _ (SJ fun k _=>?_)
  rw[jb]
  simp
 .rw[j]
  show((s.ps.map (·.1)).zip (bK (aq s) (av s) run)).map (fun p=>(p.1,p.2/(cO s:Int)))=(s.ps.map (·.1)).zip ((aZ (av s) (aE (aq s) (av s) run)).map (· / (cO s:Int)))
  rw[cR,List.zip_map_right]
  rfl
 .rw[mn]
  rw[<-cR,m,QR]
 .intro p e
  have:=(T7 (a:=p.1) (b:=p.2) e).2
  have E:∀(run:⇑(Nat×Int))(ps:⇑Int),(∀x∈ps,0<=x)->∀x∈bK (aq s) ps run,0<=x:=fun run=>by
   induction run with
   |nil=>exact fun ps h=>h
   |cons x r F=>
    intro ps h
    obtain⟨k,L⟩:=x
    rw[bK]
    refine F _ fun y H=>?_
    obtain⟨i,_,rfl⟩:=QO.mp H
    exact qV (y9 h i)
  exact E run _ G.p0 _ this
 .rw[j,t];rfl
 .rw[j];rfl
 .rw[j];exact TD.closed d n
 .intro h
  unfold d6
  rw[if_neg f,h]
  exact if_pos rfl
structure Al(rs:⇑iW):Prop where
 l:rs.length<=12
 ok:∀r∈rs,bE r.1=ω/\(1<=r.2.1/\r.2.1<=1000000000000)/\r.2.2.length<=20/\∀z∈r.2.2,bE z=ω
theorem mL.wr{s:aB}(g:mL s):Al (s.cs.map (bM s)):=by
 refine⟨by rw[QR];exact g.g.n12,fun r hr=>?_⟩
 obtain⟨p,hp,rfl⟩:=QO.mp hr
 refine⟨g.nc p hp,g.g.cb p hp,?_,fun z hz=>?_⟩
 .refine QV (Sb _ _) ?_
  rw[QR];exact g.g.v20
 .obtain⟨v,a,rfl⟩:=QO.mp (Ra.mp hz).1
  exact g.nv v a
theorem Al.asc{rs:⇑iW}(h:Al rs):∀r∈rs,aU r.1/\∀z∈r.2.2,aU z:=fun r hr=>⟨fi (h.ok r hr).1,fun z hz=>fi ((h.ok r hr).2.2.2 z hz)⟩
theorem iy{z:QH}(h:bE z=ω):Jk z:=⟨N7 h,Mj (cy h).1,by have:=(cy h).2;omega⟩
def d4(lp lw:QI)(rows:⇑js):⇑QI:=lp::lw::rows.map (·.w)
structure pO(H:Hp)(lp lw:QI)(s:aB)(rows:⇑js):Prop where
 hp:H lp=ψ (.lst ((s.ps.map (·.1)).map V.str))
 hw:H lw=ψ (.lst (rows.map fun r=>V.ref r.t))
 hr:∀r∈rows,r.at H
 nd:(d4 lp lw rows).Nodup
 ec:s.cs=rows.map fun r=>(r.n,r.x)
 ew:∀v n,(v,n)∈s.ws↔∃r∈rows,r.n=n/\v∈r.zs
 zs:∀r∈rows,r.zs.Nodup/\∀z∈r.zs,z∈s.ps.map (·.1)
section
variable {H H':Hp}{lp lw:QI}{L:⇑QI}{s:aB}{rows:⇑js}
theorem pO.there(x:pO H lp lw s rows):∀a∈d4 lp lw rows,H a≠none:=by
 intro a ha
 unfold d4 at ha
 simp only[QW]at ha
 rcases ha with rfl|rfl|ha
 .rw[x.hp];simp
 .rw[x.hw];simp
 .obtain⟨r,hr,rfl⟩:=QO.mp ha
  rw[(x.hr r hr).2];simp
theorem pO.but(x:pO H lp lw s rows)(b:bo L H H')(h:∀a∈d4 lp lw rows,a∉L):pO H' lp lw s rows:=
 ⟨b.1 _ _ (h _ (by simp[d4])) x.hp,b.1 _ _ (h _ (by simp[d4])) x.hw,fun r hr=>⟨b.2.1 _ _ (x.hr r hr).1,b.1 _ _ (h _ (by simp only[d4,QW];exact .inr (.inr (QO.mpr ⟨r,hr,rfl⟩)))) (x.hr r hr).2⟩,x.nd,x.ec,x.ew,x.zs⟩
theorem pO.same(x:pO H lp lw s rows)(b:ah H H'):pO H' lp lw s rows:=x.but (bo.of (l:=[]) b) ⋯
theorem pO.rl(x:pO H lp lw s rows):rows.length=s.cs.length:=by rw[x.ec,QR]
theorem pO.nr(x:pO H lp lw s rows)(nc:(s.cs.map (·.1)).Nodup):(rows.map (·.n)).Nodup:=by
 rw[x.ec,QY]at nc
 exact nc
theorem pO.told(x:pO H lp lw s rows)(nc:(s.cs.map (·.1)).Nodup):s.cs.map (bM s)=rows.map fun r=>(r.n,r.x,(s.ps.map (·.1)).filter fun v=>decide (v∈r.zs)):=by
 have nr:=x.nr nc
 rw[x.ec,QY]
 refine RT fun r hr=>?_
 show(r.n,r.x,(s.ps.map (·.1)).filter fun v=>decide ((v,r.n)∈s.ws))=_
 congr 2
 refine SJ fun v _=>?_
 refine decide_eq_decide.mpr ((x.ew v r.n).trans ⟨fun ⟨c,h1,a,b⟩=>?_,fun h=>⟨r,hr,rfl,h⟩⟩)
 rw[<-uh nr h1 hr a];exact b
theorem Ox{r:js}(h:r∈rows):r.w∈d4 lp lw rows:=by simp only[d4,QW];exact .inr (.inr (QO.mpr ⟨r,h,rfl⟩))
theorem pO.w_ne(x:pO H lp lw s rows){r:js}(h:r∈rows):r.w≠lp/\r.w≠lw:=by
 have nd:=x.nd
 unfold d4 at nd
 obtain⟨a,nd⟩:=RC.mp nd
 obtain⟨b,nd⟩:=RC.mp nd
 have hm:r.w∈rows.map (·.w):=QO.mpr ⟨r,h,rfl⟩
 exact⟨fun e=>a (by rw[<-e];simp[hm]),fun e=>b (by rw[<-e];exact hm)⟩
theorem pO.l_ne(x:pO H lp lw s rows):lp≠lw:=by
 have nd:=x.nd
 unfold d4 at nd
 exact fun e=>(RC.mp nd).1 (by simp[e])
theorem pO.w_inj(x:pO H lp lw s rows){r a:js}(h:r∈rows)(h':a∈rows)(e:r.w=a.w):r=a:=by
 have nd:=x.nd
 unfold d4 at nd
 have nd:=(RC.mp (RC.mp nd).2).2
 obtain⟨i,hi,b⟩:=Sa h
 obtain⟨j,f,d⟩:=Sa h'
 have:i=j:=by
  rcases VJ i j with c|c|c
  .have:=Se.mp nd i j (by simpa using hi) (by simpa using f) c
   simp[b,d]at this
   exact absurd e this
  .exact c
  .have:=Se.mp nd j i (by simpa using f) (by simpa using hi) c
   simp[b,d]at this
   exact absurd e.symm this
 subst this
 rw[<-b,<-d]
end
theorem bG.snoc{H:Hp}{lw t w:QI}{us:⇑QI}{rows:⇑iW}{r:iW}{P:QI->Prop}(h:bG H lw us rows)(o:∀t∈us,∀x y w,H t=ψ (.tup [x,y,.ref w])->w≠lw/\P w)(c:H t=ψ (.tup [.str r.1,.int r.2.1,.ref w]))(hw:H w=ψ (.lst (r.2.2.map V.str)))(n:w≠lw/\P w):
  bG (upd H lw (.lst ((us++[t]).map V.ref))) lw (us++[t]) (rows++[r])/\∀t'∈us++[t],∀x y a,upd H lw (.lst ((us++[t]).map V.ref)) t'=ψ (.tup [x,y,.ref a])->a≠lw/\P a:=by
 have b:bo [lw] H (upd H lw (.lst ((us++[t]).map V.ref))):=bo.upd h.1 "~" ⋯
 have i:upd H lw (.lst ((us++[t]).map V.ref)) lw=ψ (.lst ((us++[t]).map V.ref)):=ak
 generalize upd H lw (.lst ((us++[t]).map V.ref))=j at *
 refine⟨⟨i,lK ?_ ⟨w,b.2.1 _ _ c,b.1 _ _ (by simpa using n.1) hw⟩⟩,fun t' f x y a e=>?_⟩
 .have k:=h.2
  have go:∀{g:⇑(QH×Int×⇑QH)}{d:⇑QI},Q4 (ND H) g d->(∀t∈d,∀x y w,H t=ψ (.tup [x,y,.ref w])->w≠lw/\P w)->Q4 (ND j) g d:=by
   intro g d h o
   induction h with
   |nil=>exact .nil
   |cons q _ l=>
    obtain⟨a,z1,z2⟩:=q
    exact .cons ⟨a,b.2.1 _ _ z1,b.1 _ _ (by simpa using(o _ ⋯ _ _ _ z1).1) z2⟩ (l fun t c=>o t (by simp[c]))
  exact go k o
 .rcases Rr.mp f with m|m
  .obtain⟨p,_,s,z1,_⟩:=h.tup t' m
   rw[b.2.1 _ _ z1]at e
   exact o t' m x y a (by rw[z1];exact e)
  .rw[Rv.mp m,b.2.1 _ _ c]at e
   injection e with e
   injection e with e
   simp at e
   rw[<-e.2.2];exact n
theorem bX.nums{n:Nat}{s:aB}(g:bX n s)(hn:n<=900):Num s.giv/\Num s.spt/\Num s.pot/\∀z∈s.ps.map (·.1),Num (vP s.ps z):=by
 have h0:=g.d.spt.1
 have h1:=g.d.pot.1
 have hp:∀p∈s.ps,0<=p.2:=fun p hp=>(g.d.g.p0 p hp).1
 obtain⟨z1,z2⟩:=zY hp
 have c:=g.co
 have e:=g.gn
 have f:(n:Int)<=900:=by exact_mod_cast hn
 refine⟨lP "`" "`",lP h0 "`",lP h1 "`",fun z hz=>?_⟩
 have hm:=ji hz
 have a:=hp _ hm
 have b:=z2 _ hm
 exact lP a (by have b:vP s.ps z<=d0 s.ps:=b;omega)
theorem bo.fresh{fp Ms:⇑QI}{H H':Hp}(b:bo (fp++Ms) H H')(h:∀a∈Ms,H a=χ):bo fp H H':=⟨fun c o n q=>b.1 c o (fun m=>by
 rcases Rr.mp m with z|z
 .exact n z
 .rw[h c z]at q;cases q) q,b.2.1,b.2.2⟩
theorem jF{α:Type}{xs:⇑α}{i:Nat}(h:i<xs.length):xs.take (i+1)=xs.take i++[xs[i]]:=by rw[Uh,QZ h];rfl
theorem bG.all{K:QK}{H:Hp}{l:QI}{ts:⇑QI}{rows:⇑iW}(h:bG H l ts rows):DatAll K H (ts.map V.ref) (rows.map dW):=by
 obtain⟨h1,a⟩:=h
 clear h1
 induction a with
 |nil=>exact .nil
 |cons q _ b=>
  obtain⟨w,g1,g2⟩:=q
  exact .cons (.tup (d5.of g1) (.cons (.str _) (.cons (.int _) (.cons (.lst (aD.of g2) (i3 _)) .nil)))) b
theorem Ku{r:iW}(h:aU r.1/\∀z∈r.2.2,aU z):cK 2 (dW r):=by
 refine uA fun e he=>?_
 rcases QW.mp he with rfl|he
 .exact vy h.1
 .rcases QW.mp he with rfl|he
  .exact G5 _
  .rcases QW.mp he with rfl|he
   .exact ug _ h.2
   .cases he
theorem bG.erase{H:Hp}{lw:QI}{ts:⇑QI}{rows:⇑iW}(j:Nat)(h:bG H lw ts rows)(o:∀t∈ts,∀x y w,H t=ψ (.tup [x,y,.ref w])->w≠lw):bG (upd H lw (.lst ((ts.map V.ref).eraseIdx j))) lw (ts.eraseIdx j) (rows.eraseIdx j):=by
 have c:bo [lw] H (upd H lw (.lst ((ts.map V.ref).eraseIdx j))):=bo.upd h.1 "~" ⋯
 have d:upd H lw (.lst ((ts.map V.ref).eraseIdx j)) lw=ψ (.lst ((ts.eraseIdx j).map V.ref)):=by rw[ak,eX]
 generalize upd H lw (.lst ((ts.map V.ref).eraseIdx j))=e at *
 refine⟨d,nj j ?_⟩
 have f:=h.2
 have go:∀{b:⇑(QH×Int×⇑QH)}{a:⇑QI},Q4 (ND H) b a->(∀t∈a,∀x y w,H t=ψ (.tup [x,y,.ref w])->w≠lw)->Q4 (ND e) b a:=by
  intro b a h o
  induction h with
  |nil=>exact .nil
  |cons q _ g=>
   obtain⟨i,z1,z2⟩:=q
   exact .cons ⟨i,c.2.1 _ _ z1,c.1 _ _ (by simpa using o _ ⋯ _ _ _ z1) z2⟩ (g fun t k=>o t (by simp[k]))
 exact go f o
theorem Al.filt{rs:⇑iW}(h:Al rs)(f:iW->Bool):Al (rs.filter f):=⟨QV (Sb _ _) h.l,fun r hr=>h.ok r (Ra.mp hr).1⟩
theorem Gz{s:aB}(G:mL s){run:⇑(Nat×Int)}(d:eN (aW (bg s) (aq s)) (PF (av s)) [] run):
  ∀r∈(aE (aq s) (av s) run).map (aT s),bE r.1=ω/\(0<=r.2.1/\r.2.1<=1000000000000)/\r.2.2.length<=20/\∀p∈r.2.2,bE p.1=ω/\Num p.2:=fun r j=>by
 obtain⟨x,f,rfl⟩:=QO.mp j
 obtain⟨k,t⟩:=(dg d).2 x f
 obtain⟨g1,g2⟩:=Bo G.g
 have hm:=getD_mem (xs:=s.cs) ("",0) k
 have b:=G.g.cb _ hm
 refine⟨G.nc _ hm,⟨by have:=b.1;show(0:Int)<=(s.cs.getD x.1 ("",0)).2;omega,b.2⟩,?_,fun p l=>?_⟩
 .refine QV (Sb _ _) ?_
  rw[XA,QR]
  exact QV (W8 _ _) G.g.v20
 .obtain⟨m,a⟩:=Ra.mp l
  have a:=of_decide_eq_true a
  have c:(av s).length=(aq s).length:=by simp[av,aq]
  obtain⟨n,o⟩:=T7 m
  obtain⟨v,q,e⟩:=QO.mp n
  exists ?_,S0 a
  .rw[<-e]
   exact G.nv v q
  .have:=Ag (M:=1000000000000*232792560 ^ 13) c d (fun i=>?_) x f p.2 o
   .exact Te this nofun
   .by_cases hi:i<s.ps.length
    .rw[um hi]
     have h:=G.g.p0 _ (getD_mem (xs:=s.ps) ("",0) hi)
     exact⟨UL h.1 (S0 g1),Ue (UM h.2 (S0 g1)) (Wo g2 "^")⟩
    .rw[zr (by simp[av];omega)]
     exact⟨Sl _,nofun⟩
theorem Ia{g:Int}:∀{a:⇑dz}{W e:⇑iW}{ps b:⇑(QH×Int)},Lk g a W ps e b->∀r∈a,r.2.2≠[]
 |r::a,_,_,_,_,⟨⟨_,_,po⟩,_,c⟩,x,d=>by
  rcases QW.mp d with rfl|d
  .exact po.ne
  .exact Ia c x d
structure IB(s:aB)(rs:⇑dz)(g:Int)(W':⇑iW)(lps:⇑(QH×Int)):Prop where
 x:d6 s=if rs=[]then("none":QH)else eO rs g
 g1:1<=g
 gn:Num g
 g0:rs=[]->g=1
 l:rs.length<=12
 ok:∀r∈rs,bE r.1=ω/\(0<=r.2.1/\r.2.1<=1000000000000)/\r.2.2.length<=20/\∀p∈r.2.2,bE p.1=ω/\Num p.2
 ne:∀r∈rs,r.2.2≠[]
 clo:Lk g rs (s.cs.map (bM s)) (s.ps.map fun p=>(p.1,p.2*g)) W' lps
 w:W'=(aC s).cs.map (bM (aC s))
 p:lps.map (fun p=>(p.1,p.2/g))=(aC s).ps
 spt:(aC s).spt=s.spt+(rs.map (·.2.1)).sum
 giv:(aC s).giv=s.giv
 td:TD (aC s)
theorem Ck{s:aB}(e:aC s=s)(ex:d6 s="none")(b:TD s):IB s [] 1 (s.cs.map (bM s)) (s.ps.map fun p=>(p.1,p.2*1)):=by
 refine⟨ex,by decide,lP "^" "^",fun _=>rfl,⋯,fun r a=>(by cases a),fun r a=>(by cases a),⟨rfl,rfl⟩,by rw[e],?_,by rw[e];simp,by rw[e],by rw[e];exact b⟩
 rw[e,QY]
 refine(RT fun p _=>?_).trans (TR _)
 show(p.1,p.2*1/1)=p
 rw[Vt,Int.ediv_one]
theorem KQ{n:Nat}{s:aB}(G:bX n s):∃u g j b,IB s u g j b:=by
 by_cases a:s.ps=[]\/s.cs=[]
 .refine⟨_,_,_,_,Ck (if_pos a) (if_pos a) fun p f=>?_⟩
  rcases a with e|e
  .rw[e]
   have:=(G.d.g.cb p f).1
   show(0:Int)<p.2
   omega
  .rw[e]at f;cases f
 have f:s.ps≠[]:=fun e=>a (.inl e)
 have v:s.cs≠[]:=fun e=>a (.inr e)
 obtain⟨j,b,c,w,p,_,_,k,l,m,no⟩:=F1 G.d.g G.nd G.nd2 f v
 obtain⟨run,o⟩:=EK G.d.g f
 have r:=p9 o
 have q:toldOf s=(aE (aq s) (av s) run).map (aT s):=by unfold toldOf;rw[r]
 by_cases i:toldOf s=[]
 .have x:run=[]:=by
   rw[q,Ti]at i
   have:=jb (aq s) (av s) run
   rw[i]at this
   exact Ti.mp this.symm
  have t:aC s=s:=by
   unfold aC
   rw[if_neg a,r,x,sM]
  exact⟨_,_,_,_,Ck t (no i) (by rw[t]at m;exact m)⟩
 .obtain⟨g1,g2⟩:=Bo G.d.g
  refine⟨toldOf s,cO s,j,b,?_,by omega,⟨by omega,Te g2 nofun⟩,fun h=>absurd h i,?_,?_,Ia c,c,w,p,k,l,m⟩
  .unfold d6
   rw[if_neg a,if_neg i]
  .rw[q,QR]
   exact QV (dg o).1 G.d.g.n12
  .rw[q];exact Gz G.d o
theorem HM{a:⇑dz}{g:Int}(e:a.length<=12)(f:Num g)(ok:∀r∈a,bE r.1=ω/\(0<=r.2.1/\r.2.1<=1000000000000)/\r.2.2.length<=20/\∀p∈r.2.2,bE p.1=ω/\Num p.2):(Q7 "; " (a.map bQ)).length<=12*12842/\(eO a g).length<=160000:=by
 have n:=fk (sep:="; ") (m:=12840) (xs:=a.map bQ) fun x h=>by
  obtain⟨r,i,rfl⟩:=QO.mp h
  obtain⟨j,d,k,b⟩:=ok r i
  exact mC (cy j).2 (eU d.1 d.2) k fun p c=>⟨(cy (b p c).1).2,(b p c).2.h0,Ug (b p c).2.h1 nofun⟩
 have o:(a.map bQ).length*(12840+("; ":QH).length)<=12*12842:=by rw[QR,ck.2.1];exact SV _ e
 have l:=f.len.2
 exists by omega
 unfold eO
 split
 .decide +kernel
 .rw[pB,Ru,Ru,ck.2.2.2.2.1]
  omega
theorem wo(sep:QH):∀{ws:⇑QH},ws≠[]->(Q7 sep ws).length+sep.length=(ws.map (·.length)).sum+ws.length*sep.length
 |[],h=>absurd rfl h
 |[x],_=>by
  show x.length+sep.length=_
  simp
 |x::y::r,_=>by
  have a:=wo sep (ws:=y::r) ⋯
  show(x++sep++Q7 sep (y::r)).length+sep.length=_
  rw[Ru,Ru]
  simp only[Rk,RK,RB,Nat.succ_mul]at a ⊢
  omega
theorem JT{K:QK}{H:Hp}{Q:VK}{sep:QH}{p:QI}{xs:⇑QH}(a:aD K H p (xs.map V.str))(hn:xs≠[])(c:(Q7 sep xs).length+sep.length<=16777216)(q:Q (.str (Q7 sep xs)) H):rJoin K (.str sep) [.ref p] H Q:=by
 have e:=YY sep xs
 refine⟨sep,p,xs,rfl,rfl,a,?_,by rw[e,size_eq];omega,by rw[e];exact q⟩
 have b:=wo sep hn
 rw[Z9,<-b]
 refine decide_eq_false ?_
 rw[size_eq]
 omega
theorem JE(xs:⇑V)(u v:V):kX (xs++[u,v]) none (ψ (-2))=xs:=by
 unfold kX
 have a:(xs++[u,v]).length=xs.length+2:=⋯
 rw[a]
 have b:HT.wU (xs.length+2) (xs.length+2) (ψ (-2))=xs.length:=by
  show(if(-2:Int)<0 then((-2:Int)+((xs.length+2:Nat):Int)).toNat else min (-2:Int).toNat (xs.length+2))=xs.length
  rw[if_pos "^"]
  omega
 rw[b,show HT.wU (xs.length+2) 0 none=0 from rfl,Xn,ZX]
 simp
theorem Mg(xs:⇑V)(u v:V):ux (xs++[u,v]) (-2)=ψ u/\ux (xs++[u,v]) (-1)=ψ v:=by
 exists ?_
 .have a:(xs++[u,v]).length=xs.length+2:=⋯
  have e:Jj (xs++[u,v]).length (-2)=ψ xs.length:=by
   unfold Jj
   rw[a,if_neg "^",if_pos "`"]
   congr 1
   omega
  unfold ux
  rw[e]
  simp
 .have:=HH (xs++[u]) v
  simpa using this
theorem EH:∀ns:⇑Int,L2.Le .non (ns.map V.int)=ξ
 |[]=>rfl
 |x::r=>by
  have:=EH r
  unfold L2.Le at this ⊢
  rw[Rk,S4,this]
  rfl
theorem pO.nms{H:Hp}{lp lw:QI}{s:aB}{rows:⇑js}(x:pO H lp lw s rows):rows.map (·.n)=s.cs.map (·.1):=by rw[x.ec,QY];rfl
theorem zg{K:QK}{H:Hp}{Q:VK}{d:St}{lw:QI}{rows:⇑js}{ns:⇑QH}(hw:H lw=ψ (.lst (rows.map fun r=>V.ref r.t)))(e:∀r∈rows,H r.t=ψ (.tup [.str r.n,.int r.x,.ref r.w]))(s:rows.length<=12)(f:rows.map (·.n)=ns)(k:∀l H',H l=χ->ah H H'->H' l=ψ (.lst (ns.map V.str))->Q (.ref l) H'):cL [none] (af 0) cM (az (gU K) (aa 0) (tC (.int 0))) (Fz K lw) d H Q:=by
 have g:aD K H lw (rows.map fun r=>V.ref r.t):=aD.of hw
 refine bx (bR (K:=K) (xs:=rows.map fun r=>V.ref r.t) 0) (fun j=>[ψ ((rows.map fun r=>V.ref r.t).getD j .non)]) (by rintro j h (rfl|⟨k,rfl⟩)<;>rfl) (fun H' a=>a.seq g) (by rw[QR];exact QV (show _<=1000 by omega) aO) (fun j=>.str (rows.getD j ⟨0,0,"",0,[]⟩).n) ?_ ?_
 .intro j b H' u a i
  rw[QR]at b
  rw[map_getD (fun r:js=>V.ref r.t) ⟨0,0,"",0,[]⟩ .non b]
  symm
  refine eG (d5.of (a _ _ (e _ (getD_mem _ b)))) (ar (j:=0) rfl) ?_
  exact i H' (ah.refl _)
 intro m o p q c
 rw[QR,aM (fun r:js=>V.str r.n) ⟨0,0,"",0,[]⟩ rows]at c
 exact k m o p q (by rw[c,<-f,QY];rfl)
def lj(K:QK):Sp:=bV 2 fun c H Q=>∃(a:QI)(ns:⇑Int)(k:Nat),c=[.ref a,.int k]/\aD K H a (ns.map V.int)/\∀(v:Int) b,ah H b->Q (.int v) b
def eu(K:QK):Sp:=bV 1 fun d H Q=>∃(c dx:QI),d=[.ref c]/\H c=ψ (.ins (aF K "Chest") dx [])/\∀a b,aI K a c b ⟨[],[],[],0,0,0⟩->bo [c] H a->gY [c] b H->Q .non a
def eT(K:QK):Sp:=bV 1 fun c H Q=>∃(d dx:QI),c=[.ref d]/\H d=ψ (.ins (aF K "Desk") dx [])/\∀a b,cA K a d b ⟨[],[],[],0,0,0⟩->bo [d] H a->gY [d] b H->Q .non a
def fg(_:QK):Sp:=bV 2 fun b H Q=>∃(c:Int)(m:Nat),b=[.int c,.int m]/\m<=1000/\∀(l:QI) a,H l=χ->ah H a->a l=ψ (.lst ((dX c m).map V.int))->Q (.ref l) a
def bD(_:QK):Sp:=bV 1 fun b H Q=>∃n:Int,b=[.str (iT n)]/\Num n/\∀a,ah H a->Q (.int n) a
noncomputable def cY(_:QK):Sp:=bV 1 fun c H Q=>∃b:⇑iW,c=[.str (dH b)]/\Al b/\∀l ts a,H l=χ->ah H a->bG a l ts b->(∀t∈ts,∀x y w,a t=ψ (.tup [x,y,.ref w])->w≠l/\H w=χ)->Q (.ref l) a
noncomputable def ix(K:QK):Sp:=fun a H Q E=>a.length=1/\∃z:QH,a=[.str z]/\aU z/\z.length<=100000/\
 (("":QH)∉Rg z " "->∀l,H l=χ->Q (.ref l) (upd H l (.lst ((Rg z " ").map V.str))))/\(("":QH)∈Rg z " "->∀b,ah H b->E (.ref (aF K "NoRow")) none b)
def eI(_:QK):Sp:=bV 2 fun a H Q=>∃s n:Nat,a=[.int s,.int n]/\0<s/\0<n/\Q (.int (S1 s n:Nat)) H
def kR(_:QK):Sp:=bV 1 fun a H Q=>∃n:Nat,a=[.int n]/\n<=20/\Q (.int (kd n:Nat)) H
def fW(_:QK):Sp:=bV 2 fun a H Q=>∃v w:Nat,a=[.int v,.int w]/\1<=v/\v<=20/\w<=12/\Q (.int (kd v ^ (w+1):Nat)) H
noncomputable def oH(K:QK):Sp:=bV 2 fun d H Q=>∃(a:QI)(b:⇑(Nat×Int×⇑Int))(i:Nat),d=[.ref a,.int i]/\fZ H a b/\b.length<=64/\(∀x∈b,i<x.2.2.length)/\∀c,ah H c->Q (.int (b.map fun x=>x.2.2.getD i 0).sum) c
noncomputable def jg(K:QK):Sp:=bV 2 fun e H Q=>∃(a b:QI)(ps:⇑Int)(c:⇑(Nat×Int×⇑Int)),e=[.ref a,.ref b]/\aD K H a (ps.map V.int)/\fZ H b c/\ps.length<=20/\c.length<=12/\(∀x∈c,x.2.2.length=ps.length)/\
 ∀l d,H l=χ->ah H d->d l=ψ (.lst ((aZ ps c).map V.int))->Q (.ref l) d
noncomputable def jz(K:QK):Sp:=bV 2 fun e H Q=>∃(a b:QI)(c:⇑Int)(rows:⇑(⇑Int)),e=[.ref a,.ref b]/\aD K H a (c.map V.int)/\fC K H b rows/\c.length<=12/\(∀x∈c,1<=x/\x<=1000000000000)/\1<=rows.length/\rows.length<=20/\
 ∀l d,H l=χ->ah H d->d l=ψ (.lst ((c.map (· * ((kd rows.length ^ (c.length+1):Nat):Int))).map V.int))->Q (.ref l) d
def iB(_:QK):Sp:=bV 2 fun a H Q=>∃m p:Int,a=[.int m,.int p]/\1<=p/\p<=1000/\Q (.int ((m+p-1)/p)) H
noncomputable def jJ(K:QK):Sp:=bV 2 fun d H Q=>∃(a:QI)(ps:⇑Int)(b:Int),d=[.ref a,.int b]/\aD K H a (ps.map V.int)/\ps.length<=40/\(∀p∈ps,0<=p)/\1<=b/\
 (ps.sum<b->∀c,ah H c->Q .non c)/\(b<=ps.sum->∀L c,Gx ps b L->ah H c->Q (.int L) c)
def jK(K:QK):Sp:=bV 2 fun f H Q=>∃(a b:QI)(d c:⇑Int),f=[.ref a,.ref b]/\aD K H a (d.map V.int)/\aD K H b (c.map V.int)/\c.length<=64/\∀e,ah H e->Q (.bl (c.all fun k=>decide (k∈d))) e
noncomputable def jA(K:QK):Sp:=bV 2 fun e H Q=>∃(a b:QI)(rows:⇑(⇑Int))(c:⇑Int),e=[.ref a,.ref b]/\fC K H a rows/\aD K H b (c.map V.int)/\rows.length<=64/\c.length<=64/\
 ∀l d,H l=χ->ah H d->d l=ψ (.lst ((jO rows c).map V.int))->Q (.ref l) d
noncomputable def fh(K:QK):Sp:=bV 2 fun c H Q=>∃(a:QI)(rows:⇑(⇑Int))(k:Int),c=[.ref a,.int k]/\fC K H a rows/\rows.length<=64/\
 ∀l b,H l=χ->ah H b->b l=ψ (.lst ((jO rows [k]).map V.int))->Q (.ref l) b
noncomputable def kK(K:QK):Sp:=bV 4 fun e H Q=>∃(a b:QI)(ps:⇑Int)(rows:⇑(⇑Int))(k:Nat)(c:Int),e=[.ref a,.ref b,.int k,.int c]/\aD K H a (ps.map V.int)/\fC K H b rows/\rows.length<=20/\ps.length=rows.length/\(∀p∈ps,0<=p)/\1<=c/\
 (Cn rows.length (WR rows) (PF ps) k<c->∀d,ah H d->Q .non d)/\(c<=Cn rows.length (WR rows) (PF ps) k->∀L d,1<=L->c<=jd rows.length (WR rows) (PF ps) k L->jd rows.length (WR rows) (PF ps) k (L-1)<c->ah H d->Q (.int L) d)
noncomputable def je(K:QK):Sp:=bV 4 fun g H Q=>∃(a b c d:QI)(ps e:⇑Int)(rows:⇑(⇑Int))(done:⇑Nat),g=[.ref a,.ref b,.ref c,.ref d]/\aD K H a (ps.map V.int)/\aD K H b (e.map V.int)/\fC K H c rows/\aD K H d ((done.map fun k:Nat=>(k:Int)).map V.int)/\
 e.length<=12/\(∀x∈e,1<=x/\x<=1000000000000)/\1<=rows.length/\rows.length<=20/\ps.length=rows.length/\(∀p∈ps,0<=p)/\done.length<=12/\
 ∀l f (os:⇑(Option Int)),H l=χ->ah H f->f l=ψ (.lst (os.map oV))->os.length=e.length->(∀j o,os[j]?=ψ o->Cj (aW e rows) (PF ps) done j o)->Q (.ref l) f
def oJ(K:QK):Sp:=bV 1 fun c H Q=>∃(a:QI)(os:⇑(Option Int)),c=[.ref a]/\aD K H a (os.map oV)/\os.length<=12/\∀(k:Option Nat) b,fG os k->ah H b->Q (oV (k.map fun j:Nat=>(j:Int))) b
noncomputable def lN(_:QK):Sp:=bV 1 fun e H Q=>∃(a:QI)(b:⇑(Nat×Int×⇑Int)),e=[.ref a]/\fZ H a b/\b.length<=12/\(∀x∈b,x.1<12)/\(b.map (·.1)).Nodup/\
 ∀l c (d:⇑Nat),H l=χ->ah H c->c l=ψ (.lst ((d.map fun k:Nat=>(k:Int)).map V.int))->d.Pairwise (· < ·)->(∀k,k∈d↔k∈b.map (·.1))->Q (.ref l) c
noncomputable def oI(K:QK):Sp:=bV 2 fun d H Q=>∃(a:QI)(ps:⇑Int)(b:Int),d=[.ref a,.int b]/\aD K H a (ps.map V.int)/\ps.length<=64/\
 ∀l c,H l=χ->ah H c->c l=ψ (.lst ((ps.map (min · b)).map V.int))->Q (.ref l) c
noncomputable def gL(K:QK):Sp:=bV 4 fun d H Q=>∃(a b:QI)(ps:⇑Int)(rows:⇑(⇑Int))(k:Nat)(L:Int),d=[.ref a,.ref b,.int k,.int L]/\aD K H a (ps.map V.int)/\fC K H b rows/\rows.length=ps.length/\ps.length<=64/\∀l c,H l=χ->ah H c->c l=ψ (.lst ((b9 rows ps k L).map V.int))->Q (.ref l) c
noncomputable def da(K:QK):Sp:=bV 4 fun h H Q=>∃(a b c d:QI)(ps g:⇑Int)(rows:⇑(⇑Int))(e:⇑(Nat×Int×⇑Int)),h=[.ref a,.ref b,.ref c,.ref d]/\aD K H a (ps.map V.int)/\aD K H b (g.map V.int)/\fC K H c rows/\fZ H d e/\
 g.length<=12/\(∀x∈g,1<=x/\x<=1000000000000)/\1<=rows.length/\rows.length<=20/\ps.length=rows.length/\e.length<=12/\(∀x∈e,x.1<12)/\(e.map (·.1)).Nodup/\(∀x∈e,x.2.2.length=ps.length)/\(∀p∈aZ ps e,0<=p)/\
 ((∀k,k<g.length->k∉e.map (·.1)->Cn rows.length (WR rows) (PF (aZ ps e)) k<(aW g rows).c k)->∀f,ah H f->Q .non f)/\
 (∀k L,Nx (aW g rows) (PF (aZ ps e)) (e.map (·.1)) k L->∀t b f,H t=χ->H b=χ->ah H f->f t=ψ (.tup [.int k,.int L,.ref b])->f b=ψ (.lst ((b9 rows (aZ ps e) k L).map V.int))->Q (.ref t) f)
noncomputable def qU(K:QK):Sp:=bV 3 fun f H Q=>∃(a b c:QI)(ps d:⇑Int)(rows:⇑(⇑Int)),f=[.ref a,.ref b,.ref c]/\aD K H a (ps.map V.int)/\aD K H b (d.map V.int)/\fC K H c rows/\Ij d rows ps/\
 ∀l e run,H l=χ->ah H e->gv H e l (aE rows ps run)->eN (aW d rows) (PF ps) [] run->Q (.ref l) e
noncomputable def du(K:QK):Sp:=bV 3 fun f H Q=>∃(c b:QI)(g:Int)(left:⇑Int)(d:⇑QI)(s:aB),f=[.ref c,.ref b,.int g]/\aI K H c d s/\H b=ψ (.lst (left.map V.int))/\0<g/\g<j7/\left.length=s.ps.length/\s.ps.length<=20/\
 ∀e a,aI K e c a (Hx s left g)->bo d H e->gY d a H->Q .non e
noncomputable def cU(K:QK):Sp:=bV 2 fun e H Q=>∃(c dx f b w:QI)(n:QH)(d:⇑QI)(s:aB),e=[.ref c,.str n]/\H c=ψ (.ins (aF K "Chest") dx (fD f b w s.pot s.giv s.spt))/\H b=ψ (.dK (cD s.cs))/\H w=ψ (.lst (d.map V.ref))/\Q4 (AR H) s.ws d/\
 aU n/\(∀p∈s.cs,aU p.1)/\(∀p∈s.ws,aU p.1/\aU p.2)/\s.cs.length<=1000/\
 ∀l a,H l=χ->ah H a->a l=ψ (.lst ((intsOf (rN s n)).map V.int))->Q (.ref l) a
noncomputable def dF(K:QK):Sp:=bV 3 fun d H Q=>∃(c b:QI)(k:Nat)(L:Int)(paid:⇑Int)(e:⇑QI)(s:aB),d=[.ref c,.int k,.ref b]/\aI K H c e s/\k<s.cs.length/\H b=ψ (.lst (paid.map V.int))/\paid.length=s.ps.length/\s.ps.length<=20/\s.cs.length<=12/\
 ∀t r a,H t=χ->H r=χ->t≠r->ah H a->a t=ψ (.tup [.str (aT s (k,L,paid)).1,.int (aT s (k,L,paid)).2.1,.ref r])->OB H a r (aT s (k,L,paid)).2.2->Q (.ref t) a
noncomputable def cn(K:QK):Sp:=fun a H Q E=>a.length=2/\∃(c:QI)(n:QH)(b:⇑QI)(s:aB),a=[.ref c,.str n]/\aI K H c b s/\((n∈s.cs.map (·.1)/\Q .non H)\/(n∉s.cs.map (·.1)/\Tx n/\cc K H E "NoWork"))
def Od(s:aB)(n:QH):aB:={s with cs:=s.cs.filter fun p=>decide (p.1≠n),ws:=s.ws.filter fun p=>!decide (p.2=n)}
noncomputable def c5(K:QK):Sp:=fun e H Q E=>e.length=2/\∃(c:QI)(n:QH)(b:⇑QI)(s:aB),e=[.ref c,.str n]/\aI K H c b s/\s.ws.length<=1000/\
 ((aL.withdraw n).due s=χ->∀d a,aI K d c a (Od s n)->bo b H d->gY b a H->Q .non d)/\∀cl,(aL.withdraw n).due s=ψ cl->Tx n/\cc K H E cl
noncomputable def gE(K:QK):Sp:=bV 1 fun e H Q=>∃(c:QI)(d:⇑QI)(s:aB),e=[.ref c]/\aI K H c d s/\jW s/\
 ((s.ps=[]\/s.cs=[])->∀t l a,H t=χ->H l=χ->t≠l->ah H a->a t=ψ (.tup [.ref l,.int 1])->a l=ψ (.lst [])->Q (.ref t) a)/\
 (s.ps≠[]->s.cs≠[]->∀run t l ts a b,eN (aW (bg s) (aq s)) (PF (av s)) [] run->bo d H a->gY d b H->aI K a c b (bW s (aZ (av s) (aE (aq s) (av s) run)) (cO s) ((aE (aq s) (av s) run).map (aT s)))->
  H t=χ->H l=χ->l∉b->a t=ψ (.tup [.ref l,.int (cO s)])->nO a l ts ((aE (aq s) (av s) run).map (aT s))->(∀f∈ts,∀y z r,a f=ψ (.tup [y,z,.ref r])->r≠l/\H r=χ/\r∉b)->Q (.ref t) a)
def jm(_:QK):Sp:=bV 1 fun c H Q=>∃(l:QI)(a:⇑(QH×Int)),c=[.ref l]/\jY H l a/\a.length<=20/\(∀p∈a,Sm p.1/\Nb p.2)/\∀b,ah H b->Q (.str (eM a)) b
def jq(_:QK):Sp:=bV 3 fun b H Q=>∃(l:QI)(r:dz),b=[.str r.1,.int r.2.1,.ref l]/\jY H l r.2.2/\Sm r.1/\Nb r.2.1/\r.2.2.length<=20/\(∀p∈r.2.2,Sm p.1/\Nb p.2)/\∀a,ah H a->Q (.str (bQ r)) a
noncomputable def fF(_:QK):Sp:=bV 2 fun c H Q=>∃(l:QI)(ts:⇑QI)(a:⇑dz)(g:Int),c=[.ref l,.int g]/\nO H l ts a/\a.length<=12/\Nb g/\(∀r∈a,Sm r.1/\Nb r.2.1/\r.2.2.length<=20/\∀p∈r.2.2,Sm p.1/\Nb p.2)/\∀b,ah H b->Q (.str (eO a g)) b
def gF(K:QK):Sp:=bV 1 fun e H Q=>∃(c:QI)(b:⇑QI)(s:aB),e=[.ref c]/\aI K H c b s/\mL s/\∀d a,aI K d c a (aC s)->bo b H d->gY b a H->Q (.str (d6 s)) d
noncomputable def jB(K:QK):Sp:=bV 3 fun b H Q=>∃(l:QI)(r:QH×Int×⇑QH),b=[.str r.1,.int r.2.1,.ref l]/\aD K H l (r.2.2.map V.str)/\Sm r.1/\Nb r.2.1/\r.2.2.length<=20/\(∀x∈r.2.2,Sm x)/\∀a,ah H a->Q (.str (cN r)) a
noncomputable def iD(_:QK):Sp:=bV 1 fun c H Q=>∃(l:QI)(ts:⇑QI)(a:⇑(QH×Int×⇑QH)),c=[.ref l]/\bG H l ts a/\a.length<=12/\(∀r∈a,Sm r.1/\Nb r.2.1/\r.2.2.length<=20/\∀x∈r.2.2,Sm x)/\∀b,ah H b->Q (.str (dH a)) b
noncomputable def eQ(K:QK):Sp:=bV 2 fun e H Q=>∃(c dx b f w:QI)(n:QH)(d:⇑QI)(s:aB),e=[.ref c,.str n]/\H c=ψ (.ins (aF K "Chest") dx (fD b f w s.pot s.giv s.spt))/\H b=ψ (.dK (cD s.ps))/\H w=ψ (.lst (d.map V.ref))/\Q4 (AR H) s.ws d/\
 aU n/\(∀p∈s.ps,aU p.1)/\(∀p∈s.ws,aU p.1/\aU p.2)/\s.ps.length<=1000/\
 ∀l a,H l=χ->ah H a->a l=ψ (.lst (((s.ps.map (·.1)).filter fun v=>decide ((v,n)∈s.ws)).map V.str))->Q (.ref l) a
noncomputable def gP(K:QK):Sp:=bV 1 fun b H Q=>∃(c:QI)(d:⇑QI)(s:aB),b=[.ref c]/\aI K H c d s/\(∀p∈s.ps,aU p.1)/\(∀p∈s.cs,aU p.1)/\(∀p∈s.ws,aU p.1/\aU p.2)/\s.ps.length<=1000/\s.cs.length<=1000/\
 ∀l ts a,H l=χ->ah H a->bG a l ts (s.cs.map (bM s))->(∀t∈ts,∀x y w,a t=ψ (.tup [x,y,.ref w])->w≠l/\H w=χ)->Q (.ref l) a
def jv(K:QK):Sp:=bV 1 fun a H Q=>∃(c:QI)(b:⇑QI)(s:aB),a=[.ref c]/\aI K H c b s/\Q (.int s.pot) H
def gD(K:QK):Sp:=bV 1 fun a H Q=>∃(c:QI)(b:⇑QI)(s:aB),a=[.ref c]/\aI K H c b s/\Q (.int s.giv) H
def gC(K:QK):Sp:=bV 1 fun a H Q=>∃(c:QI)(b:⇑QI)(s:aB),a=[.ref c]/\aI K H c b s/\Q (.int s.spt) H
def oq(K:QK):Sp:=fun b H Q E=>b.length=2/\∃(c:QI)(w:QH)(d:⇑QI)(s:aB),b=[.ref c,.str w]/\aI K H c d s/\mL s/\Tx w/\yK K (fun e a f=>aI K e c a f) H d s Q E (kq s w)
def ou(_:QK):Sp:=bV 1 fun b H Q=>∃z:QH,b=[.str z]/\aU z/\z.length<=100000/\∀a,ah H a->Q (.bl (bE z)) a
noncomputable def c7(K:QK):Sp:=fun a H Q E=>a.length=2/\∃(z:QH)(d:QI)(kvs:⇑(Key×V)),a=[.str z,.ref d]/\H d=ψ (.dK kvs)/\Tx z/\
 ((bE z=ω/\fj kvs (.inr z)=χ/\∀b,ah H b->Q .non b)\/(bE z=ξ/\cc K H E "NoName")\/(bE z=ω/\(fj kvs (.inr z)).isSome=ω/\cc K H E "Twice"))
noncomputable def el(K:QK):Sp:=fun a H Q E=>a.length=2/\∃(d:QI)(kvs:⇑(Key×V))(n:Int),a=[.ref d,.int n]/\H d=ψ (.dK kvs)/\(n=12\/n=20)/\(((kvs.length:Int)<n/\Q .non H)\/(n<=(kvs.length:Int)/\cc K H E "Full"))
noncomputable def gS(K:QK):Sp:=fun e H Q E=>e.length=2/\∃(c:QI)(n:QH)(b:⇑QI)(s:aB),e=[.ref c,.str n]/\aI K H c b s/\Tx n/\
 ((aL.enrol n).due s=χ->∀d a,aI K d c a ({s with ps:=s.ps++[(n,0)]})->bo b H d->gY b a H->Q .non d)/\∀cl,(aL.enrol n).due s=ψ cl->cc K H E cl
noncomputable def bN(K:QK):Sp:=fun a H Q E=>a.length=2/\∃(c:QI)(n:QH)(b:⇑QI)(s:aB),a=[.ref c,.str n]/\aI K H c b s/\((n∈s.ps.map (·.1)/\Q .non H)\/(n∉s.ps.map (·.1)/\Tx n/\cc K H E "NoVoter"))
noncomputable def ee(K:QK):Sp:=fun a H Q E=>a.length=2/\∃(c:QI)(n:QH)(b:⇑QI)(s:aB),a=[.ref c,.str n]/\aI K H c b s/\Tx n/\(n∈s.ps.map (·.1)->Q (.int (vP s.ps n)) H)/\(n∉s.ps.map (·.1)->cc K H E "NoVoter")
noncomputable def gm(K:QK):Sp:=fun e H Q E=>e.length=2/\∃(c:QI)(n:QH)(b:⇑QI)(s:aB),e=[.ref c,.str n]/\aI K H c b s/\Tx n/\s.ws.length<=1000/\
 ((aL.leave n).due s=χ->∀d a,aI K d c a (II s n (vP s.ps n))->bo b H d->gY b a H->Q .non d)/\∀cl,(aL.leave n).due s=ψ cl->cc K H E cl
def eJ(K:QK):Sp:=fun a H Q E=>a.length=2/\∃(x y:Int),a=[.int x,.int y]/\(y=0\/y=1)/\((y<=x/\x<=1000000000/\Q .non H)\/((x<y\/1000000000<x)/\cc K H E "TooMuch"))
def gI(K:QK):Sp:=bV 2 fun e H Q=>∃(c:QI)(x:Int)(b:⇑QI)(s:aB),e=[.ref c,.int x]/\aI K H c b s/\s.ps.length<=20/\
 ∀d a,aI K d c a (uD s x)->bo b H d->gY b a H->Q .non d
noncomputable def iC(K:QK):Sp:=fun e H Q E=>e.length=2/\∃(c:QI)(x:Int)(b:⇑QI)(s:aB),e=[.ref c,.int x]/\aI K H c b s/\s.ps.length<=20/\
 ((aL.give x).due s=χ->∀d a,aI K d c a (gA s x)->bo b H d->gY b a H->Q .non d)/\∀cl,(aL.give x).due s=ψ cl->cc K H E cl
def jQ(_:QK):Sp:=bV 1 fun b H Q=>∃z:QH,b=[.str z]/\aU z/\z.length<=100000/\∀a,ah H a->Q (.bl (gk z)) a
noncomputable def eD(K:QK):Sp:=fun b H Q E=>b.length=1/\∃z:QH,b=[.str z]/\aU z/\z.length<=100000/\
 (gk z=ω->∀(n:Int) a,0<=n->n.natAbs.log2<1920->((toString n:String):QH)=z->ah H a->Q (.int n) a)/\(gk z=ξ->∀a,ah H a->E (.ref (aF K "NoRow")) none a)
noncomputable def ow(K:QK):Sp:=fun d H Q E=>d.length=3/\∃(c:QI)(w a:QH)(e:⇑QI)(s:aB),d=[.ref c,.str w,.str a]/\aI K H c e s/\mL s/\Tx w/\Tx a/\yK K (fun f b g=>aI K f c b g) H e s Q E (act2 s w a)
noncomputable def eS(K:QK):Sp:=fun e H Q E=>e.length=3/\∃(c:QI)(n:QH)(x:Int)(b:⇑QI)(s:aB),e=[.ref c,.str n,.int x]/\aI K H c b s/\Tx n/\
 ((aL.propose n x).due s=χ->∀d a,aI K d c a ({s with cs:=s.cs++[(n,x)]})->bo b H d->gY b a H->Q .non d)/\∀cl,(aL.propose n x).due s=ψ cl->cc K H E cl
def GS(s:aB)(v n:QH):aB:=if(v,n)∈s.ws then s else{s with ws:=s.ws++[(v,n)]}
noncomputable def iw(K:QK):Sp:=fun e H Q E=>e.length=3/\∃(c:QI)(v n:QH)(b:⇑QI)(s:aB),e=[.ref c,.str v,.str n]/\aI K H c b s/\Tx v/\Tx n/\(∀p∈s.ws,aU p.1/\aU p.2)/\s.ws.length<=900/\
 ((aL.want v n).due s=χ->∀d a,aI K d c a (GS s v n)->bo b H d->gY b a H->Q .non d)/\∀cl,(aL.want v n).due s=ψ cl->cc K H E cl
def P5(s:aB)(v n:QH):aB:={s with ws:=s.ws.filter fun p=>!decide (p=(v,n))}
noncomputable def fE(K:QK):Sp:=fun e H Q E=>e.length=3/\∃(c:QI)(v n:QH)(b:⇑QI)(s:aB),e=[.ref c,.str v,.str n]/\aI K H c b s/\Tx v/\Tx n/\(∀p∈s.ws,aU p.1/\aU p.2)/\s.ws.length<=900/\
 ((aL.unwant v n).due s=χ->∀d a,aI K d c a (P5 s v n)->bo b H d->gY b a H->Q .non d)/\∀cl,(aL.unwant v n).due s=ψ cl->cc K H E cl
noncomputable def jf(K:QK):Sp:=fun e H Q E=>e.length=4/\∃(c:QI)(w a b:QH)(f:⇑QI)(s:aB),e=[.ref c,.str w,.str a,.str b]/\aI K H c f s/\mL s/\Tx w/\Tx a/\Tx b/\yK K (fun g d h=>aI K g c d h) H f s Q E (we s w a b)
def bT(K:QK):Sp:=fun b H Q E=>b.length=2/\∃(d:QI)(row:QH)(c:⇑QI)(s:aB),b=[.ref d,.str row]/\cA K H d c s/\mL s/\Tx row/\yK K (fun e a f=>cA K e d a f) H c s Q E (kD s row)
noncomputable def dA(K:QK):Sp:=bV 2 fun c H Q=>∃(d b:QI)(e:⇑QI)(s:aB)(n:Nat)(ns:⇑QH),c=[.ref d,.ref b]/\cA K H d e s/\bX n s/\n<=900/\H b=ψ (.lst (ns.map V.str))/\(∀z∈ns,z∈s.ps.map (·.1))/\ns.length<=20/\∀l a,H l=χ->ah H a->a l=ψ (.lst ((s.giv::s.spt::s.pot::ns.map (vP s.ps)).map V.int))->Q (.ref l) a
noncomputable def jj(_:QK):Sp:=bV 3 fun d H Q=>∃(b ld:QI)(names:⇑QH)(ps a:⇑(QH×Int)),d=[.str (eM a),.ref b,.ref ld]/\H b=ψ (.lst (names.map V.str))/\b≠ld/\H ld=ψ (.dK (cD ps))/\(ps.map (·.1)).Nodup/\ps.length<=20/\HL names ps a/\(∀p∈a,bE p.1=ω/\Num p.2)/\
 ∀c,bo [ld] H c->c ld=ψ (.dK (cD (dI ps a)))->Q (.int (a.map (·.2)).sum) c
noncomputable def dq(_:QK):Sp:=bV 4 fun i H Q=>∃(d a ld:QI)(g:Int)(b:⇑dz)(W h:⇑iW)(ps c:⇑(QH×Int))(ts:⇑QI),i=[.ref d,.int g,.ref a,.ref ld]/\H d=ψ (.lst ((b.map bQ).map V.str))/\d≠a/\d≠ld/\a≠ld/\bG H a ts W/\Al W/\(W.map (·.1)).Nodup/\
 (∀t∈ts,∀x y w,H t=ψ (.tup [x,y,.ref w])->w≠a/\w≠ld)/\H ld=ψ (.dK (cD ps))/\(ps.map (·.1)).Nodup/\ps.length<=20/\b.length<=12/\(∀r∈b,∀p∈r.2.2,bE p.1=ω/\Num p.2)/\Lk g b W ps h c/\
 ∀e f,bo [a,ld] H e->bG e a f h->e ld=ψ (.dK (cD c))->Q (.int (b.map (·.2.1)).sum) e
noncomputable def eW(_:QK):Sp:=bV 3 fun e H Q=>∃(a b c:QI)(ts:⇑QI)(s:aB),e=[.ref a,.ref b,.ref c]/\bG H a ts (s.cs.map (bM s))/\H b=ψ (.lst ((s.ps.map (·.1)).map V.str))/\H c=ψ (.lst ((s.ps.map (·.2)).map V.int))/\s.ps.length<=20/\TD s/\∀d,ah H d->Q (.bl true) d
noncomputable def d7(K:QK):Sp:=bV 2 fun f H Q=>∃(d c:QI)(b:⇑QI)(s:aB)(n:Nat),f=[.ref d,.ref c]/\cA K H d b s/\bX n s/\n<=900/\H c=ψ (.lst ((s.ps.map (·.1)).map V.str))/\c∉b/\∀e a,cA K e d a (aC s)->bo b H e->gY b a H->Q (.bl true) e
noncomputable def fY(K:QK):Sp:=bV 3 fun c H Q=>∃(d a:QI)(e:⇑QI)(s:aB)(n:Nat),c=[.ref d,.ref a,.int s.giv]/\cA K H d e s/\bX n s/\n<=900/\H a=ψ (.lst ((s.ps.map (·.1)).map V.str))/\∀b,ah H b->Q (.bl true) b
def cq(_:QK):Sp:=bV 2 fun b H Q=>∃(c:Int)(k:Nat),b=[.int c,.int k]/\k<=1000/\∀a,ah H a->Q (.str (cX c k)) a
def eE(_:QK):Sp:=bV 2 fun b H Q=>∃x g:Int,b=[.int x,.int g]/\0<=x/\0<=g/\∀m a,0<=m->ah H a->Q (.int m) a
theorem Iw{t e:TS}{c:TT}{D:Ends}{a:St}{H:Hp}(P:Bool->Prop)(f:∀d:Bool->Hp->Prop,(∀b H',ah H H'->P b->d b H')->c a H d)(h:∀b H',ah H H'->P b->if b=ω then t D a H' else e D a H'):bj c t e D a H:=f _ h
noncomputable def lA(_:QK):Sp:=bV 5 fun e H Q=>∃(b c d:QI)(cell one:Int)(s:aB)(n:Nat),e=[.ref b,.int cell,.ref c,.ref d,.int s.giv]/\H b=ψ (.lst ((dX one 5).map V.int))/\H c=ψ (.lst ((s.ps.map (·.1)).map V.str))/\H d=ψ (.lst ((s.cs.map (·.1)).map V.str))/\bX n s/\
 ∀(D:aL) l a,H l=χ->ah H a->D.ok->D.due s=χ->a l=ψ (.lst (D.row.map V.str))->Q (.ref l) a
noncomputable def fB(K:QK):Sp:=bV 5 fun f H Q=>∃(d a b c:QI)(g:⇑QI)(s:aB)(rows:⇑js)(cell one:Int)(n:Nat),f=[.ref d,.ref a,.int cell,.ref b,.ref c]/\cA K H d g s/\bX n s/\H a=ψ (.lst ((dX one 5).map V.int))/\pO H b c s rows/\∀e,ah H e->Q (.bl true) e
noncomputable def iA(_:QK):Sp:=bV 3 fun e H Q=>∃(lt b c:QI)(s:aB)(rows:⇑js)(D:aL)(n:Nat),e=[.ref lt,.ref b,.ref c]/\H lt=ψ (.lst (D.row.map V.str))/\lt∉d4 b c rows/\pO H b c s rows/\bX n s/\D.ok/\D.due s=χ/\
 ∀d a,pO d b c (D.app s) a->bo (d4 b c rows) H d->gY (d4 b c rows) (d4 b c a) H->Q (.int ((D.app s).giv-s.giv)) d
def iz(K:QK):Sp:=bV 3 fun e H Q=>∃(d a b:QI)(f:⇑QI)(s:aB)(rows:⇑js)(n:Nat),e=[.ref d,.ref a,.ref b]/\cA K H d f s/\bX n s/\pO H a b s rows/\∀c,ah H c->Q (.bl true) c
def top(i:Nat):QU:=PySem.Challenge.pw_purse_k54_whole_text_years.main.body.getD i (.Pass ⟨0,0,0,0⟩)
abbrev vD:QU:=top 62
theorem sJ:au ["script","k","cell"] ["script","k"] (ag vD):=⟨rfl,rfl,rfl,nofun,rfl,nofun,nofun⟩
abbrev iU:QU:=inClass (top 43) 0
theorem hV:au ["self"] ["self"] (ag iU):=⟨rfl,rfl,rfl,nofun,rfl,nofun,nofun⟩
abbrev jV:QU:=inClass (top 60) 0
theorem iV:au ["self"] ["self"] (ag jV):=⟨rfl,rfl,rfl,nofun,rfl,nofun,nofun⟩
abbrev pG:QU:=top 63
theorem nL:au ["cell","many","spins","k","turn"] ["cell","many"] (ag pG):=⟨rfl,rfl,rfl,nofun,rfl,nofun,nofun⟩
abbrev mT:QU:=top 65
theorem kS:au ["word"] ["word"] (ag mT):=⟨rfl,rfl,rfl,nofun,rfl,nofun,nofun⟩
abbrev qy:QU:=top 66
theorem og:au ["answer","works","part","words","names"] ["answer"] (ag qy):=⟨rfl,rfl,rfl,nofun,rfl,nofun,nofun⟩
abbrev qj:QU:=top 47
theorem nU:au ["row","words"] ["row"] (ag qj):=⟨rfl,rfl,rfl,nofun,rfl,nofun,nofun⟩
abbrev i5:QU:=top 5
theorem ie:au ["step","number","multiple"] ["step","number"] (ag i5):=⟨rfl,rfl,rfl,nofun,rfl,nofun,nofun⟩
abbrev vm:QU:=top 6
theorem sD:au ["n","least","number"] ["n"] (ag vm):=⟨rfl,rfl,rfl,nofun,rfl,nofun,nofun⟩
abbrev sR:QU:=top 7
theorem pD:au ["voters","works","factor","grains","work"] ["voters","works"] (ag sR):=⟨rfl,rfl,rfl,nofun,rfl,nofun,nofun⟩
abbrev yE:QU:=top 22
theorem vK:au ["steps","voter"] ["steps","voter"] (ag yE):=⟨rfl,rfl,rfl,nofun,rfl,nofun,nofun⟩
abbrev yd:QU:=top 23
theorem uI:au ["purses","steps"] ["purses","steps"] (ag yd):=⟨rfl,rfl,rfl,nofun,rfl,nofun,nofun⟩
abbrev sI:QU:=top 15
theorem pA:au ["costs","wishes","grains"] ["costs","wishes"] (ag sI):=⟨rfl,rfl,rfl,nofun,rfl,nofun,nofun⟩
abbrev qi:QU:=top 2
theorem ng:au ["amount","shares"] ["amount","shares"] (ag qi):=⟨rfl,rfl,rfl,nofun,rfl,nofun,nofun⟩
abbrev sg:QU:=top 3
theorem p7:au ["purses","price","missing","payers","purse"] ["purses","price"] (ag sg):=⟨rfl,rfl,rfl,nofun,rfl,nofun,nofun⟩
abbrev sq:QU:=top 11
theorem qo:au ["wanted","works"] ["wanted","works"] (ag sq):=⟨rfl,rfl,rfl,nofun,rfl,nofun,nofun⟩
abbrev rQ:QU:=top 13
theorem p8:au ["wishes","works"] ["wishes","works"] (ag rQ):=⟨rfl,rfl,rfl,nofun,rfl,nofun,nofun⟩
abbrev oU:QU:=top 12
theorem nK:au ["wishes","work"] ["wishes","work"] (ag oU):=⟨rfl,rfl,rfl,nofun,rfl,nofun,nofun⟩
abbrev vQ:QU:=top 16
theorem sS:au ["purses","wishes","work","price"] ["purses","wishes","work","price"] (ag vQ):=⟨rfl,rfl,rfl,nofun,rfl,nofun,nofun⟩
abbrev sV:QU:=top 17
theorem qh:au ["purses","costs","wishes","done","offers","work","price"] ["purses","costs","wishes","done"] (ag sV):=⟨rfl,rfl,rfl,nofun,rfl,nofun,nofun⟩
abbrev yN:QU:=top 18
theorem wI:au ["offers","best","work","offer"] ["offers"] (ag yN):=⟨rfl,rfl,rfl,nofun,rfl,nofun,nofun⟩
abbrev wy:QU:=top 21
theorem sA:au ["steps"] ["steps"] (ag wy):=⟨rfl,rfl,rfl,nofun,rfl,nofun,nofun⟩
abbrev yf:QU:=top 1
theorem wF:au ["purses","level"] ["purses","level"] (ag yf):=⟨rfl,rfl,rfl,nofun,rfl,nofun,nofun⟩
abbrev nk:QU:=top 20
theorem kA:au ["purses","wishes","work","level","wanters"] ["purses","wishes","work","level"] (ag nk):=⟨rfl,rfl,rfl,nofun,rfl,nofun,nofun⟩
abbrev mS:QU:=top 24
theorem kn:au ["purses","costs","wishes","steps","left","offers","work","level"] ["purses","costs","wishes","steps"] (ag mS):=⟨rfl,rfl,rfl,nofun,rfl,nofun,nofun⟩
abbrev CB:QU:=top 25
theorem yU:au ["purses","costs","wishes","steps","step"] ["purses","costs","wishes"] (ag CB):=⟨rfl,rfl,rfl,nofun,rfl,nofun,nofun⟩
abbrev gr:QU:=inClass (top 43) 21
theorem fO:au ["self","left","grains"] ["self","left","grains"] (ag gr):=⟨rfl,rfl,rfl,nofun,rfl,nofun,nofun⟩
abbrev eP:QU:=inClass (top 43) 8
theorem eF:au ["self","voter"] ["self","voter"] (ag eP):=⟨rfl,rfl,rfl,nofun,rfl,nofun,nofun⟩
abbrev g9:QU:=inClass (top 43) 20
theorem gu:au ["self","place","paid","name","rows"] ["self","place","paid"] (ag g9):=⟨rfl,rfl,rfl,nofun,rfl,nofun,nofun⟩
abbrev gM:QU:=inClass (top 43) 10
theorem fK:au ["self","work"] ["self","work"] (ag gM):=⟨rfl,rfl,rfl,nofun,rfl,nofun,nofun⟩
abbrev i7:QU:=inClass (top 43) 16
theorem ib:au ["self","work"] ["self","work"] (ag i7):=⟨rfl,rfl,rfl,nofun,rfl,nofun,nofun⟩
abbrev nX:QU:=inClass (top 43) 19
theorem lU:au ["self","grains","purses","wishes","steps","told","name","cost","rows"] ["self"] (ag nX):=⟨rfl,rfl,rfl,nofun,rfl,nofun,nofun⟩
abbrev se:QU:=top 51
theorem pJ:au ["rows"] ["rows"] (ag se):=⟨rfl,rfl,rfl,nofun,rfl,nofun,nofun⟩
abbrev sf:QU:=top 52
theorem qG:au ["work","cost","rows","payers"] ["work","cost","rows"] (ag sf):=⟨rfl,rfl,rfl,nofun,rfl,nofun,nofun⟩
abbrev ki:QU:=top 53
theorem jU:au ["done","grains","told"] ["done","grains"] (ag ki):=⟨rfl,rfl,rfl,nofun,rfl,nofun,nofun⟩
abbrev nF:QU:=top 56
theorem lY:au ["chest","closing"] ["chest"] (ag nF):=⟨rfl,rfl,rfl,nofun,rfl,nofun,nofun⟩
abbrev sk:QU:=top 54
theorem qg:au ["work","cost","wanters","names"] ["work","cost","wanters"] (ag sk):=⟨rfl,rfl,rfl,nofun,rfl,nofun,nofun⟩
abbrev qB:QU:=top 55
theorem mX:au ["works"] ["works"] (ag qB):=⟨rfl,rfl,rfl,nofun,rfl,nofun,nofun⟩
abbrev j4:QU:=inClass (top 43) 7
theorem i8:au ["self","work"] ["self","work"] (ag j4):=⟨rfl,rfl,rfl,nofun,rfl,nofun,nofun⟩
abbrev nA:QU:=inClass (top 43) 2
theorem kO:au ["self"] ["self"] (ag nA):=⟨rfl,rfl,rfl,nofun,rfl,nofun,nofun⟩
abbrev sE:QU:=inClass (top 43) 3
theorem pV:au ["self"] ["self"] (ag sE):=⟨rfl,rfl,rfl,nofun,rfl,nofun,nofun⟩
abbrev mO:QU:=inClass (top 43) 4
theorem kh:au ["self"] ["self"] (ag mO):=⟨rfl,rfl,rfl,nofun,rfl,nofun,nofun⟩
abbrev nI:QU:=inClass (top 43) 5
theorem kT:au ["self"] ["self"] (ag nI):=⟨rfl,rfl,rfl,nofun,rfl,nofun,nofun⟩
abbrev ye:QU:=top 57
theorem vf:au ["chest","deed"] ["chest","deed"] (ag ye):=⟨rfl,rfl,rfl,nofun,rfl,nofun,nofun⟩
abbrev yc:QU:=top 39
theorem uJ:au ["name"] ["name"] (ag yc):=⟨rfl,rfl,rfl,nofun,rfl,nofun,nofun⟩
abbrev i4:QU:=top 40
theorem hW:au ["name","names"] ["name","names"] (ag i4):=⟨rfl,rfl,rfl,nofun,rfl,nofun,nofun⟩
abbrev nR:QU:=top 42
theorem kW:au ["names","most"] ["names","most"] (ag nR):=⟨rfl,rfl,rfl,nofun,rfl,nofun,nofun⟩
abbrev nY:QU:=inClass (top 43) 11
theorem lL:au ["self","name"] ["self","name"] (ag nY):=⟨rfl,rfl,rfl,nofun,rfl,nofun,nofun⟩
abbrev fU:QU:=inClass (top 43) 9
theorem fv:au ["self","voter"] ["self","voter"] (ag fU):=⟨rfl,rfl,rfl,nofun,rfl,nofun,nofun⟩
abbrev iY:QU:=inClass (top 43) 6
theorem hU:au ["self","voter"] ["self","voter"] (ag iY):=⟨rfl,rfl,rfl,nofun,rfl,nofun,nofun⟩
abbrev m6:QU:=inClass (top 43) 12
theorem kU:au ["self","name"] ["self","name"] (ag m6):=⟨rfl,rfl,rfl,nofun,rfl,nofun,nofun⟩
abbrev nD:QU:=top 41
theorem kx:au ["coins","least"] ["coins","least"] (ag nD):=⟨rfl,rfl,rfl,nofun,rfl,nofun,nofun⟩
abbrev nN:QU:=inClass (top 43) 14
theorem lC:au ["self","part"] ["self","part"] (ag nN):=⟨rfl,rfl,rfl,nofun,rfl,nofun,nofun⟩
abbrev qk:QU:=inClass (top 43) 13
theorem mZ:au ["self","coins"] ["self","coins"] (ag qk):=⟨rfl,rfl,rfl,nofun,rfl,nofun,nofun⟩
abbrev rP:QU:=top 48
theorem pU:au ["word"] ["word"] (ag rP):=⟨rfl,rfl,rfl,nofun,rfl,nofun,nofun⟩
abbrev mW:QU:=top 49
theorem kP:au ["word"] ["word"] (ag mW):=⟨rfl,rfl,rfl,nofun,rfl,nofun,nofun⟩
abbrev yY:QU:=top 58
theorem wz:au ["chest","deed","word"] ["chest","deed","word"] (ag yY):=⟨rfl,rfl,rfl,nofun,rfl,nofun,nofun⟩
abbrev jT:QU:=inClass (top 43) 15
theorem iX:au ["self","work","cost"] ["self","work","cost"] (ag jT):=⟨rfl,rfl,rfl,nofun,rfl,nofun,nofun⟩
abbrev o6:QU:=inClass (top 43) 17
theorem nt:au ["self","voter","work"] ["self","voter","work"] (ag o6):=⟨rfl,rfl,rfl,nofun,rfl,nofun,nofun⟩
abbrev lE:QU:=inClass (top 43) 18
theorem j6:au ["self","voter","work"] ["self","voter","work"] (ag lE):=⟨rfl,rfl,rfl,nofun,rfl,nofun,nofun⟩
abbrev rM:QU:=top 59
theorem qJ:au ["chest","deed","word","last"] ["chest","deed","word","last"] (ag rM):=⟨rfl,rfl,rfl,nofun,rfl,nofun,nofun⟩
abbrev uV:QU:=inClass (top 60) 1
theorem sO:au ["self","row","words"] ["self","row"] (ag uV):=⟨rfl,rfl,rfl,nofun,rfl,nofun,nofun⟩
abbrev qF:QU:=top 67
theorem mR:au ["desk","people","numbers"] ["desk","people"] (ag qF):=⟨rfl,rfl,rfl,nofun,rfl,nofun,nofun⟩
abbrev sm:QU:=top 69
theorem pf:au ["text","names","left","total","known","part","words"] ["text","names","left"] (ag sm):=⟨rfl,rfl,rfl,nofun,rfl,nofun,nofun⟩
abbrev gJ:QU:=top 70
theorem fM:au ["parts","grains","works","left","spent","part","halves","there"] ["parts","grains","works","left"] (ag gJ):=⟨rfl,rfl,rfl,nofun,rfl,nofun,nofun⟩
abbrev jX:QU:=top 71
theorem i0:au ["works","people","purses","name","cost","names"] ["works","people","purses"] (ag jX):=⟨rfl,rfl,rfl,nofun,rfl,nofun,nofun⟩
abbrev nZ:QU:=top 72
theorem kB:au ["desk","people","works","ahead","answer","grains","parts","words","left","k","name","spent","behind"] ["desk","people"] (ag nZ):=⟨rfl,rfl,rfl,nofun,rfl,nofun,nofun⟩
abbrev so:QU:=top 68
theorem qD:au ["desk","people","given","numbers"] ["desk","people","given"] (ag so):=⟨rfl,rfl,rfl,nofun,rfl,nofun,nofun⟩
abbrev rW:QU:=top 64
theorem pM:au ["cell","k","letters","xs","word","at"] ["cell","k"] (ag rW):=⟨rfl,rfl,rfl,nofun,rfl,nofun,nofun⟩
abbrev nP:QU:=top 73
theorem kH:au ["x","given"] ["x","given"] (ag nP):=⟨rfl,rfl,rfl,nofun,rfl,nofun,nofun⟩
abbrev vY:QU:=top 74
theorem rV:au ["xs","cell","people","plans","given","name","work","way","fresh"] ["xs","cell","people","plans","given"] (ag vY):=⟨rfl,rfl,rfl,nofun,rfl,nofun,nofun⟩
abbrev kF:QU:=top 77
theorem fI:au ["desk","xs","cell","people","works","name","work","row","caught","e"] ["desk","xs","cell","people","works"] (ag kF):=⟨rfl,rfl,rfl,nofun,rfl,nofun,nofun⟩
abbrev pR:QU:=top 75
theorem nS:au ["words","people","works","work"] ["words","people","works"] (ag pR):=⟨rfl,rfl,rfl,nofun,rfl,nofun,nofun⟩
abbrev qM:QU:=top 76
theorem nW:au ["desk","people","works","due","work","cost","names"] ["desk","people","works"] (ag qM):=⟨rfl,rfl,rfl,nofun,rfl,nofun,nofun⟩
abbrev Cv:QU:=top 78
theorem GX:au ["script","cell","desk","people","works","given","closings","one","xs","left","words"] ["script"] (ag Cv):=⟨rfl,rfl,rfl,nofun,rfl,nofun,nofun⟩
structure fR(K:QK):Prop where
 N4:(SQ K (aF K "NoName")).isSome=ω
 N2:Cw K (aF K "NoName")
 PM:(SQ K (aF K "Twice")).isSome=ω
 O6:Cw K (aF K "Twice")
 NS:(SQ K (aF K "NoVoter")).isSome=ω
 Mr:Cw K (aF K "NoVoter")
 OQ:(SQ K (aF K "NoWork")).isSome=ω
 NY:Cw K (aF K "NoWork")
 NU:(SQ K (aF K "TooMuch")).isSome=ω
 L6:Cw K (aF K "TooMuch")
 PZ:(SQ K (aF K "Full")).isSome=ω
 Pw:Cw K (aF K "Full")
 Pz:(SQ K (aF K "NoRow")).isSome=ω
 O4:Cw K (aF K "NoRow")
 mD:SH K (.ref (aF K "NoName")) (.ref (aF K "PurseError"))=ψ true
 oj:SH K (.ref (aF K "Twice")) (.ref (aF K "PurseError"))=ψ true
 mi:SH K (.ref (aF K "NoVoter")) (.ref (aF K "PurseError"))=ψ true
 mF:SH K (.ref (aF K "NoWork")) (.ref (aF K "PurseError"))=ψ true
 kf:SH K (.ref (aF K "TooMuch")) (.ref (aF K "PurseError"))=ψ true
 oZ:SH K (.ref (aF K "Full")) (.ref (aF K "PurseError"))=ψ true
 oF:SH K (.ref (aF K "NoRow")) (.ref (aF K "PurseError"))=ψ true
 aG:L2.fR K (aF K "Chest")
 aK:cF K (aF K "Chest") "purses"
 bz:cF K (aF K "Chest") "costs"
 bB:cF K (aF K "Chest") "wishes"
 bZ:cF K (aF K "Chest") "unshared"
 ir:cF K (aF K "Chest") "gifts"
 gN:cF K (aF K "Chest") "outlay"
 zL:L2.fR K (aF K "Desk")
 gf:cF K (aF K "Desk") "chest"
def sT(K:QK):TS:=
 (ax (kb (bL K (CM (xq K) (aa 0) (fN (aa 1)) (fN (az gX (aa 1) (tC (.int 1)))))) (af 2) (aS (aa 2)))
  (aS (tC (.int 0))))
noncomputable def ij(K:QK):TS:=
 (ax (o5 K (aa 0) uQ "purses")
  (ax (o5 K (aa 0) uQ "costs")
  (ax (o5 K (aa 0) (dy ao) "wishes")
  (ax (o5 K (aa 0) (tC (.int 0)) "unshared")
  (ax (o5 K (aa 0) (tC (.int 0)) "gifts")
  (o5 K (aa 0) (tC (.int 0)) "outlay"))))))
def iP(K:QK):TS:=
 (o5 K (aa 0) (Cz (aF K "Chest") (eu K) [] E0 ao) "chest")
noncomputable def mP(K:QK):TS:=
 (ax (aV (dy ao) (af 2))
  (ax (kb (sN (ae (aa 1) ao)) (af 3) (ax (aV (az gX (az gX (az oMod (aa 0) (tC (.int 900900929))) (az ka (tC (.int 2503)) (aa 3))) (tC (.int 77))) (af 4))
  (bI (lV K "list" dD (aa 2) (ae (az oMod (az oDiv (az ka (az ka (aa 4) (aa 4)) (az gX (aa 4) (az ka (tC (.int 31)) (aa 3)))) (tC (.int 13))) (tC (.int 700700003))) ao)))))
  (aS (aa 2))))
noncomputable def kg(K:QK):TS:=
 (ax (bj (tE (ay (az fS (aa 0) (tC (.str "")))) (tE (ay (az N1 (dB sh (ae (aa 0) ao)) (tC (.int 150)))) (ay (az (qL K true) (bp [none] (Be (aa 0)) (af 0) (ay (az ub (aa 0) (tC (.str "0123456789")))) (aa 0)) (dy ao))))) (aS (tC .non)) aQ)
  (ax (bj (kr (ay (az N1 (dB sh (ae (aa 0) ao)) (tC (.int 1)))) (ay (az fS (az Dt (aa 0) (tC (.int 0))) (tC (.str "0"))))) (aS (tC .non)) aQ)
  (aS (dB iI (ae (aa 0) ao)))))
noncomputable def mV(K:QK):TS:=
 (ax (bj (ay (az fS (aa 0) (tC (.str "none")))) (aS (dy ao)) aQ)
  (ax (aV (dy ao) (af 1))
  (ax (kb (bL K (lV K "str" iF (aa 0) (ae (tC (.str ", ")) ao))) (af 2) (ax (aV (lV K "str" iF (aa 2) (ae (tC (.str " ")) ao)) (af 3))
  (ax (bj (tE (ay (az Cp (dB (c9 K) (ae (aa 3) ao)) (tC (.int 3)))) (ay (az Ap (aJ (bD K) [] E0 (ae (az (aY K) (aa 3) (tC (.int 1))) ao)) (tC .non)))) (aS (tC .non)) aQ)
  (ax (aV (lV K "str" iF (az (aY K) (aa 3) (tC (.int 2))) (ae (tC (.str "+")) ao)) (af 4))
  (ax (bj (ay (az fS (az (aY K) (aa 3) (tC (.int 2))) (tC (.str "-")))) (aV (dy ao) (af 4)) aQ)
  (bI (lV K "list" dD (aa 1) (ae (jE (ae (az (aY K) (aa 3) (tC (.int 0))) (ae (aJ (bD K) [] E0 (ae (az (aY K) (aa 3) (tC (.int 1))) ao)) (ae (aa 4) ao)))) ao))))))))
  (aS (aa 1)))))
noncomputable def nE(K:QK)(E:XK):TS:=
 (ax (aV (lV K "str" iF (aa 0) (ae (tC (.str " ")) ao)) (af 1))
  (ax (bj (ay (az (tV K false) (tC (.str "")) (aa 1))) (dM (aF K "NoRow") E (ae (yW [(tC (.str "no row: ")),(nJ (aa 0))] Rh) ao)) aQ)
  (aS (aa 1))))
def ik(K:QK):TS:=
 (ax (aV (aa 0) (af 2))
  (ax (DX (ay (az Cp (az oMod (aa 2) (aa 1)) (tC (.int 0)))) (DC 2 (aa 0) gX))
  (aS (aa 2))))
noncomputable def sU(K:QK):TS:=
 (ax (aV (tC (.int 1)) (af 1))
  (ax (kb (Hv (ae (tC (.int 1)) (ae (az gX (aa 0) (tC (.int 1))) ao))) (af 2) (aV (aJ (eI K) [] E0 (ae (aa 1) (ae (aa 2) ao))) (af 1)))
  (aS (aa 1))))
def oY(K:QK):TS:=
 (ax (aV (aJ (kR K) [] E0 (ae (aa 0) ao)) (af 2))
  (ax (aV (aa 2) (af 3))
  (ax (kb (sN (ae (aa 1) ao)) (af 4) (DC 3 (aa 2) ka))
  (aS (aa 3)))))
def wg(K:QK):TS:=
 (aS (dB (Bb K) (ae (bp [none,none,none,ψ 1] (bL K (aa 0)) (dN K 3 (aR (af 0) (aR (af 1) (aR (af 2) dJ)))) cM (az (aY K) (aa 2) (aa 3))) ao)))
def vU(K:QK):TS:=
 (aS (bp [none,none,ψ 1] (sP K (aa 0)) (dN K 2 (aR (af 0) (aR (af 1) dJ))) cM (az xo (aa 1) (aJ (oH K) [] E0 (ae (aa 2) (ae (aa 0) ao))))))
noncomputable def pF(K:QK):TS:=
 (ax (aV (aJ (fW K) [] E0 (ae (dB (c9 K) (ae (aa 1) ao)) (ae (dB (c9 K) (ae (aa 0) ao)) ao))) (af 2))
  (aS (bp [none,ψ 2] (bL K (aa 0)) (af 0) cM (az ka (aa 0) (aa 1)))))
def ni(K:QK):TS:=
 (aS (az oDiv (az xo (az gX (aa 0) (aa 1)) (tC (.int 1))) (aa 1)))
noncomputable def o7(K:QK):TS:=
 (ax (bj (ay (az oLt (dB (Bb K) (ae (aa 0) ao)) (aa 1))) (aS (tC .non)) aQ)
  (ax (aV (aa 1) (af 2))
  (ax (aV (dB (c9 K) (ae (aa 0) ao)) (af 3))
  (ax (kb (bL K (dB (EC K) (ae (aa 0) ao))) (af 4) (ax (bj (ay (az Oi (az ka (aa 4) (aa 3)) (aa 2))) (aS (aJ (iB K) [] E0 (ae (aa 2) (ae (aa 3) ao)))) aQ)
  (ax (DC 2 (aa 4) xo)
  (DC 3 (tC (.int 1)) xo))))
  (aS (tC (.int 0)))))))
def pI(K:QK):TS:=
 (aS (dB (Hj K) (ae (bp [none,ψ 0] (bL K (aa 1)) (af 0) cM (az (tV K false) (aa 0) (aa 1))) ao)))
def pX(K:QK):TS:=
 (aS (bp [none,none,ψ 1] (sP K (aa 0)) (dN K 2 (aR (af 0) (aR (af 1) dJ))) (tB (aJ (jK K) [] E0 (ae (aa 1) (ae (aa 2) ao)))) (aa 0)))
def mU(K:QK):TS:=
 (aS (aJ (jA K) [] E0 (ae (aa 0) (ae (dy (ae (aa 1) ao)) ao))))
def r9(K:QK):TS:=
 (aS (aJ (jJ K) [] E0 (ae (bp [none,ψ 0] (bL K (aJ (fh K) [] E0 (ae (aa 1) (ae (aa 2) ao)))) (af 0) cM (az (aY K) (aa 1) (aa 0))) (ae (aa 3) ao))))
noncomputable def pS(K:QK):TS:=
 (ax (aV (dy ao) (af 4))
  (ax (kb (sP K (aJ (jz K) [] E0 (ae (aa 1) (ae (aa 2) ao)))) (dN K 2 (aR (af 5) (aR (af 6) dJ))) (bI (lV K "list" dD (aa 4) (ae (Oz (ay (az (tV K false) (aa 5) (aa 3))) (tC .non) (aJ (kK K) [] E0 (ae (aa 0) (ae (aa 2) (ae (aa 5) (ae (aa 6) ao)))))) ao))))
  (aS (aa 4))))
noncomputable def uE(K:QK):TS:=
 (ax (aV (tC .non) (af 1))
  (ax (kb (sP K (aa 0)) (dN K 2 (aR (af 2) (aR (af 3) dJ))) (bj (kr (ay (az Ey (aa 3) (tC .non))) (tE (ay (az Ap (aa 1) (tC .non))) (ay (az oLt (aa 3) (az (aY K) (aa 0) (aa 1)))))) (aV (aa 2) (af 1)) aQ))
  (aS (aa 1))))
def rX(K:QK):TS:=
 (aS (dB (EC K) (ae (bp [none,none,none] (bL K (aa 0)) (dN K 3 (aR (af 0) (aR (af 1) (aR (af 2) dJ)))) cM (aa 0)) ao)))
def vS(K:QK):TS:=
 (aS (bp [none,ψ 1] (bL K (aa 0)) (af 0) cM (dB Kq (ae (aa 0) (ae (aa 1) ao)))))
noncomputable def lG(K:QK):TS:=
 (ax (aV (aJ (fh K) [] E0 (ae (aa 1) (ae (aa 2) ao))) (af 4))
  (aS (bp [none,none,ψ 4] (sP K (aJ (oI K) [] E0 (ae (aa 0) (ae (aa 3) ao)))) (dN K 2 (aR (af 0) (aR (af 1) dJ))) cM (Oz (ay (az (tV K false) (aa 0) (aa 2))) (aa 1) (tC (.int 0))))))
noncomputable def lO(K:QK):TS:=
 (ax (aV (aJ (jg K) [] E0 (ae (aa 0) (ae (aa 3) ao))) (af 4))
  (ax (aV (aJ (je K) [] E0 (ae (aa 4) (ae (aa 1) (ae (aa 2) (ae (aJ (lN K) [] E0 (ae (aa 3) ao)) ao))))) (af 5))
  (ax (aV (aJ (oJ K) [] E0 (ae (aa 5) ao)) (af 6))
  (ax (bj (ay (az Ap (aa 6) (tC .non))) (aS (tC .non)) aQ)
  (ax (aV (az (aY K) (aa 5) (aa 6)) (af 7))
  (aS (jE (ae (aa 6) (ae (aa 7) (ae (aJ (gL K) [] E0 (ae (aa 4) (ae (aa 2) (ae (aa 6) (ae (aa 7) ao))))) ao))))))))))
noncomputable def yQ(K:QK):TS:=
 (ax (aV (dy ao) (af 3))
  (ax (aV (aJ (da K) [] E0 (ae (aa 0) (ae (aa 1) (ae (aa 2) (ae (aa 3) ao))))) (af 4))
  (ax (DX (ay (az Ey (aa 4) (tC .non))) (ax (bI (lV K "list" dD (aa 3) (ae (aa 4) ao)))
  (aV (aJ (da K) [] E0 (ae (aa 0) (ae (aa 1) (ae (aa 2) (ae (aa 3) ao))))) (af 4))))
  (aS (aa 3)))))
noncomputable def fL(K:QK):TS:=
 (ax (ia K (aa 0) (az oDiv (dB (Bb K) (ae (bp [none,ψ 2] (bL K (aa 1)) (af 0) cM (az oMod (aa 0) (aa 1))) ao)) (aa 2)) E1 "unshared")
  (o5 K (aa 0) (Dm K (ae (cz K (aa 0) "purses") (ae (bp [none,ψ 2] (bL K (aa 1)) (af 0) cM (az oDiv (aa 0) (aa 1))) ao))) "purses"))
noncomputable def eC(K:QK):TS:=
 (aS (fQ (bp [none,none,ψ 1,ψ 0] (DH (cz K (aa 0) "costs")) (dN K 2 (aR (af 0) (aR (af 1) dJ))) (ay (az (Gi K false) (jE (ae (aa 2) (ae (aa 1) ao))) (cz K (aa 3) "wishes"))) (aa 0))))
noncomputable def gs(K:QK):TS:=
 (ax (aV (az (aY K) (dB Jg (ae (cz K (aa 0) "costs") ao)) (aa 1)) (af 3))
  (ax (aV (fQ (bp [none,none] (Hw K (ae (cz K (aa 0) "purses") (ae (aa 2) ao))) (dN K 2 (aR (af 0) (aR (af 1) dJ))) (ay (az N1 (aa 1) (tC (.int 0)))) (jE (ae (aa 0) (ae (aa 1) ao))))) (af 4))
  (aS (jE (ae (aa 3) (ae (sy (cz K (aa 0) "costs") (aa 3)) (ae (aa 4) ao)))))))
def fJ(K:QK)(E:XK):TS:=
 (bj (tB (uk (aa 1) (cz K (aa 0) "costs"))) (dM (aF K "NoWork") E (ae (yW [(tC (.str "no work: ")),(nJ (aa 1))] Rh) ao)) aQ)
noncomputable def hX(K:QK)(E:XK):TS:=
 (ax (bI (bH (aF K "Chest") "check_work" (cn K) [] E (aa 0) (ae (aa 1) ao)))
  (ax (bI (zj (cz K (aa 0) "costs") (aa 1)))
  (o5 K (aa 0) (bp [none,none,ψ 1] (bL K (cz K (aa 0) "wishes")) (dN K 2 (aR (af 0) (aR (af 1) dJ))) (ay (az Cp (aa 1) (aa 2))) (jE (ae (aa 0) (ae (aa 1) ao)))) "wishes")))
noncomputable def lM(K:QK):TS:=
 (ax (bj (tE (rp (Pn (cz K (aa 0) "purses"))) (rp (Pn (cz K (aa 0) "costs")))) (aS (jE (ae (dy ao) (ae (tC (.int 1)) ao)))) aQ)
  (ax (aV (aJ (fW K) [] E0 (ae (dB ur (ae (cz K (aa 0) "purses") ao)) (ae (dB ur (ae (cz K (aa 0) "costs") ao)) ao))) (af 1))
  (ax (aV (fQ (bp [none,ψ 1] (HU (cz K (aa 0) "purses")) (af 0) cM (az ka (aa 0) (aa 1)))) (af 2))
  (ax (aV (fQ (bp [none,ψ 0] (Bp (cz K (aa 0) "purses")) (af 0) cM (bH (aF K "Chest") "wanted_places" (cU K) [] E0 (aa 1) (ae (aa 0) ao)))) (af 3))
  (ax (aV (aJ (qU K) [] E0 (ae (aa 2) (ae (dB BN (ae (M8 K "dict" Gy (cz K (aa 0) "costs")) ao)) (ae (aa 3) ao)))) (af 4))
  (ax (aV (bp [none,none,none,ψ 0] (bL K (aa 4)) (dN K 3 (aR (af 0) (aR (af 1) (aR (af 2) dJ)))) cM (bH (aF K "Chest") "told_step" (dF K) [] E0 (aa 3) (ae (aa 0) (ae (aa 2) ao)))) (af 5))
  (ax (bI (bH (aF K "Chest") "keep_coins" (du K) [] E0 (aa 0) (ae (aJ (jg K) [] E0 (ae (aa 2) (ae (aa 4) ao))) (ae (aa 1) ao))))
  (ax (kb (bL K (aa 5)) (dN K 3 (aR (af 6) (aR (af 7) (aR (af 8) dJ)))) (ax (ia K (aa 0) (aa 7) E1 "outlay")
  (bI (bH (aF K "Chest") "withdraw" (c5 K) [] E0 (aa 0) (ae (aa 6) ao)))))
  (aS (jE (ae (aa 5) (ae (aa 1) ao))))))))))))
def oW(K:QK):TS:=
 (aS (lV K "str" (rJoin K) (tC (.str ", ")) (ae (bp [none,none] (bL K (aa 0)) (dN K 2 (aR (af 0) (aR (af 1) dJ))) cM (yW [(sG (aa 0)),(tC (.str " ")),(x5 (aa 1))] Rh)) ao)))
def qQ(K:QK):TS:=
 (ax (aV (aJ (jm K) [] E0 (ae (aa 2) ao)) (af 3))
  (aS (yW [(sG (aa 0)),(tC (.str " ")),(x5 (aa 1)),(tC (.str ": ")),(sG (aa 3))] Rh)))
noncomputable def j3(K:QK):TS:=
 (ax (bj (rp (PH K (aa 0))) (aS (tC (.str "none"))) aQ)
  (ax (aV (lV K "str" (rJoin K) (tC (.str "; ")) (ae (bp [none,none,none] (bL K (aa 0)) (dN K 3 (aR (af 0) (aR (af 1) (aR (af 2) dJ)))) cM (aJ (jq K) [] E0 (ae (aa 0) (ae (aa 1) (ae (aa 2) ao))))) ao)) (af 2))
  (aS (yW [(sG (aa 2)),(tC (.str " of ")),(x5 (aa 1))] Rh))))
def kE(K:QK):TS:=
 (ax (aV (bH (aF K "Chest") "close" (gE K) [] E0 (aa 0) ao) (af 1))
  (aS (aJ (fF K) [] E0 (ae (az (gU K) (aa 1) (tC (.int 0))) (ae (az (gU K) (aa 1) (tC (.int 1))) ao)))))
noncomputable def qr(K:QK):TS:=
 (ax (aV (Oz (PH K (aa 2)) (lV K "str" (rJoin K) (tC (.str "+")) (ae (aa 2) ao)) (tC (.str "-"))) (af 3))
  (aS (yW [(sG (aa 0)),(tC (.str " ")),(x5 (aa 1)),(tC (.str " ")),(sG (aa 3))] Rh)))
noncomputable def nQ(K:QK):TS:=
 (ax (bj (rp (PH K (aa 0))) (aS (tC (.str "none"))) aQ)
  (aS (lV K "str" (rJoin K) (tC (.str ", ")) (ae (bp [none,none,none] (bL K (aa 0)) (dN K 3 (aR (af 0) (aR (af 1) (aR (af 2) dJ)))) cM (aJ (jB K) [] E0 (ae (aa 0) (ae (aa 1) (ae (aa 2) ao))))) ao))))
def iS(K:QK):TS:=
 (aS (fQ (bp [none,ψ 1,ψ 0] (Bp (cz K (aa 0) "purses")) (af 0) (ay (az (Gi K false) (jE (ae (aa 0) (ae (aa 1) ao))) (cz K (aa 2) "wishes"))) (aa 0))))
noncomputable def lJ(K:QK):TS:=
 (aS (fQ (bp [none,none,ψ 0] (wu (cz K (aa 0) "costs")) (dN K 2 (aR (af 0) (aR (af 1) dJ))) cM (jE (ae (aa 0) (ae (aa 1) (ae (bH (aF K "Chest") "wanters" (eQ K) [] E0 (aa 2) (ae (aa 0) ao)) ao)))))))
def qm(K:QK):TS:=
 (aS (cz K (aa 0) "unshared"))
def lW(K:QK):TS:=
 (aS (cz K (aa 0) "gifts"))
def ky(K:QK):TS:=
 (aS (cz K (aa 0) "outlay"))
noncomputable def uu(K:QK)(E:XK):TS:=
 (ax (bj (ay (az fS (aa 1) (tC (.str "close")))) (aS (aJ (gF K) [] E0 (ae (aa 0) ao))) aQ)
  (ax (bj (ay (az fS (aa 1) (tC (.str "works")))) (aS (aJ (iD K) [] E0 (ae (bH (aF K "Chest") "works" (gP K) [] E0 (aa 0) ao) ao))) aQ)
  (ax (bj (ay (az fS (aa 1) (tC (.str "pot")))) (aS (dB mQ (ae (bH (aF K "Chest") "pot" (jv K) [] E0 (aa 0) ao) ao))) aQ)
  (ax (bj (ay (az fS (aa 1) (tC (.str "given")))) (aS (dB mQ (ae (bH (aF K "Chest") "given" (gD K) [] E0 (aa 0) ao) ao))) aQ)
  (ax (bj (ay (az fS (aa 1) (tC (.str "spent")))) (aS (dB mQ (ae (bH (aF K "Chest") "spent" (gC K) [] E0 (aa 0) ao) ao))) aQ)
  (dM (aF K "NoRow") E (ae (yW [(tC (.str "no row of one word: ")),(nJ (aa 1))] Rh) ao)))))))
def uY(K:QK):TS:=
 (aS (yp (zO oLe oLe (tC (.int 1)) (dB sh (ae (aa 0) ao)) (tC (.int 8))) (dB (Hj K) (ae (bp [none] (Be (aa 0)) (af 0) cM (az IA (aa 0) (tC (.str "abcdefghijklmnopqrstuvwxyz")))) ao))))
noncomputable def hJ(K:QK)(E:XK):TS:=
 (ax (bj (rp (tB (aJ (ou K) [] E0 (ae (aa 0) ao)))) (dM (aF K "NoName") E (ae (yW [(tC (.str "no name: ")),(nJ (aa 0))] Rh) ao)) aQ)
  (bj (tB (M0 (aa 0) (aa 1))) (dM (aF K "Twice") E (ae (yW [(tC (.str "there already: ")),(sG (aa 0))] Rh) ao)) aQ))
def mf(K:QK)(E:XK):TS:=
 (bj (ay (az Oi (dB ur (ae (aa 0) ao)) (aa 1))) (dM (aF K "Full") E (ae (yW [(tC (.str "there are ")),(x5 (aa 1)),(tC (.str " already"))] Rh) ao)) aQ)
noncomputable def kI(K:QK)(E:XK):TS:=
 (ax (bI (aJ (c7 K) [] E (ae (aa 1) (ae (cz K (aa 0) "purses") ao))))
  (ax (bI (aJ (el K) [] E (ae (cz K (aa 0) "purses") (ae (tC (.int 20)) ao))))
  (vk (cz K (aa 0) "purses") (aa 1) (tC (.int 0)))))
def fz(K:QK)(E:XK):TS:=
 (bj (tB (uk (aa 1) (cz K (aa 0) "purses"))) (dM (aF K "NoVoter") E (ae (yW [(tC (.str "no voter: ")),(nJ (aa 1))] Rh) ao)) aQ)
def ig(K:QK)(E:XK):TS:=
 (ax (bI (bH (aF K "Chest") "check_voter" (bN K) [] E (aa 0) (ae (aa 1) ao)))
  (aS (sy (cz K (aa 0) "purses") (aa 1))))
noncomputable def kQ(K:QK)(E:XK):TS:=
 (ax (bI (bH (aF K "Chest") "check_voter" (bN K) [] E (aa 0) (ae (aa 1) ao)))
  (ax (ia K (aa 0) (zj (cz K (aa 0) "purses") (aa 1)) E1 "unshared")
  (o5 K (aa 0) (bp [none,none,ψ 1] (bL K (cz K (aa 0) "wishes")) (dN K 2 (aR (af 0) (aR (af 1) dJ))) (ay (az Cp (aa 0) (aa 2))) (jE (ae (aa 0) (ae (aa 1) ao)))) "wishes")))
noncomputable def ku(K:QK)(E:XK):TS:=
 (bj (tE (ay (az oLt (aa 0) (aa 1))) (ay (az N1 (aa 0) (tC (.int 1000000000))))) (dM (aF K "TooMuch") E (ae (yW [(tC (.str "not from ")),(x5 (aa 1)),(tC (.str " to ")),(x5 (tC (.int 1000000000))),(tC (.str " coins"))] Rh) ao)) aQ)
noncomputable def km(K:QK):TS:=
 (ax (ia K (aa 0) (az ka (aa 1) (dB ur (ae (cz K (aa 0) "purses") ao))) OL "unshared")
  (o5 K (aa 0) (dB (IK K) (ae (fQ (bp [none,none,ψ 1] (wu (cz K (aa 0) "purses")) (dN K 2 (aR (af 0) (aR (af 1) dJ))) cM (jE (ae (aa 0) (ae (az gX (aa 1) (aa 2)) ao))))) ao)) "purses"))
noncomputable def nG(K:QK)(E:XK):TS:=
 (ax (bI (aJ (eJ K) [] E (ae (aa 1) (ae (tC (.int 0)) ao))))
  (ax (ia K (aa 0) (aa 1) E1 "gifts")
  (ax (ia K (aa 0) (aa 1) E1 "unshared")
  (bj (Pn (cz K (aa 0) "purses")) (bI (bH (aF K "Chest") "share" (gI K) [] E0 (aa 0) (ae (az oDiv (cz K (aa 0) "unshared") (dB ur (ae (cz K (aa 0) "purses") ao))) ao))) aQ))))
noncomputable def qK(K:QK):TS:=
 (ax (bj (tB (lV K "str" ud (aa 0) (ae (tC (.str "0")) ao))) (aS (az fS (aa 0) (tC (.str "0")))) aQ)
  (aS (yp (zO oLe oLe (tC (.int 1)) (dB sh (ae (aa 0) ao)) (tC (.int 13))) (dB (Hj K) (ae (bp [none] (Be (aa 0)) (af 0) cM (az IA (aa 0) (tC (.str "0123456789")))) ao)))))
noncomputable def kN(K:QK)(E:XK):TS:=
 (ax (bj (rp (tB (aJ (jQ K) [] E0 (ae (aa 0) ao)))) (dM (aF K "NoRow") E (ae (yW [(tC (.str "no number: ")),(nJ (aa 0))] Rh) ao)) aQ)
  (aS (dB iI (ae (aa 0) ao))))
noncomputable def wx(K:QK)(E:XK):TS:=
 (ax (bj (ay (az fS (aa 1) (tC (.str "purse")))) (aS (dB mQ (ae (bH (aF K "Chest") "purse_of" (ee K) [] E (aa 0) (ae (aa 2) ao)) ao))) aQ)
  (ax (bj (ay (az fS (aa 1) (tC (.str "enrol")))) (bI (bH (aF K "Chest") "enrol" (gS K) [] E (aa 0) (ae (aa 2) ao))) (bj (ay (az fS (aa 1) (tC (.str "leave")))) (bI (bH (aF K "Chest") "leave" (gm K) [] E (aa 0) (ae (aa 2) ao))) (bj (ay (az fS (aa 1) (tC (.str "give")))) (bI (bH (aF K "Chest") "give" (iC K) [] E (aa 0) (ae (aJ (eD K) [] E (ae (aa 2) ao)) ao))) (bj (ay (az fS (aa 1) (tC (.str "withdraw")))) (bI (bH (aF K "Chest") "withdraw" (c5 K) [] E (aa 0) (ae (aa 2) ao))) (dM (aF K "NoRow") E (ae (yW [(tC (.str "no row of two words: ")),(nJ (aa 1))] Rh) ao))))))
  (aS (tC (.str "ok")))))
noncomputable def iM(K:QK)(E:XK):TS:=
 (ax (bI (aJ (c7 K) [] E (ae (aa 1) (ae (cz K (aa 0) "costs") ao))))
  (ax (bI (aJ (eJ K) [] E (ae (aa 2) (ae (tC (.int 1)) ao))))
  (ax (bI (aJ (el K) [] E (ae (cz K (aa 0) "costs") (ae (tC (.int 12)) ao))))
  (vk (cz K (aa 0) "costs") (aa 1) (aa 2)))))
noncomputable def nB(K:QK)(E:XK):TS:=
 (ax (bI (bH (aF K "Chest") "check_voter" (bN K) [] E (aa 0) (ae (aa 1) ao)))
  (ax (bI (bH (aF K "Chest") "check_work" (cn K) [] E (aa 0) (ae (aa 2) ao)))
  (bj (ay (az (Gi K true) (jE (ae (aa 1) (ae (aa 2) ao))) (cz K (aa 0) "wishes"))) (bI (lV K "list" dD (cz K (aa 0) "wishes") (ae (jE (ae (aa 1) (ae (aa 2) ao))) ao))) aQ)))
noncomputable def jS(K:QK)(E:XK):TS:=
 (ax (bI (bH (aF K "Chest") "check_voter" (bN K) [] E (aa 0) (ae (aa 1) ao)))
  (ax (bI (bH (aF K "Chest") "check_work" (cn K) [] E (aa 0) (ae (aa 2) ao)))
  (o5 K (aa 0) (bp [none,ψ 1,ψ 2] (bL K (cz K (aa 0) "wishes")) (af 0) (ay (az (qL K true) (aa 0) (jE (ae (aa 1) (ae (aa 2) ao))))) (aa 0)) "wishes")))
noncomputable def qO(K:QK)(E:XK):TS:=
 (ax (bj (ay (az fS (aa 1) (tC (.str "propose")))) (bI (bH (aF K "Chest") "propose" (eS K) [] E (aa 0) (ae (aa 2) (ae (aJ (eD K) [] E (ae (aa 3) ao)) ao)))) (bj (ay (az fS (aa 1) (tC (.str "want")))) (bI (bH (aF K "Chest") "want" (iw K) [] E (aa 0) (ae (aa 2) (ae (aa 3) ao)))) (bj (ay (az fS (aa 1) (tC (.str "unwant")))) (bI (bH (aF K "Chest") "unwant" (fE K) [] E (aa 0) (ae (aa 2) (ae (aa 3) ao)))) (dM (aF K "NoRow") E (ae (yW [(tC (.str "no row of three words: ")),(nJ (aa 1))] Rh) ao)))))
  (aS (tC (.str "ok"))))
noncomputable def rR(K:QK)(E:XK):TS:=
 (ax (aV (aJ (ix K) [] E (ae (aa 1) ao)) (af 2))
  (ax (bj (ay (az fS (dB (c9 K) (ae (aa 2) ao)) (tC (.int 1)))) (aS (aJ (oq K) [] E (ae (cz K (aa 0) "chest") (ae (az (aY K) (aa 2) (tC (.int 0))) ao)))) aQ)
  (ax (bj (ay (az fS (dB (c9 K) (ae (aa 2) ao)) (tC (.int 2)))) (aS (aJ (ow K) [] E (ae (cz K (aa 0) "chest") (ae (az (aY K) (aa 2) (tC (.int 0))) (ae (az (aY K) (aa 2) (tC (.int 1))) ao))))) aQ)
  (ax (bj (ay (az fS (dB (c9 K) (ae (aa 2) ao)) (tC (.int 3)))) (aS (aJ (jf K) [] E (ae (cz K (aa 0) "chest") (ae (az (aY K) (aa 2) (tC (.int 0))) (ae (az (aY K) (aa 2) (tC (.int 1))) (ae (az (aY K) (aa 2) (tC (.int 2))) ao)))))) aQ)
  (dM (aF K "NoRow") E (ae (yW [(tC (.str "too many words: ")),(nJ (aa 1))] Rh) ao))))))
noncomputable def nh(K:QK):TS:=
 (ax (aV (bp [none,ψ 0] (bL K (dy (ae (tC (.str "given")) (ae (tC (.str "spent")) (ae (tC (.str "pot")) ao))))) (af 0) cM (aJ (bD K) [] E0 (ae (bH (aF K "Desk") "say" (bT K) [] E0 (aa 1) (ae (aa 0) ao)) ao))) (af 2))
  (aS (az HE (aa 2) (bp [none,ψ 0] (bL K (aa 1)) (af 0) cM (aJ (bD K) [] E0 (ae (bH (aF K "Desk") "say" (bT K) [] E0 (aa 1) (ae (az gy (tC (.str "purse ")) (aa 0)) ao)) ao))))))
noncomputable def pN(K:QK):TS:=
 (ax (aV (tC (.int 0)) (af 3))
  (ax (aV (dy ao) (af 4))
  (ax (kb (bL K (lV K "str" iF (aa 0) (ae (tC (.str ", ")) ao))) (af 5) (ax (aV (lV K "str" iF (aa 5) (ae (tC (.str " ")) ao)) (af 6))
  (ax (bj (tE (ay (az Cp (dB (c9 K) (ae (aa 6) ao)) (tC (.int 2)))) (tE (ay (az (tV K true) (az (aY K) (aa 6) (tC (.int 0))) (aa 1))) (tE (ay (az (tV K false) (az (aY K) (aa 6) (tC (.int 0))) (aa 4))) (ay (az Ap (aJ (bD K) [] E0 (ae (az (aY K) (aa 6) (tC (.int 1))) ao)) (tC .non)))))) (aS (tC .non)) aQ)
  (ax (bI (lV K "list" dD (aa 4) (ae (az (aY K) (aa 6) (tC (.int 0))) ao)))
  (ax (vk (aa 2) (az (aY K) (aa 6) (tC (.int 0))) (az xo (sy (aa 2) (az (aY K) (aa 6) (tC (.int 0)))) (aJ (bD K) [] E0 (ae (az (aY K) (aa 6) (tC (.int 1))) ao))))
  (ax (bj (tE (ay (az oLt (aJ (bD K) [] E0 (ae (az (aY K) (aa 6) (tC (.int 1))) ao)) (tC (.int 1)))) (ay (az oLt (sy (aa 2) (az (aY K) (aa 6) (tC (.int 0)))) (tC (.int 0))))) (aS (tC .non)) aQ)
  (aV (az gX (aa 3) (aJ (bD K) [] E0 (ae (az (aY K) (aa 6) (tC (.int 1))) ao))) (af 3))))))))
  (aS (aa 3)))))
noncomputable def fP(K:QK):TS:=
 (ax (aV (tC (.int 0)) (af 4))
  (ax (kb (bL K (aa 0)) (af 5) (ax (aV (lV K "str" iF (aa 5) (ae (tC (.str ": ")) ao)) (af 6))
  (ax (aV (bp [none,ψ 6] (bL K (aa 2)) (af 0) (ay (az fS (az gy (az gy (az (gU K) (aa 0) (tC (.int 0))) (tC (.str " "))) (dB mQ (ae (az (gU K) (aa 0) (tC (.int 1))) ao))) (az (aY K) (aa 1) (tC (.int 0))))) (aa 0)) (af 7))
  (ax (bj (tE (ay (az Cp (dB (c9 K) (ae (aa 6) ao)) (tC (.int 2)))) (ay (az Cp (dB (c9 K) (ae (aa 7) ao)) (tC (.int 1))))) (aS (tC .non)) aQ)
  (ax (bj (ay (az Cp (aJ (jj K) [] E0 (ae (az (aY K) (aa 6) (tC (.int 1))) (ae (az (gU K) (az (aY K) (aa 7) (tC (.int 0))) (tC (.int 2))) (ae (aa 3) ao)))) (az ka (az (gU K) (az (aY K) (aa 7) (tC (.int 0))) (tC (.int 1))) (aa 1)))) (aS (tC .non)) aQ)
  (ax (bI (lV K "list" (mB K) (aa 2) (ae (az (aY K) (aa 7) (tC (.int 0))) ao)))
  (aV (az gX (aa 4) (az (gU K) (az (aY K) (aa 7) (tC (.int 0))) (tC (.int 1)))) (af 4))))))))
  (aS (aa 4))))
noncomputable def iR(K:QK):TS:=
 (ax (kb (bL K (aa 0)) (dN K 3 (aR (af 3) (aR (af 4) (aR (af 5) dJ)))) (bj (ay (az Oi (dB (Bb K) (ae (bp [none,ψ 1,ψ 5,ψ 2] (sN (ae (dB (c9 K) (ae (aa 1) ao)) ao)) (af 0) (ay (az (tV K false) (az (aY K) (aa 1) (aa 0)) (aa 2))) (az (aY K) (aa 3) (aa 0))) ao)) (aa 4))) (aS (tC (.bl false))) aQ))
  (aS (tC (.bl true))))
noncomputable def kZ(K:QK):TS:=
 (ax (aV (aJ (cY K) [] E0 (ae (bH (aF K "Desk") "say" (bT K) [] E0 (aa 0) (ae (tC (.str "works")) ao)) ao)) (af 2))
  (ax (aV (aJ (dA K) [] E0 (ae (aa 0) (ae (aa 1) ao))) (af 3))
  (ax (aV (bH (aF K "Desk") "say" (bT K) [] E0 (aa 0) (ae (tC (.str "close")) ao)) (af 4))
  (ax (bj (tE (ay (az Ap (aa 2) (tC .non))) (tE (ay (az (tV K false) (tC .non) (aa 3))) (rp (tB (dB (OC K) (ae (aa 4) (ae (tC (.ty "str")) ao))))))) (aS (tC (.bl false))) aQ)
  (ax (aV (tC (.int 1)) (af 5))
  (ax (aV (dy ao) (af 6))
  (ax (bj (ay (az Cp (aa 4) (tC (.str "none")))) (ax (aV (lV K "str" iF (aa 4) (ae (tC (.str " ")) ao)) (af 7))
  (ax (aV (aJ (bD K) [] E0 (ae (az (aY K) (aa 7) (O2 (rU fun i=>.int (-i)) (tC (.int 1)))) ao)) (af 5))
  (ax (bj (tE (ay (az oLt (dB (c9 K) (ae (aa 7) ao)) (tC (.int 6)))) (tE (ay (az Cp (az (aY K) (aa 7) (O2 (rU fun i=>.int (-i)) (tC (.int 2)))) (tC (.str "of")))) (tE (ay (az Ap (aa 5) (tC .non))) (ay (az oLt (aa 5) (tC (.int 1))))))) (aS (tC (.bl false))) aQ)
  (aV (lV K "str" iF (lV K "str" (rJoin K) (tC (.str " ")) (ae (CM (xq K) (aa 7) dE (fN (O2 (rU fun i=>.int (-i)) (tC (.int 2))))) ao)) (ae (tC (.str "; ")) ao)) (af 6))))) aQ)
  (ax (aV uQ (af 8))
  (ax (kb (sP K (aa 1)) (dN K 2 (aR (af 9) (aR (af 10) dJ))) (vk (aa 8) (aa 10) (az ka (az (aY K) (aa 3) (az gX (tC (.int 3)) (aa 9))) (aa 5))))
  (ax (aV (aJ (dq K) [] E0 (ae (aa 6) (ae (aa 5) (ae (aa 2) (ae (aa 8) ao))))) (af 11))
  (ax (aV (aJ (dA K) [] E0 (ae (aa 0) (ae (aa 1) ao))) (af 12))
  (ax (bj (tE (ay (az Ap (aa 11) (tC .non))) (tE (ay (az Cp (az (aY K) (aa 12) (tC (.int 0))) (az (aY K) (aa 3) (tC (.int 0))))) (ay (az Cp (az (aY K) (aa 12) (tC (.int 1))) (az gX (az (aY K) (aa 3) (tC (.int 1))) (aa 11)))))) (aS (tC (.bl false))) aQ)
  (ax (bj (tE (ay (az (IU K true) (CM (xq K) (aa 12) (fN (tC (.int 3))) dE) (bp [none,ψ 8,ψ 5] (bL K (aa 1)) (af 0) cM (az oDiv (sy (aa 1) (aa 0)) (aa 2))))) (ay (az (qL K true) (aJ (cY K) [] E0 (ae (bH (aF K "Desk") "say" (bT K) [] E0 (aa 0) (ae (tC (.str "works")) ao)) ao)) (aa 2)))) (aS (tC (.bl false))) aQ)
  (aS (aJ (eW K) [] E0 (ae (aa 2) (ae (aa 1) (ae (CM (xq K) (aa 12) (fN (tC (.int 3))) dE) ao))))))))))))))))))
noncomputable def pC(K:QK):TS:=
 (ax (aV (aJ (dA K) [] E0 (ae (aa 0) (ae (aa 1) ao))) (af 3))
  (ax (bj (ay (az (IU K true) (bp [none] (bL K (aa 3)) (af 0) (ay (az Ap (aa 0) (tC .non))) (aa 0)) (dy ao))) (aS (tC (.bl false))) aQ)
  (aS (yp (az fS (az (aY K) (aa 3) (tC (.int 0))) (aa 2)) (az fS (dB (Bb K) (ae (CM (xq K) (aa 3) (fN (tC (.int 1))) dE) ao)) (aa 2))))))
noncomputable def qP(K:QK):TS:=
 (ax (aV (tC (.str "abcdefghijklmnopqrstuvwxyz")) (af 2))
  (ax (aV (aJ (fg K) [] E0 (ae (aa 0) (ae (tC (.int 9)) ao))) (af 3))
  (ax (aV (lV K "str" (rJoin K) (tC (.str "")) (ae (bp [none,ψ 2] (bL K (CM (xq K) (aa 3) dE (fN (tC (.int 7))))) (af 0) cM (az Dt (aa 1) (az oMod (aa 0) (tC (.int 26))))) ao)) (af 4))
  (ax (bj (ay (az fS (az oMod (az (aY K) (aa 3) (tC (.int 8))) (tC (.int 4))) (tC (.int 0)))) (aS (az gy (az Dt (aa 2) (az oMod (az gX (az (aY K) (aa 3) (tC (.int 7))) (az oDiv (aa 1) (tC (.int 8)))) (tC (.int 26)))) (CM Bs (aa 4) dE (fN (az oMod (aa 1) (tC (.int 8))))))) aQ)
  (ax (bj (ay (az fS (az oMod (az (aY K) (aa 3) (tC (.int 8))) (tC (.int 4))) (tC (.int 1)))) (aS (az gy (CM Bs (aa 4) (fN (az xo (tC (.int 7)) (az oMod (aa 1) (tC (.int 8))))) dE) (az Dt (aa 2) (az oMod (az gX (az (aY K) (aa 3) (tC (.int 7))) (az oDiv (aa 1) (tC (.int 8)))) (tC (.int 26)))))) aQ)
  (ax (aV (CM Bs (aa 4) dE (fN (az oMod (az oDiv (az (aY K) (aa 3) (tC (.int 8))) (tC (.int 4))) (tC (.int 8))))) (af 4))
  (ax (aV (az oMod (az oDiv (az (aY K) (aa 3) (tC (.int 8))) (tC (.int 32))) (az gX (dB sh (ae (aa 4) ao)) (tC (.int 1)))) (af 5))
  (aS (az gy (az gy (CM Bs (aa 4) dE (fN (aa 5))) (az Dt (aa 2) (az oMod (az gX (az (aY K) (aa 3) (tC (.int 7))) (aa 1)) (tC (.int 26))))) (CM Bs (aa 4) (fN (aa 5)) dE))))))))))
noncomputable def kl(K:QK):TS:=
 (ax (bj (ay (az fS (az oMod (aa 0) (tC (.int 3))) (tC (.int 0)))) (aS (az oDiv (az ka (aa 1) (az oMod (az oDiv (aa 0) (tC (.int 3))) (tC (.int 40)))) (tC (.int 60)))) aQ)
  (ax (bj (ay (az fS (az oMod (aa 0) (tC (.int 3))) (tC (.int 1)))) (aS (az oMod (az oDiv (aa 0) (tC (.int 3))) (tC (.int 60)))) aQ)
  (aS (az oMod (az ka (aa 0) (tC (.int 41))) (az FF (tC (.int 10)) (tC (.int 9)))))))
noncomputable def sv(K:QK):TS:=
 (ax (aV (az (aY K) (az HE (aa 2) (dy (ae (aJ (cq K) [] E0 (ae (aa 1) (ae (tC (.int 0)) ao))) ao))) (az oMod (az (aY K) (aa 0) (tC (.int 1))) (dB Mm (ae (tC (.int 1)) (ae (dB (c9 K) (ae (aa 2) ao)) ao))))) (af 5))
  (ax (aV (az (aY K) (az HE (aa 3) (dy (ae (aJ (cq K) [] E0 (ae (az oDiv (aa 1) (tC (.int 3))) (ae (tC (.int 0)) ao))) ao))) (az oMod (az (aY K) (aa 0) (tC (.int 2))) (dB Mm (ae (tC (.int 1)) (ae (dB (c9 K) (ae (aa 3) ao)) ao))))) (af 6))
  (ax (aV (az oMod (az (aY K) (aa 0) (tC (.int 0))) (tC (.int 12))) (af 7))
  (ax (bj (kr (tE (ay (az oLt (aa 7) (tC (.int 2)))) (ay (az (qL K false) (aa 2) (dy ao)))) (ay (az oLt (dB (c9 K) (ae (aa 2) ao)) (tC (.int 6))))) (ax (aV (bp [none,ψ 2] (bL K (bp [none,ψ 1] (sN (ae (tC (.int 9)) ao)) (af 0) cM (aJ (cq K) [] E0 (ae (aa 1) (ae (aa 0) ao))))) (af 0) (ay (az (tV K true) (aa 0) (aa 1))) (aa 0)) (af 8))
  (aS (dy (ae (tC (.str "enrol")) (ae (az (aY K) (aa 8) (az oMod (az (aY K) (aa 0) (tC (.int 1))) (dB (c9 K) (ae (aa 8) ao)))) ao))))) aQ)
  (ax (bj (ay (az fS (aa 7) (tC (.int 2)))) (aS (dy (ae (tC (.str "leave")) (ae (aa 5) ao)))) aQ)
  (ax (bj (ay (az oLt (aa 7) (tC (.int 5)))) (aS (dy (ae (tC (.str "give")) (ae (dB mQ (ae (dB Kq (ae (az FF (tC (.int 10)) (tC (.int 9))) (ae (aJ (eE K) [] E0 (ae (az (aY K) (aa 0) (tC (.int 3))) (ae (aa 4) ao))) ao))) ao)) ao)))) aQ)
  (ax (bj (kr (tE (ay (az oLt (aa 7) (tC (.int 7)))) (ay (az (qL K false) (aa 3) (dy ao)))) (ay (az oLt (dB (c9 K) (ae (aa 3) ao)) (tC (.int 6))))) (ax (aV (bp [none,ψ 3] (bL K (bp [none,ψ 1] (sN (ae (tC (.int 9)) ao)) (af 0) cM (aJ (cq K) [] E0 (ae (az oDiv (aa 1) (tC (.int 3))) (ae (aa 0) ao))))) (af 0) (ay (az (tV K true) (aa 0) (aa 1))) (aa 0)) (af 8))
  (aS (dy (ae (tC (.str "propose")) (ae (az (aY K) (aa 8) (az oMod (az (aY K) (aa 0) (tC (.int 2))) (dB (c9 K) (ae (aa 8) ao)))) (ae (dB mQ (ae (az gX (tC (.int 1)) (dB Kq (ae (az xo (az FF (tC (.int 10)) (tC (.int 9))) (tC (.int 1))) (ae (aJ (eE K) [] E0 (ae (az (aY K) (aa 0) (tC (.int 3))) (ae (aa 4) ao))) ao)))) ao)) ao)))))) aQ)
  (ax (bj (ay (az fS (aa 7) (tC (.int 7)))) (aS (dy (ae (tC (.str "withdraw")) (ae (aa 6) ao)))) aQ)
  (aS (dy (ae (az (aY K) (dy (ae (tC (.str "want")) (ae (tC (.str "want")) (ae (tC (.str "want")) (ae (tC (.str "unwant")) ao))))) (az oMod (az (aY K) (aa 0) (tC (.int 3))) (tC (.int 4)))) (ae (aa 5) (ae (aa 6) ao)))))))))))))
noncomputable def j5(K:QK):TS:=
 (ax (aV (aJ (cq K) [] E0 (ae (aa 2) (ae (az oMod (az oDiv (az (aY K) (aa 1) (tC (.int 1))) (tC (.int 7))) (tC (.int 9))) ao))) (af 5))
  (ax (aV (aJ (cq K) [] E0 (ae (az oDiv (aa 2) (tC (.int 3))) (ae (az oMod (az oDiv (az (aY K) (aa 1) (tC (.int 2))) (tC (.int 7))) (tC (.int 9))) ao))) (af 6))
  (ax (aV (az gy (az gy (az gy (tC (.str "want ")) (aa 5)) (tC (.str " "))) (aa 6)) (af 7))
  (ax (bj (kr (ay (az (tV K false) (aa 5) (aa 3))) (ay (az (tV K false) (aa 6) (bp [none] (bL K (aa 4)) (af 0) cM (az (gU K) (aa 0) (tC (.int 0))))))) (aV (az gy (tC (.str "enrol ")) (aa 5)) (af 7)) aQ)
  (ax (aV (tC .non) (af 8))
  (ax (GG K (.ref (aF K "PurseError")) 9 (fun E=>bH (aF K "Desk") "say" (bT K) [] E (aa 0) (ae (aa 7) ao)) (aV (aa 9) (af 8)))
  (aS (az Ey (aa 8) (tC .non)))))))))
noncomputable def nC(K:QK):TS:=
 (ax (kb (bL K (aa 2)) (af 3) (ax (bj (kr (ay (az fS (az (aY K) (aa 0) (tC (.int 0))) (tC (.str "leave")))) (ay (az (tV K false) (az (aY K) (aa 0) (tC (.int 1))) (az (gU K) (aa 3) (tC (.int 2)))))) (bI (lV K "list" (mB K) (az (gU K) (aa 3) (tC (.int 2))) (ae (az (aY K) (aa 0) (tC (.int 1))) ao))) aQ)
  (ax (bj (kr (ay (az fS (az (aY K) (aa 0) (tC (.int 0))) (tC (.str "want")))) (kr (ay (az fS (az (aY K) (aa 0) (tC (.int 2))) (az (gU K) (aa 3) (tC (.int 0))))) (ay (az (tV K true) (az (aY K) (aa 0) (tC (.int 1))) (az (gU K) (aa 3) (tC (.int 2))))))) (bI (lV K "list" dD (az (gU K) (aa 3) (tC (.int 2))) (ae (az (aY K) (aa 0) (tC (.int 1))) ao))) aQ)
  (bj (kr (ay (az fS (az (aY K) (aa 0) (tC (.int 0))) (tC (.str "unwant")))) (kr (ay (az fS (az (aY K) (aa 0) (tC (.int 2))) (az (gU K) (aa 3) (tC (.int 0))))) (ay (az (tV K false) (az (aY K) (aa 0) (tC (.int 1))) (az (gU K) (aa 3) (tC (.int 2))))))) (bI (lV K "list" (mB K) (az (gU K) (aa 3) (tC (.int 2))) (ae (az (aY K) (aa 0) (tC (.int 1))) ao))) aQ))))
  (ax (bj (ay (az fS (az (aY K) (aa 0) (tC (.int 0))) (tC (.str "enrol")))) (bI (lV K "list" dD (aa 1) (ae (az (aY K) (aa 0) (tC (.int 1))) ao))) aQ)
  (ax (bj (ay (az fS (az (aY K) (aa 0) (tC (.int 0))) (tC (.str "leave")))) (bI (lV K "list" (mB K) (aa 1) (ae (az (aY K) (aa 0) (tC (.int 1))) ao))) aQ)
  (ax (bj (ay (az fS (az (aY K) (aa 0) (tC (.int 0))) (tC (.str "propose")))) (bI (lV K "list" dD (aa 2) (ae (jE (ae (az (aY K) (aa 0) (tC (.int 1))) (ae (dB iI (ae (az (aY K) (aa 0) (tC (.int 2))) ao)) (ae (dy ao) ao)))) ao))) aQ)
  (ax (bj (ay (az fS (az (aY K) (aa 0) (tC (.int 0))) (tC (.str "withdraw")))) (bI (lV K "list" Ib (aa 2) (ae (lV K "list" Ed (bp [none] (bL K (aa 2)) (af 0) cM (az (gU K) (aa 0) (tC (.int 0)))) (ae (az (aY K) (aa 0) (tC (.int 1))) ao)) ao))) aQ)
  (ax (bj (ay (az fS (az (aY K) (aa 0) (tC (.int 0))) (tC (.str "give")))) (aS (dB iI (ae (az (aY K) (aa 0) (tC (.int 1))) ao))) aQ)
  (aS (tC (.int 0)))))))))
noncomputable def nM(K:QK):TS:=
 (ax (aV (dy ao) (af 3))
  (ax (kb (bL K (aa 2)) (dN K 3 (aR (af 4) (aR (af 5) (aR (af 6) dJ)))) (bI (lV K "list" dD (aa 3) (ae (jE (ae (aa 4) (ae (aa 5) (ae (bp [none,ψ 6] (bL K (aa 1)) (af 0) (ay (az (tV K false) (aa 0) (aa 1))) (aa 0)) ao)))) ao))))
  (aS (az (qL K false) (aJ (cY K) [] E0 (ae (bH (aF K "Desk") "say" (bT K) [] E0 (aa 0) (ae (tC (.str "works")) ao)) ao)) (aa 3)))))
noncomputable def C2(K:QK):TS:=
 (ax (aV (aJ (lj K) [] E0 (ae (aa 0) (ae (tC (.int 1)) ao))) (af 1))
  (ax (aV (Cz (aF K "Desk") (eT K) [] E0 ao) (af 2))
  (ax (aV (dy ao) (af 3))
  (ax (aV (dy ao) (af 4))
  (ax (aV (tC (.int 0)) (af 5))
  (ax (aV (tC (.int 0)) (af 6))
  (ax (kb (bL K (CM (xq K) (aa 0) (fN (tC (.int 2))) (fN (tC (.int 62))))) (af 7) (ax (aV (aJ (fg K) [] E0 (ae (aa 7) (ae (tC (.int 5)) ao))) (af 8))
  (ax (bj (kr (ay (az fS (az oMod (az oDiv (az (aY K) (aa 8) (tC (.int 4))) (tC (.int 7))) (tC (.int 6))) (tC (.int 0)))) (rp (tB (aJ (fB K) [] E0 (ae (aa 2) (ae (aa 8) (ae (aa 1) (ae (aa 3) (ae (aa 4) ao))))))))) (aS (tC (.bl false))) aQ)
  (ax (bj (kr (ay (az fS (az oMod (az (aY K) (aa 8) (tC (.int 4))) (tC (.int 7))) (tC (.int 0)))) (ay (az oLt (aa 6) (tC (.int 4))))) (ax (aV (az gX (aa 6) (tC (.int 1))) (af 6))
  (ax (bj (rp (tB (aJ (d7 K) [] E0 (ae (aa 2) (ae (aa 3) ao))))) (aS (tC (.bl false))) aQ)
  (ax (aV (bp [none,none,none] (bL K (aJ (cY K) [] E0 (ae (bH (aF K "Desk") "say" (bT K) [] E0 (aa 2) (ae (tC (.str "works")) ao)) ao))) (dN K 3 (aR (af 0) (aR (af 1) (aR (af 2) dJ)))) cM (aa 0)) (af 9))
  (aV (bp [none,ψ 9] (bL K (aa 4)) (af 0) (ay (az (tV K false) (az (gU K) (aa 0) (tC (.int 0))) (aa 1))) (aa 0)) (af 4))))) (ax (aV (aJ (lA K) [] E0 (ae (aa 8) (ae (aa 1) (ae (aa 3) (ae (bp [none] (bL K (aa 4)) (af 0) cM (az (gU K) (aa 0) (tC (.int 0)))) (ae (aa 5) ao)))))) (af 10))
  (ax (bj (ay (az Cp (bH (aF K "Desk") "say" (bT K) [] E0 (aa 2) (ae (lV K "str" (rJoin K) (tC (.str " ")) (ae (aa 10) ao)) ao)) (tC (.str "ok")))) (aS (tC (.bl false))) aQ)
  (aV (az gX (aa 5) (aJ (iA K) [] E0 (ae (aa 10) (ae (aa 3) (ae (aa 4) ao))))) (af 5)))))
  (bj (tE (rp (tB (aJ (fY K) [] E0 (ae (aa 2) (ae (aa 3) (ae (aa 5) ao)))))) (rp (tB (aJ (iz K) [] E0 (ae (aa 2) (ae (aa 3) (ae (aa 4) ao))))))) (aS (tC (.bl false))) aQ)))))
  (aS (yp (aJ (d7 K) [] E0 (ae (aa 2) (ae (aa 3) ao))) (aJ (fY K) [] E0 (ae (aa 2) (ae (aa 3) (ae (aa 5) ao)))))))))))))
section
variable {K:QK}
theorem Bi:∀vs H Q E,lj K vs H Q E->sT K {nx:=fun _ H'=>Q .non H',rt:=Q} (start ["script","k","cell"] vs) H:=by
 rintro vs H Q E ⟨_,a,l,k,rfl,s,q⟩
 unfold sT
 nofun
 symm
 rename_i p m t f g
 obtain⟨c,e,_,_⟩:=Cr l (ψ (k:Int)) (ψ ((k:Int)+1))
 rw[e]at g
 refine fH (bR (K:=K) (xs:=c.map V.int) 2) (fun i b H'=>ah m H'/\∃v,b=[ψ (.ref a),ψ (.int k),v]) ⟨ah.refl _,_,rfl⟩ (fun i b H' h=>h.1.seq (aD.of g)) ?_ ?_
 .rintro i b j n hi ⟨d,v,rfl⟩ o
  rw[QR]at hi
  have r:(c.map V.int).getD i .non=.int (c.getD i 0):=by simp[Q3,hi]
  rw[r]
  show aS _ _ _ _
  symm
  exact q _ n ((f.trans d).trans o)
 .rintro b j ⟨d,v,rfl⟩
  symm
  exact q 0 j (f.trans d)
theorem o8(C:fR K):∀vs H Q E,eu K vs H Q E->ij K {nx:=fun _ H'=>Q .non H',rt:=Q} (start ["self"] vs) H:=by
 rintro vs H Q E ⟨_,c,dx,rfl,k,q⟩
 unfold ij
 nofun
 symm
 refine Dy fun b f t e u=>?_
 symm
 have O:([]:⇑(QH×V)).length<=0:=Q2 _
 have P:(bP "purses" (.ref b) []).length<=1:=iZ _ _ _
 refine jZ (e _ _ k) C.aG C.aK "^" ?_
 have v:b≠c:=(e9 k t).symm
 have g:bo [c] f (upd f c (.ins (aF K "Chest") dx (bP "purses" (.ref b) []))):=bo.upd (e _ _ k) "~" ⋯
 nofun
 symm
 refine Dy fun d x l i F=>?_
 symm
 have R:(bP "costs" (.ref d) (bP "purses" (.ref b) [])).length<=2:=QV (iZ _ _ _) "`"
 refine jZ (i _ _ ak) C.aG C.bz "`" ?_
 have I:d≠c:=(e9 ak l).symm
 have m:b≠d:=e9 (g.1 b _ (by simpa using v) u) l
 have y:bo [c] x (upd x c (.ins (aF K "Chest") dx (bP "costs" (.ref d) (bP "purses" (.ref b) [])))):=bo.upd (i _ _ ak) "~" ⋯
 nofun
 symm
 rename_i w n z p J
 have S:(bP "wishes" (.ref w) (bP "costs" (.ref d) (bP "purses" (.ref b) []))).length<=3:=QV (iZ _ _ _) "`"
 refine jZ (p _ _ ak) C.aG C.bB "`" ?_
 have L:w≠c:=(e9 ak z).symm
 have M:bo [c] n (upd n c (.ins (aF K "Chest") dx (bP "wishes" (.ref w) (bP "costs" (.ref d) (bP "purses" (.ref b) []))))):=bo.upd (p _ _ ak) "~" ⋯
 nofun
 symm
 have T:(bP "unshared" (.int 0) (bP "wishes" (.ref w) (bP "costs" (.ref d) (bP "purses" (.ref b) [])))).length<=4:=QV (iZ _ _ _) "`"
 refine jZ ak C.aG C.bZ "`" ?_
 nofun
 symm
 have U:(bP "gifts" (.int 0) (bP "unshared" (.int 0) (bP "wishes" (.ref w) (bP "costs" (.ref d) (bP "purses" (.ref b) []))))).length<=5:=QV (iZ _ _ _) "`"
 refine jZ ak C.aG C.ir "`" ?_
 symm
 refine jZ ak C.aG C.gN "`" ?_
 rw[JR]
 have r:∀(G:Hp)(o:⇑(QH×V))(fs:⇑(QH×V)),G c=ψ (.ins (aF K "Chest") dx o)->bo [c] G (upd G c (.ins (aF K "Chest") dx fs)):=fun G o fs h=>bo.upd h "~" ⋯
 have s:∀j:Hp,bo [c] n j->j c=ψ (.ins (aF K "Chest") dx (fD b d w 0 0 0))->Q .non j:=fun j A N=>by
  have B:=(y.trans (bo.of p)).trans A
  have D:=(g.trans (bo.of i)).trans B
  refine q _ [c,b,d,w] ⟨dx,b,d,w,[],⟨N,D.1 b _ (by simpa using v) u,B.1 d _ (by simpa using I) F,A.1 w _ (by simpa using L) J,.nil,m,Uu,Uu⟩,rfl⟩ ((bo.of e).trans D) ?_
  intro a ha
  have g2:f d=none:=g.2.2 _ l
  have g3:f w=none:=((g.trans (bo.of i)).trans y).2.2 _ z
  simp only[QW,RM,or_false]at ha
  rcases ha with rfl|rfl|rfl|rfl
  .exact .inl ⋯
  .exact .inr t
  .exact .inr (e.free g2)
  .exact .inr (e.free g3)
 refine s _ ?_ ak
 exact((M.trans (r _ _ _ ak)).trans (r _ _ _ ak)).trans (r _ _ _ ak)
theorem rm(C:fR K):∀vs H Q E,eT K vs H Q E->iP K {nx:=fun _ H'=>Q .non H',rt:=Q} (start ["self"] vs) H:=by
 rintro vs H Q E ⟨_,d,dx,rfl,hd,q⟩
 unfold iP
 symm
 refine HR fun c j k l r=>?_
 refine⟨rfl,c,j,rfl,ak,fun f b n o p=>⟨rfl,?_⟩⟩
 obtain⟨e,g⟩:=made k l o p
 symm
 refine jZ (e _ _ hd) C.zL C.gf "^" ?_
 have h:bo [d] f (upd f d (.ins (aF K "Desk") dx (bP "chest" (.ref c) []))):=bo.upd (e _ _ hd) "~" ⋯
 have i:d∉b:=fun m=>by rw[g d m]at hd;cases hd
 refine q _ (d::b) ⟨dx,c,b,ak,n.but h (fun y a m=>i (by rw[<-Rv.mp m];exact a)),i,rfl⟩ ((bo.of e).trans h) ?_
 intro y a
 rcases QW.mp a with rfl|a
 .exact .inl ⋯
 .exact .inr (g y a)
theorem xY:∀vs H Q E,fg K vs H Q E->mP K {nx:=fun _ H'=>Q .non H',rt:=Q} (start ["cell","many","spins","k","turn"] vs) H:=by
 rintro vs H Q E ⟨_,c,m,rfl,hm,q⟩
 unfold mP
 nofun
 symm
 rename_i l v h j k
 nofun
 symm
 have o:((m:Int)).toNat=m:=by omega
 rw[o]
 refine rD (lo:=0) (n:=m) (fun i b H'=>ah H H'/\∃(d f:Option V),H' l=ψ (.lst ((dX c i).map V.int))/\b=[ψ (.int c),ψ (.int m),ψ (.ref l),d,f]) ⟨j,_,_,k,rfl⟩ ?_ ?_
 .rintro i b w hi ⟨p,d,f,a,rfl⟩
  have g:((dX c i).map V.int).length<QT:=by rw[QR,FC];exact Rq (show i<1000 by omega) aO
  show ax _ _ _ _ _
  nofun
  symm
  have x:0<=c%900900929+2503*(0+(i:Int))+77:=by omega
  have y:c%900900929+2503*(0+(i:Int))+77<=1000000000:=by omega
  have r:c%900900929+2503*(0+(i:Int))+77=c%900900929+2503*(i:Int)+77:=by omega
  have e:(c%900900929+2503*(0+(i:Int))+77)*(c%900900929+2503*(0+(i:Int))+77)*(c%900900929+2503*(0+(i:Int))+77+31*(0+(i:Int)))/13%700700003=cp c i:=by
   unfold cp
   rw[r,show(0+(i:Int))=(i:Int) by omega]
  generalize c%900900929+2503*(0+(i:Int))+77=t at *
  symm
  exists CG a
  symm
  refine cB a g ?_
  rw[e]
  refine⟨p.upd h,_,_,?_,rfl⟩
  rw[ak]
  unfold dX
  rw[UI]
  simp
 .rintro b s ⟨u,d,f,a,rfl⟩
  symm
  exact q l s h u a
theorem vX:∀vs H Q E,bD K vs H Q E->kg K {nx:=fun _ H'=>Q .non H',rt:=Q} (start ["word"] vs) H:=by
 rintro vs H Q E ⟨_,n,rfl,N,q⟩
 obtain⟨i,I⟩:=N.len
 have J:=bw (iT n)
 have ha:=Im N.h0
 have m:=uf N.h0
 have o:(iT n).cps.size=(iT n).length:=rfl
 unfold kg
 nofun
 symm
 refine gW (fun e=>by rw[e]at i;exact absurd i nofun) ?_
 symm
 refine gW "`" ?_
 symm
 exists iT n,rfl,ha
 refine cG (zP (x:=iT n) 0) (fun j=>[ψ (.str ⟨#[(iT n).cps.getD j 0]⟩)]) (by rintro j p (rfl|⟨k,rfl⟩)<;>rfl) (fun _ _=>trivial) (QV (show _<=1000 by omega) aO) (fun j=>false) (fun j=>.non) ?_ ?_ ?_
 .intro j b H' F s t
  symm
  have:gz ((iT n).cps.getD j 0)=ω:=by
   have b:j<(iT n).cps.toList.length:=by simpa using b
   have e:(iT n).cps.getD j 0=(iT n).cps.toList[j]:=by
    rw[WI,Array.getElem?_eq_getElem (by simpa using b)]
    rfl
   rw[e]
   have:=m _ (R3 b)
   unfold gz
   simp only[RI,decide_eq_true_eq]
   exact this
  rw[Em,this]
  exact t H' (ah.refl _)
 .intro j b u
  cases u
 intro g v L w h
 have h:v g=ψ (.lst []):=by rw[h];simp
 symm
 rename_i y A M l B
 refine Pj (d:=.list []) (.lst (aD.of (l _ _ h)) .nil) (.lst (aD.of B) .nil) "^" ?_
 symm
 have C:=w.trans l
 have f:∀H',ah A H'->iI [.str (iT n)] H' Q:=fun H' D=>⟨iT n,n,rfl,N.int,by omega,q H' (C.trans D)⟩
 nofun
 symm
 refine cC (fun a=>?_) (fun a=>?_)
 .rcases Ej N.h0 with z|⟨c,r,e,O⟩
  .exact absurd a "`"
  symm
  exists iT n,0,c,rfl,rfl,by rw[size_eq];omega,by rw[e];exact ar (j:=0) rfl
  symm
  refine gW (fun z=>?_) ?_
  .have G:([c]:⇑Nat)=[48]:=by rw[show[c]=(⟨#[c]⟩:QH).cps.toList from rfl,z,rh]
   have:c=48:=by simpa using G
   omega
  symm
  exact f _ (ah.refl _)
 .symm
  exact f _ (ah.refl _)
theorem xF:∀vs H Q E,cY K vs H Q E->mV K {nx:=fun _ H'=>Q .non H',rt:=Q} (start ["answer","works","part","words","names"] vs) H:=by
 rintro vs H Q E ⟨_,b,rfl,W,q⟩
 have ε:=size_eq
 have I:=W.l
 unfold mV
 nofun
 symm
 by_cases hn:b=[]
 .subst hn
  refine wL rfl ?_
  symm
  rename_i l D f1 J h1
  exact q l [] D f1 J ⟨h1,.nil⟩ (fun t G=>nomatch G)
 refine gW (GL hn) ?_
 symm
 nofun
 symm
 rename_i f D f1 J h1
 nofun
 symm
 have L:=A1 hn fun r hr=>⟨(W.ok r hr).1,by have:=(W.ok r hr).2.1.1;omega,(W.ok r hr).2.2.2⟩
 have δ:(b.map cN).length*(800+(", ":QH).length)<=12*802:=by rw[QR,ck.1];exact SV _ I
 have jl:=fk (sep:=", ") (m:=800) (xs:=b.map cN) fun x hx=>by
  obtain⟨p,hp,rfl⟩:=QO.mp hx
  obtain⟨b1,b2,b3,g⟩:=W.ok p hp
  exact ml (cy b1).2 (eU "`" b2.2) b3 fun z M=>(cy (g z M)).2
 have jw:(dH b).length<=12*802:=by unfold dH;rw[if_neg hn];omega
 refine⟨dH b,", ",rfl,rfl,nofun,by omega,by rw[L,QR];omega,fun N d=>?_⟩
 rw[L]
 have s2:ah D (upd D N (.lst ((b.map cN).map V.str))):=ah.updN d
 have h2:upd D N (.lst ((b.map cN).map V.str)) N=ψ (.lst ((b.map cN).map V.str)):=ak
 generalize upd D N (.lst ((b.map cN).map V.str))=H2 at *
 have n2:N≠f:=fun e=>by rw[e,h1]at d;cases d
 have f2:=J.free d
 try refine br (aD.of h2) ?_
 refine fH (bR (K:=K) (xs:=(b.map cN).map V.str) 2) (fun i n H'=>bo [f] H2 H'/\(∃s,bG H' f s (b.take i)/\∀t∈s,∀x y w,H' t=ψ (.tup [x,y,.ref w])->w≠f/\H w=χ)/\∃v2 v3 v4,n=[ψ (.str (dH b)),ψ (.ref f),v2,v3,v4]) ⟨bo.of (ah.refl _),⟨[],⟨s2 _ _ h1,.nil⟩,fun t G=>nomatch G⟩,_,_,_,rfl⟩ (fun i n H' p=>aD.of (p.1.1 _ _ (by simpa using n2) h2)) ?_ ?_
 .rintro i n Ha u hi ⟨ba,⟨s,wa,oa⟩,v2,v3,v4,rfl⟩ sb
  have v:i<b.length:=by simpa using hi
  have et:((b.map cN).map V.str).getD i .non=.str (cN b[i]):=by simp[Q3,v]
  have htk:b.take (i+1)=b.take i++[b[i]]:=by rw[Uh,QZ v];rfl
  obtain⟨b1,b2,b3,g⟩:=W.ok b[i] (R3 v)
  rw[et,htk]
  generalize b[i]=r at *
  have O:=BA b1 (show 0<=r.2.1 by omega) g
  have ζ:=ml (r:=r) (cy b1).2 (eU "`" b2.2) b3 fun z M=>(cy (g z M)).2
  have η:=oM b3 fun z M=>(cy (g z M)).2
  have hN:=lP (show 0<=r.2.1 by omega) b2.2
  have fr:∀{a:QI},u a=χ->H a=χ/\a≠f:=fun {a} h=>by
   have h:=sb.free h
   refine⟨J.free (s2.free (ba.2.2 _ h)),fun e=>?_⟩
   rw[e,wa.1]at h
   cases h
  show ax _ _ _ _ _
  nofun
  symm
  refine⟨cN r," ",rfl,rfl,nofun,by omega,by rw[O,size_eq];simp,fun k α=>?_⟩
  rw[O]
  have s3:ah u (upd u k (.lst ([r.1,iT r.2.1,bY r.2.2].map V.str))):=ah.updN α
  have h3:upd u k (.lst ([r.1,iT r.2.1,bY r.2.2].map V.str)) k=ψ (.lst ([r.1,iT r.2.1,bY r.2.2].map V.str)):=ak
  generalize upd u k (.lst ([r.1,iT r.2.1,bY r.2.2].map V.str))=H3 at *
  have q3:aD K H3 k ([r.1,iT r.2.1,bY r.2.2].map V.str):=aD.of h3
  symm
  nofun
  symm
  refine gG ⋯ ?_
  symm
  refine bq q3 (ar (j:=1) rfl) ?_
  symm
  refine⟨rfl,r.2.1,rfl,hN,fun R s4=>?_⟩
  symm
  refine gW (by intro z;cases z) ?_
  symm
  have c:=s3.trans s4
  have S:aD K R k ([r.1,iT r.2.1,bY r.2.2].map V.str):=s4.seq q3
  nofun
  symm
  refine bq S (ar (j:=2) rfl) ?_
  symm
  have θ:(Rg (bY r.2.2) "+").length<=180+1:=by
   by_cases e:r.2.2=[]
   .rw[e]
    rw[show bY []="-" from rfl,vn];decide
   .rw[kC e g];omega
  refine⟨bY r.2.2,"+",rfl,rfl,nofun,by omega,by omega,fun T A=>?_⟩
  have B:ah R (upd R T (.lst ((Rg (bY r.2.2) "+").map V.str))):=ah.updN A
  have h5:upd R T (.lst ((Rg (bY r.2.2) "+").map V.str)) T=ψ (.lst ((Rg (bY r.2.2) "+").map V.str)):=ak
  generalize upd R T (.lst ((Rg (bY r.2.2) "+").map V.str))=H5 at *
  symm
  with_reducible refine kM (fun n H'=>ah u H'/\aD K H' k ([r.1,iT r.2.1,bY r.2.2].map V.str)/\∃U,u U=χ/\H' U=ψ (.lst (r.2.2.map V.str))/\n=[ψ (.str (dH b)),ψ (.ref f),ψ (.str (cN r)),ψ (.ref k),ψ (.ref U)]) (fun F hF=>?_) ?_
  .symm
   refine bq (B.seq S) (ar (j:=2) rfl) ?_
   symm
   by_cases e:r.2.2=[]
   .refine wL (by rw[e];rfl) ?_
    symm
    rename_i l6 H6 f6 X h6
    exact hF _ _ ⟨c.trans (B.trans X),(B.trans X).seq S,l6,c.free (B.free f6),by rw[h6,e];rfl,rfl⟩
   .refine gW (Fg e g) ?_
    symm
    rw[kC e g]at h5
    exact hF _ _ ⟨c.trans B,B.seq S,T,c.free A,h5,rfl⟩
  clear q3 S h3 h5 B A s4 c s3
  rintro n H6 ⟨X,q6,U,fn,β,rfl⟩
  have γ:=X _ _ (sb _ _ wa.1)
  symm
  exists CG γ
  symm
  refine bq q6 (ar (j:=0) rfl) ?_
  symm
  refine bq q6 (ar (j:=1) rfl) ?_
  symm
  refine⟨rfl,r.2.1,rfl,hN,fun H7 s7=>?_⟩
  symm
  rename_i t8 H8 f8 s8 h8
  have Y:=s7.trans s8
  have C:=sb.trans (X.trans Y)
  have w8:=wa.same C
  refine cB w8.1 (by rw[QR];have:=Ro w8.2;rw[RJ]at this;exact Rq (show _<1000 by omega) aO) ?_
  rw[show s.map V.ref++[V.ref t8]=(s++[t8]).map V.ref by simp]
  have Z:=fr fn
  obtain⟨w9,o9⟩:=w8.snoc (P:=fun w=>H w=χ) (r:=r) (t:=t8) (w:=U) (fun t G x y w e=>by
   obtain⟨r',_,w',z1,_⟩:=wa.tup t G
   rw[C _ _ z1]at e
   exact oa t G x y w (by rw[z1];exact e)) h8 (Y _ _ β) ⟨Z.2,Z.1⟩
  exact⟨(ba.trans (bo.of C)).trans (bo.upd w8.1 "~" ⋯),⟨_,w9,o9⟩,_,_,_,rfl⟩
 rintro n Hc ⟨bc,⟨s,wc,oc⟩,v2,v3,v4,rfl⟩
 rw[QR,QR,TX]at wc
 symm
 exact q f s Hc f1 (fun a o ha=>bc.1 a o (fun z=>by rw[Rv.mp z,f1]at ha;cases ha) (s2 _ _ (J _ _ ha))) wc oc
theorem xB:∀vs H Q E,ix K vs H Q E->nE K E {nx:=fun _ H'=>Q .non H',rt:=Q} (start ["row","words"] vs) H:=by
 rintro vs H Q E ⟨_,z,rfl,ha,c,d,e⟩
 have f:=size_eq
 have g:=split_len z
 have h:=repr_fits ha c
 unfold nE
 nofun
 symm
 refine⟨z," ",rfl,rfl,nofun,by omega,by omega,fun l a=>?_⟩
 have i:ah H (upd H l (.lst ((Rg z " ").map V.str))):=ah.updN a
 have j:upd H l (.lst ((Rg z " ").map V.str)) l=ψ (.lst ((Rg z " ").map V.str)):=ak
 symm
 nofun
 symm
 exists l,_,rfl,.inl (aD.of j),rfl,qS _
 rw[if_neg "^",zI]
 exists _,rfl
 refine cC (fun hm=>?_) (fun hm=>?_)
 .have k:(Rh++("no row: ":QH)).length=8:=nofun
  have b:(Rh++("no row: ":QH)++U5 z).length<=QT:=by
   rw[Ru]
   omega
  exact⟨_,rfl,by omega,_,rfl,z,rfl,by omega,_,rfl,b,b,(by decide:1<=QT),e hm _ i⟩
 .symm
  exact d hm l a
theorem pL:∀vs H Q E,eI K vs H Q E->ik K {nx:=fun _ H'=>Q .non H',rt:=Q} (start ["step","number","multiple"] vs) H:=by
 rintro vs H Q E ⟨_,s,n,rfl,c,hn,q⟩
 unfold ik
 walk_at "w"
 exists fun j k H'=>∃m:Nat,k=[ψ (.int s),ψ (.int n),ψ (.int m)]/\H'=H/\0<m/\s∣m/\m<=S1 s n/\j=S1 s n-m,⟨_,s,rfl,rfl,c,Zw s,ZR (XU c hn) (Yv s n),rfl⟩
 rintro j k H' ⟨m,rfl,rfl,p,d,l,rfl⟩
 walk_at "w"
 refine K8 (fun h=>?_) (fun h=>?_)
 .have f:m%n≠0:=fun e=>by
   have o:((m:Int)%(n:Int))=0:=by exact_mod_cast e
   rw[o]at h
   simp at h
  have g:=HX c hn d l f
  exists fun a b=>∃i:Nat,a=[ψ (.int s),ψ (.int n),ψ (.int i)]/\b=H'/\i=m+s,?_
  .rintro a b ⟨i,rfl,rfl,rfl⟩
   exact⟨_,"`",m+s,rfl,rfl,"`",Nat.dvd_add d (Zw s),g,rfl⟩
  .walk_at "w"
   exact⟨m+s,rfl,rfl,rfl⟩
 .have r:m%n=0:=by
   rcases WZ (m%n)with z|z
   .exact z
   .exfalso
    apply h
    have:¬((m:Int)%(n:Int))=0:=by
     intro e
     have o:m%n=0:=by exact_mod_cast e
     omega
    simp[this]
  walk_at "w"
  rw[KN p d l r]
  exact q
theorem Bz:∀vs H Q E,kR K vs H Q E->sU K {nx:=fun _ H'=>Q .non H',rt:=Q} (start ["n","least","number"] vs) H:=by
 rintro vs H Q E ⟨_,n,rfl,hn,q⟩
 unfold sU
 walk_at "w"
 refine rD (lo:=1) (n:=((n:Int)+1-1).toNat) (fun i a H'=>H'=H/\∃v,a=[ψ (.int n),ψ (.int (kd i:Nat)),v]) ⟨rfl,none,rfl⟩ ?_ ?_
 .rintro i a H' hi ⟨rfl,v,rfl⟩
  show aV _ _ _ _ _
  walk_at "w"
  exists rfl,kd i,i+1,?_,zS i,Zx i
  .have e:(1:Int)+(i:Int)=((i+1:Nat):Int):=by omega
   rw[e]
  .exact⟨rfl,_,rfl⟩
 .rintro a H' ⟨rfl,v,rfl⟩
  walk_at "w"
  have e:((n:Int)+1-1).toNat=n:=by omega
  rw[e]
  exact q
theorem AJ(a i:Nat):((a ^ (i+1):Nat):Int)*((a:Nat):Int)=((a ^ (i+1+1):Nat):Int):=by
 rw[Xf a (i+1)]
 push_cast
 rfl
theorem zU:∀vs H Q E,fW K vs H Q E->oY K {nx:=fun _ H'=>Q .non H',rt:=Q} (start ["voters","works","factor","grains","work"] vs) H:=by
 rintro vs H Q E ⟨_,v,w,rfl,c,b,d,q⟩
 have ts:=yy v "`"
 unfold oY
 walk_at "w"
 exists rfl,v,rfl,b
 walk_at "w"
 refine rD (lo:=0) (n:=((w:Int)).toNat) (fun i a H'=>H=H'/\∃u,a=[ψ (.int v),ψ (.int w),ψ (.int (kd v:Nat)),ψ (.int (kd v ^ (i+1):Nat)),u]) ⟨rfl,none,by rw[Nat.pow_one];rfl⟩ ?_ ?_
 .rintro i a H' hi ⟨rfl,u,rfl⟩
  show DC _ _ _ _ _ _
  walk_at "w"
  rw[AJ]
  exact⟨rfl,_,rfl⟩
 .rintro a H' ⟨rfl,u,rfl⟩
  walk_at "w"
  exact q
theorem Dx:∀vs H Q E,oH K vs H Q E->wg K {nx:=fun _ H'=>Q .non H',rt:=Q} (start ["steps","voter"] vs) H:=by
 rintro vs H Q E ⟨_,a,c,i,rfl,f,t,hi,q⟩
 obtain⟨ts,bs,B⟩:=f.b
 have y:aD K H a (ts.map V.ref):=(B.ys (ah.refl _)).1
 unfold wg
 symm
 refine bx (eA (ts:=ts) (u:=fun i=>.int ((c.getD i stN).1:Nat)) (v:=fun i=>.int (c.getD i stN).2.1) (w:=fun i=>.ref (bs.getD i 0)) 0 1 2) (fun j=>[ψ (.int ((c.getD j stN).1:Nat)),ψ (.int (c.getD j stN).2.1),ψ (.ref (bs.getD j 0)),ψ (.int (i:Int))]) (by rintro j g (rfl|⟨k,rfl⟩)<;>rfl) (fun H' s=>B.ys s) (by rw[B.tl];exact QV (show c.length<=1000 by omega) aO) (fun j=>.int ((c.getD j stN).2.2.getD i 0)) ?_ ?_
 .intro j d H' G s h
  rw[B.tl]at d
  have m:aD K H' (bs.getD j 0) ((c.getD j stN).2.2.map V.int):=B.paid s d
  have e:=hi (c.getD j stN) (by simp[Q3,d])
  symm
  refine bq m (ar (v:=.int ((c.getD j stN).2.2.getD i 0)) (by generalize (c.getD j stN).2.2=xs at *;simp[Q3,e])) ?_
  exact h H' (ah.refl _)
 intro l n z o p
 have r:(Q1 ts.length).map (fun j=>V.int ((c.getD j stN).2.2.getD i 0))=(c.map fun x=>x.2.2.getD i 0).map V.int:=by
  rw[B.tl,aM (fun x:Nat×Int×⇑Int=>V.int (x.2.2.getD i 0)) stN c,QY]
  rfl
 rw[r]at p
 symm
 exact q n o
theorem DL:∀vs H Q E,jg K vs H Q E->vU K {nx:=fun _ H'=>Q .non H',rt:=Q} (start ["purses","steps"] vs) H:=by
 rintro vs H Q E ⟨_,a,b,ps,d,rfl,m,n,w,o,g,q⟩
 have c:(ps.map V.int).length=ps.length:=QR _
 unfold vU
 symm
 try refine⟨a,rfl,⟨_,m⟩,?_⟩
 refine bx (mr (xs:=ps.map V.int) 0 1) (fun j=>[ψ (.int j),ψ ((ps.map V.int).getD j .non),ψ (.ref b)]) (by rintro j p (rfl|⟨k,rfl⟩)<;>rfl) (fun H' s=>s.seq m) (by rw[c];exact QV (show _<=1000 by omega) aO) (fun j=>.int (ps.getD j 0-(d.map fun x=>x.2.2.getD j 0).sum)) ?_ ?_
 .intro j i H' G s r
  rw[c]at i
  have e:(ps.map V.int).getD j .non=.int (ps.getD j 0):=by simp[Q3,i]
  rw[e]
  symm
  refine⟨rfl,b,d,j,rfl,jD s n,by omega,fun x t=>by rw[g x t];exact i,fun u v=>?_⟩
  symm
  exact r u v
 .intro l H' f s h
  rw[c]at h
  refine q l H' f s ?_
  rw[h]
  unfold aZ
  rw[QY]
  rfl
theorem zc:∀vs H Q E,jz K vs H Q E->pF K {nx:=fun _ H'=>Q .non H',rt:=Q} (start ["costs","wishes","grains"] vs) H:=by
 rintro vs H Q E ⟨_,a,b,c,rows,rfl,p,⟨bs,A,r⟩,t,u,i,o,q⟩
 have d:(c.map V.int).length=c.length:=QR _
 have m:(bs.map V.ref).length=rows.length:=by rw[QR];exact(Ro r).symm
 have B:=ot (v:=rows.length) (w:=c.length+1) o "`"
 unfold pF
 walk_at "v"
 exists rfl,rows.length,c.length,by rw[d,m],i,o,t
 walk_at "v"
 generalize ((kd rows.length ^ (c.length+1):Nat):Int)=g at *
 refine bx (bR (xs:=c.map V.int) 0) (fun j=>[ψ ((c.map V.int).getD j .non),ψ (.int g)]) (by rintro j y (rfl|⟨k,rfl⟩)<;>rfl) (fun H' s=>s.seq p) (by rw[d];exact QV (show c.length<=1000 by omega) aO) (fun j=>.int (c.getD j 0*g)) ?_ ?_
 .intro j n H' G s k
  rw[d]at n
  have e:(c.map V.int).getD j .non=.int (c.getD j 0):=by simp[Q3,n]
  have z:=u (c.getD j 0) (by simp[Q3,n])
  rw[e]
  walk_at "v"
  exact k H' (ah.refl _)
 .intro l H' f s h
  refine q l H' f s ?_
  rw[h,d,aM (fun x=>V.int (x*g)) 0 c,QY]
  rfl
theorem xy:∀vs H Q E,iB K vs H Q E->ni K {nx:=fun _ H'=>Q .non H',rt:=Q} (start ["amount","shares"] vs) H:=by
 rintro vs H Q E ⟨_,m,p,rfl,a,b,q⟩
 unfold ni
 walk_at "w"
 exact q
theorem pairwise_split{ms:⇑Int}(h:ms.Pairwise (·<=·)){i:Nat}(hi:i<ms.length):(∀y∈ms.take i,y<=ms[i])/\(∀y∈ms.drop (i+1),ms[i]<=y):=by
 have e:ms=ms.take i++ms[i]::ms.drop (i+1):=by
  rw[Y1,Wq]
 have b:=h
 rw[e]at b
 obtain⟨_,c,d⟩:=List.pairwise_append.mp b
 exact⟨fun y a=>d y a _ RW,fun y a=>(List.pairwise_cons.mp c).1 y a⟩
theorem Ai:∀vs H Q E,jJ K vs H Q E->o7 K {nx:=fun _ H'=>Q .non H',rt:=Q} (start ["purses","price","missing","payers","purse"] vs) H:=by
 rintro vs H Q E ⟨_,a,ps,price,rfl,t,S,u,w,A,B⟩
 have C:(ps.map V.int).length=ps.length:=QR _
 unfold o7
 walk_at "w"
 refine K8 (fun h=>?_) (fun h=>?_)
 .walk_at "w"
  exact A (of_decide_eq_true h) H (ah.refl _)
 have d:price<=ps.sum:=by
  rcases S3 ps.sum price with z|z
  .exact absurd (decide_eq_true z) h
  .exact z
 walk_at "w"
 refine⟨a,ps,rfl,t,by omega,fun l b D perm F=>?_⟩
 have G:=ah.updN (o:=.lst (b.map V.int)) D
 have I:aD K (upd H l (.lst (b.map V.int))) l (b.map V.int):=aD.of ak
 generalize upd H l (.lst (b.map V.int))=H1 at *
 have f:b.length=ps.length:=perm.length_eq
 have k:∀y∈b,0<=y:=fun y J=>u y (perm.mem_iff.mp J)
 have L:b.sum=ps.sum:=Bq perm
 walk_at "w"
 refine HZ (K:=K) (a:=l) (xs:=b.map V.int) (fun i j H'=>H1=H'/\i<=b.length/\∃(m:Int)(v:Option V),m=price-(b.take i).sum/\0<m/\(∀y∈b.take i,y*((b.length:Int)-(i:Int))<m)/\
  j=[ψ (.ref a),ψ (.int price),ψ (.int m),ψ (.int ((b.length:Int)-(i:Int))),v]) ⟨rfl,RL _,price,none,⋯,by omega,⋯,?_⟩ ?_ ?_ ?_
 .rw[C,f]
  show _=[_,_,_,ψ (V.int ((ps.length:Int)-((0:Nat):Int))),_]
  rw[show((ps.length:Int)-((0:Nat):Int))=(ps.length:Int) by omega]
  rfl
 .rintro i j H' _ ⟨rfl,_⟩
  exact I
 .rintro i x j H' n ⟨rfl,M,m,v,hm,g,s,rfl⟩
  have hi:i<b.length:=by
   have:=(Rw.mp n).1
   rwa [QR]at this
  have q:x=V.int b[i]:=by
   rw[RU,QZ hi]at n
   exact(RE n).symm
  subst q
  have r:0<=b[i]:=k _ (R3 hi)
  obtain⟨N,O⟩:=pairwise_split F hi
  have htk:b.take (i+1)=b.take i++[b[i]]:=by
   rw[Uh,QZ hi]
   rfl
  show ax _ _ _ _ _
  walk_at "w"
  refine K8 (fun h=>?_) (fun h=>?_)
  .have h:=of_decide_eq_true h
   walk_at "w"
   exists rfl,m,(b.length:Int)-(i:Int),rfl,by omega,by omega
   have e:b=b.take i++b[i]::b.drop (i+1):=by
    rw[Y1,Wq]
   have c:=E4 (pre:=b.take i) (post:=b.drop (i+1)) (x:=b[i]) (m:=m) (p:=(b.length:Int)-(i:Int)) (price:=price)
    (by rw[SX];omega) hm g s h O
   rw[<-e]at c
   refine B d _ _ ?_ G
   unfold Gx at c ⊢
   rw[Ci perm,Ci perm]at c
   exact c
  .have h:¬m<=b[i]*((b.length:Int)-(i:Int)):=fun z=>h (decide_eq_true z)
   obtain⟨P,R⟩:=Gw (p:=(b.length:Int)-(i:Int)) "`" r N h
   walk_at "w"
   exists rfl,hi,m-b[i],ψ (.int b[i]),?_,P,?_
   .rw[htk,IW]
    omega
   .rw[htk]
    have e:(b.length:Int)-((i+1:Nat):Int)=(b.length:Int)-(i:Int)-1:=by omega
    rw[e]
    exact R
   .have e:(b.length:Int)-((i+1:Nat):Int)=(b.length:Int)-(i:Int)-1:=by omega
    rw[e]
    rfl
 .rintro j H' ⟨rfl,_,m,v,hm,g,s,rfl⟩
  exfalso
  rw[QR,TX]at hm
  omega
theorem range_getD{α a:Type}(f:α->a)(d:α)(xs:⇑α):(Q1 xs.length).map (fun i=>f (xs.getD i d))=xs.map f:=by
 apply T5
 .simp
 .intro k b e
  have c:k<xs.length:=by simpa using b
  simp[Q3,c]
theorem zV:∀vs H Q E,jK K vs H Q E->pI K {nx:=fun _ H'=>Q .non H',rt:=Q} (start ["wanted","works"] vs) H:=by
 rintro vs H Q E ⟨_,a,b,g,c,rfl,p,m,r,q⟩
 have d:(c.map V.int).length=c.length:=QR _
 unfold pI
 walk_at "v"
 refine bx (bR (xs:=c.map V.int) 0) (fun j=>[ψ ((c.map V.int).getD j .non),ψ (.ref a)]) (by rintro j n (rfl|⟨k,rfl⟩)<;>rfl) (fun H' s=>s.seq m) (by rw[d];exact QV (show c.length<=1000 by omega) aO) (fun j=>.bl (decide (c.getD j 0∈g))) ?_ ?_
 .intro j i H' G s k
  rw[d]at i
  have e:(c.map V.int).getD j .non=.int (c.getD j 0):=by simp[Q3,i]
  rw[e]
  walk_at "v"
  exact k H' (ah.refl _)
 .intro l H' f s h
  have e:(Q1 (c.map V.int).length).map (fun j=>V.bl (decide (c.getD j 0∈g)))=(c.map fun k=>decide (k∈g)).map V.bl:=by
   rw[d,range_getD (fun k=>V.bl (decide (k∈g))) 0 c,QY]
   rfl
  rw[e]at h
  walk_at "v"
  have o:(c.map fun k=>decide (k∈g)).all id=c.all fun k=>decide (k∈g):=by
   rw[UK]
   rfl
  rw[o]
  exact q H' s
theorem Af:∀vs H Q E,jA K vs H Q E->pX K {nx:=fun _ H'=>Q .non H',rt:=Q} (start ["wishes","works"] vs) H:=by
 rintro vs H Q E ⟨_,a,b,rows,m,rfl,⟨bs,o,n⟩,p,r,d,q⟩
 have g:bs.length=rows.length:=(Ro n).symm
 have c:(bs.map V.ref).length=bs.length:=QR _
 unfold pX
 walk_at "v"
 refine cG (mr (xs:=bs.map V.ref) 0 1) (fun i=>[ψ (.int i),ψ ((bs.map V.ref).getD i .non),ψ (.ref b)]) (by rintro i t (rfl|⟨k,rfl⟩)<;>rfl) (fun H' s=>s.seq o) (by rw[c];exact QV (show bs.length<=1000 by omega) aO) (fun i=>m.all fun k=>decide (k∈rows.getD i [])) (fun i=>.int i) ?_ ?_ ?_
 .intro i hi H' G s k
  rw[c]at hi
  obtain⟨row,u,v⟩:=jC n (show bs[i]?=ψ bs[i] by simp[hi])
  have e:(bs.map V.ref).getD i .non=.ref bs[i]:=by simp[Q3,hi]
  have w:rows.getD i []=row:=by simp[Q3,u]
  rw[w]at k
  rw[e]
  walk_at "v"
  refine⟨rfl,bs[i],b,row,m,rfl,s.seq v,s.seq p,d,fun j x=>?_⟩
  walk_at "v"
  exact k j x
 .intro i hi _ H' G s k
  walk_at "v"
  exact k H' (ah.refl _)
 .intro l H' f s h
  rw[c,g]at h
  refine q l H' f s ?_
  rw[h]
  unfold jO
  rw[QY]
  rfl
theorem xQ:∀vs H Q E,fh K vs H Q E->mU K {nx:=fun _ H'=>Q .non H',rt:=Q} (start ["wishes","work"] vs) H:=by
 rintro vs H Q E ⟨_,a,rows,k,rfl,g,c,q⟩
 unfold mU
 walk_at "v"
 rename_i d i j b e
 refine⟨rfl,a,d,rows,[k],rfl,by walk_at "rows",aD.of e,c,ZY rfl,fun l H' f s h=>?_⟩
 exact q l H' (b.free f) (b.trans s) h
theorem Ct:∀vs H Q E,kK K vs H Q E->r9 K {nx:=fun _ H'=>Q .non H',rt:=Q} (start ["purses","wishes","work","price"] vs) H:=by
 rintro vs H Q E ⟨_,a,b,ps,rows,k,c,rfl,x,y,R,S,z,f,A,B⟩
 unfold r9
 walk_at "v"
 refine⟨rfl,b,rows,(k:Int),rfl,y,by omega,fun C D T g r=>?_⟩
 rw[uS]at r
 have F:=FG rows k
 have m:=g.seq x
 have I:aD K D C (((cP rows k).map fun i:Nat=>(i:Int)).map V.int):=aD.of r
 have d:(((cP rows k).map fun i:Nat=>(i:Int)).map V.int).length=(cP rows k).length:=⋯
 walk_at "v"
 refine bx (bR (xs:=((cP rows k).map fun i:Nat=>(i:Int)).map V.int) 0) (fun j=>[ψ ((((cP rows k).map fun i:Nat=>(i:Int)).map V.int).getD j .non),ψ (.ref a)]) (by rintro j J (rfl|⟨k,rfl⟩)<;>rfl) (fun H' s=>s.seq I) (by rw[d];exact QV (show _<=1000 by omega) aO) (fun j=>.int (PF ps ((cP rows k).getD j 0))) ?_ ?_
 .intro j n H' G s M
  rw[d]at n
  have e:(((cP rows k).map fun i:Nat=>(i:Int)).map V.int).getD j .non=.int (((cP rows k).getD j 0:Nat):Int):=by simp[Q3,n]
  have hm:(cP rows k).getD j 0∈cP rows k:=by simp[Q3,n]
  have hi:=IJ hm
  rw[e]
  generalize (cP rows k).getD j 0=i at *
  walk_at "v"
  refine bq (s.seq m) (ar (CZ "`")) ?_
  exact M H' (ah.refl _)
 intro l U W t u
 have N:(Q1 (((cP rows k).map fun i:Nat=>(i:Int)).map V.int).length).map (fun j=>V.int (PF ps ((cP rows k).getD j 0)))=((cP rows k).map (PF ps)).map V.int:=by
  rw[d,aM (fun i=>V.int (PF ps i)) 0 (cP rows k),QY]
  rfl
 rw[N]at u
 walk_at "v"
 refine⟨rfl,l,(cP rows k).map (PF ps),c,rfl,aD.of u,by rw[QR];omega,fun p h=>?_,f,fun h o q=>?_,fun h L o O q=>?_⟩
 .obtain⟨i,_,e⟩:=QO.mp h
  rw[<-e]
  exact y9 z i
 .rw[AY]at h
  exact A h o (g.trans (t.trans q))
 .rw[AY]at h
  obtain⟨P,v,w⟩:=O
  rw[IC]at v w
  exact B h L o P v w (g.trans (t.trans q))
theorem zx:∀vs H Q E,je K vs H Q E->pS K {nx:=fun _ H'=>Q .non H',rt:=Q} (start ["purses","costs","wishes","done","offers","work","price"] vs) H:=by
 rintro vs H Q E ⟨_,a,b,c,d,ps,f,rows,done,rfl,hA,hB,Y,hD,hl,Z,D,hv,F,hp,α,q⟩
 unfold pS
 nofun
 symm
 rename_i lo H1 f1 G h1
 nofun
 symm
 refine⟨rfl,b,c,f,rows,rfl,G.seq hB,G.rows Y,hl,Z,D,hv,fun B H2 f2 s2 h2=>?_⟩
 have I:∀j,j<f.length->(((f.map (· * ((kd rows.length ^ (f.length+1):Nat):Int))).map V.int)).getD j .non=.int ((aW f rows).c j):=fun j k=>by
  simp[Q3,k,aW]
 have w:((f.map (· * ((kd rows.length ^ (f.length+1):Nat):Int))).map V.int).length=f.length:=⋯
 generalize (f.map (· * ((kd rows.length ^ (f.length+1):Nat):Int))).map V.int=xs at *
 have q2:aD K H2 B xs:=aD.of h2
 have J:B≠lo:=fun z=>by
  rw[z,h1]at f2
  cases f2
 have M:=s2 _ _ h1
 have N:=G.trans s2
 symm
 refine fH (mr (xs:=xs) 5 6) (fun i C H'=>ah H H'/\H' B=ψ (.lst xs)/\∃(os:⇑(Option Int))(x y:Option V),H' lo=ψ (.lst (os.map oV))/\os.length=i/\i<=f.length/\(∀j o,os[j]?=ψ o->Cj (aW f rows) (PF ps) done j o)/\C=[ψ (.ref a),ψ (.ref b),ψ (.ref c),ψ (.ref d),ψ (.ref lo),x,y]) ⟨N,h2,[],_,_,M,rfl,RL _,(fun j o h=>by simp at h),rfl⟩ (fun i C H' h=>aD.of h.2.1) ?_ ?_
 .rintro i C Ha Hb hi ⟨O,P,os,x,y,R,g,β,s,rfl⟩ S
  rw[w]at hi
  rw[I i hi]
  have l:=O.trans S
  have t:(os.map oV).length<QT:=by rw[QR,g];exact Rq (show i<1000 by omega) aO
  have u:∀(o:Option Int)(m:Hp),ah Hb m->Cj (aW f rows) (PF ps) done i o->ah H (upd m lo (.lst (os.map oV++[oV o])))/\(upd m lo (.lst (os.map oV++[oV o]))) B=ψ (.lst xs)/\∃(v:⇑(Option Int))(x y:Option V),(upd m lo (.lst (os.map oV++[oV o]))) lo=ψ (.lst (v.map oV))/\v.length=i+1/\i+1<=f.length/\(∀j o,v[j]?=ψ o->Cj (aW f rows) (PF ps) done j o)/\[ψ (V.ref a),ψ (.ref b),ψ (.ref c),ψ (.ref d),ψ (.ref lo),ψ (.int (i:Int)),ψ (.int ((aW f rows).c i))]=[ψ (.ref a),ψ (.ref b),ψ (.ref c),ψ (.ref d),ψ (.ref lo),x,y]:=by
   intro o m r A
   refine⟨(l.trans r).upd f1,by rw[aj J];exact r _ _ (S _ _ P),os++[o],_,_,by rw[ak];simp,by simp[g],hi,fun j o' k=>?_,rfl⟩
   by_cases T:j<os.length
   .rw[TB T]at k
    exact s j o' k
   .rw[Uk "`"]at k
    cases e:j-os.length with
    |zero=>
     rw[e]at k
     have e1:o=o':=by simpa using k
     have e2:j=i:=by omega
     rw[<-e1,e2]
     exact A
    |succ n=>rw[e]at k;simp at k
  have γ:=l.seq hD
  have U:=l.seq hA
  have W:=l.rows Y
  have p:=S _ _ R
  show bI _ _ _ _
  symm
  exists CG p
  symm
  refine cC (fun h=>?_) (fun h=>?_)
  .symm
   refine cB p t ?_
   exact u none Hb (ah.refl _) (.inl (kY.mp h))
  .have hn:i∉done:=fun z=>h (kY.mpr z)
   symm
   refine⟨rfl,a,c,ps,rows,i,_,rfl,U,W,hv,F,hp,Lu Z i hi,fun X m r=>?_,fun δ L m z1 z2 z3 r=>?_⟩
   .symm
    refine cB (r _ _ p) t ?_
    exact u none m r (.inr X)
   .symm
    refine cB (r _ _ p) t ?_
    exact u (ψ L) m r ⟨hn,z1,z2,z3⟩
 rintro C Ha ⟨O,_,os,x,y,R,g,_,s,rfl⟩
 rw[w]at g
 symm
 exact q lo Ha os f1 O R g s
theorem DZ:∀vs H Q E,oJ K vs H Q E->uE K {nx:=fun _ H'=>Q .non H',rt:=Q} (start ["offers","best","work","offer"] vs) H:=by
 rintro vs H Q E ⟨_,a,os,rfl,l,y,q⟩
 have d:(os.map oV).length=os.length:=QR _
 unfold uE
 nofun
 symm
 nofun
 symm
 try refine⟨a,rfl,⟨_,l⟩,?_⟩
 refine fH (mr (xs:=os.map oV) 2 3) (fun i g H'=>ah H H'/\∃(k:Option Nat)(m n:Option V),fG (os.take i) k/\g=[ψ (.ref a),ψ (oV (k.map fun j:Nat=>(j:Int))),m,n]) ⟨ah.refl _,none,_,_,GA,rfl⟩ (fun i g H' h=>h.1.seq l) ?_ ?_
 .rintro i g v z hi ⟨o,k,m,n,c,rfl⟩ x
  rw[d]at hi
  have p:os[i]?=ψ os[i]:=by simp[hi]
  have e:(os.map oV).getD i .non=oV os[i]:=by simp[Q3,hi]
  have htk:=take_snoc p
  have f:(os.take i).length=i:=by rw[RJ];omega
  rw[e]
  have b:=o.trans x
  show bj _ _ _ _ _ _
  cases w:os[i]with
  |none=>
   rw[w]at htk
   show bj _ _ _ _ [ψ (V.ref a),ψ (oV (k.map fun j:Nat=>(j:Int))),ψ (.int (i:Int)),ψ .non] _
   symm
   refine gG rfl ?_
   symm
   exact⟨b,k,_,_,by rw[htk];exact Ga c,rfl⟩
  |some M=>
   rw[w]at htk
   cases k with
   |none=>
    show bj _ _ _ _ [ψ (V.ref a),ψ .non,ψ (.int (i:Int)),ψ (.int M)] _
    symm
    refine CC ⋯ ?_
    symm
    refine wL rfl ?_
    symm
    refine⟨b,ψ i,_,_,?_,rfl⟩
    have:=D7 (M:=M) c
    rw[f]at this
    rw[htk]
    exact this
   |some j=>
    show bj _ _ _ _ [ψ (V.ref a),ψ (.int (j:Int)),ψ (.int (i:Int)),ψ (.int M)] _
    have r:=c
    obtain⟨L,s,_⟩:=r
    have t:os[j]?=ψ (ψ L):=by
     have h:=s
     rw[List.getElem?_take]at h
     split at h
     .exact h
     .cases h
    have u:(os.map oV)[j]?=ψ (.int L):=by
     rw[RU,t]
     rfl
    symm
    refine CC ⋯ ?_
    symm
    refine gW ⋯ ?_
    symm
    refine bq (b.seq l) (ar u) ?_
    symm
    refine cC (fun h=>?_) (fun h=>?_)
    .symm
     refine⟨b,ψ i,_,_,?_,rfl⟩
     have:=Fs c s h
     rw[f]at this
     rw[htk]
     exact this
    .symm
     refine⟨b,ψ j,_,_,?_,rfl⟩
     rw[htk]
     exact Gk c s h
 rintro g v ⟨o,k,m,n,c,rfl⟩
 rw[d,TX]at c
 symm
 exact q k v c o
theorem Ft{ms:⇑Int}{a:⇑Nat}(h:ms.Perm (a.map fun k:Nat=>(k:Int))):∃ws:⇑Nat,ms=ws.map fun k:Nat=>(k:Int):=by
 exists ms.map VO
 rw[QY]
 conv=>lhs;rw[<-List.map_id ms]
 refine RT fun x b=>?_
 obtain⟨k,_,e⟩:=QO.mp (h.mem_iff.mp b)
 rw[<-e]
 rfl
theorem BK:∀vs H Q E,lN K vs H Q E->rX K {nx:=fun _ H'=>Q .non H',rt:=Q} (start ["steps"] vs) H:=by
 rintro vs H Q E ⟨_,a,c,rfl,D,U,hw,hn,q⟩
 obtain⟨ts,bs,B⟩:=D.b
 have W:aD K H a (ts.map V.ref):=(B.ys (ah.refl _)).1
 unfold rX
 symm
 refine bx (eA (ts:=ts) (u:=fun i=>.int ((c.getD i stN).1:Nat)) (v:=fun i=>.int (c.getD i stN).2.1) (w:=fun i=>.ref (bs.getD i 0)) 0 1 2) (fun j=>[ψ (.int ((c.getD j stN).1:Nat)),ψ (.int (c.getD j stN).2.1),ψ (.ref (bs.getD j 0))]) (by rintro j F (rfl|⟨k,rfl⟩)<;>rfl) (fun H' s=>B.ys s) (by rw[B.tl];exact QV (show c.length<=1000 by omega) aO) (fun j=>.int ((c.getD j stN).1:Nat)) ?_ ?_
 .intro j X H' G s I
  symm
  exact I H' (ah.refl _)
 intro l r Y t A
 have J:(Q1 ts.length).map (fun j=>V.int ((c.getD j stN).1:Nat))=((c.map (·.1)).map fun k:Nat=>(k:Int)).map V.int:=by
  rw[B.tl,aM (fun x:Nat×Int×⇑Int=>V.int ((x.1:Nat):Int)) stN c,QY,QY]
  rfl
 rw[J]at A
 symm
 refine⟨l,(c.map (·.1)).map fun k:Nat=>(k:Int),rfl,aD.of A,by simp;omega,fun p g C perm L=>?_⟩
 have M:=ah.updN (o:=.lst (g.map V.int)) C
 have N:(upd r p (.lst (g.map V.int))) p=ψ (.lst (g.map V.int)):=ak
 generalize upd r p (.lst (g.map V.int))=H2 at *
 obtain⟨e,rfl⟩:=Ft perm
 have f:∀k,k∈e↔k∈c.map (·.1):=fun k=>by
  rw[<-kY,perm.mem_iff,kY]
 have m:e.Nodup:=by
  have O:((c.map (·.1)).map fun k:Nat=>(k:Int)).Nodup:=Xh _ (fun x y d z=>d "`") hn
  have P:=(perm.nodup_iff).mpr O
  exact Xv _ (fun x y d z=>d (by rw[z])) P
 have n:e.Pairwise (· < ·):=by
  have R:e.Pairwise (·<=·):=Xv _ (fun x y h=>by omega) L
  exact aaK (fun x y S T=>Nat.lt_of_le_of_ne S T) R m
 exact q p H2 e (t.free C) (t.trans M) N n f
theorem CS:∀vs H Q E,oI K vs H Q E->vS K {nx:=fun _ H'=>Q .non H',rt:=Q} (start ["purses","level"] vs) H:=by
 rintro vs H Q E ⟨_,a,ps,b,rfl,c,d,q⟩
 unfold vS
 walk_at "w"
 refine Fl (K:=K) (xs:=ps.map V.int) (fun x v=>∃p,x=.int p/\v=.int (min p b)) [ψ (.int b)] rfl c (by rw[QR];exact QV d "^") ?_ ?_
 .intro x f H' G s k
  obtain⟨p,_,rfl⟩:=HY f
  walk_at "w"
  exact k _ _ ⟨p,rfl,rfl⟩ (ah.refl _)
 .intro l ys H' g s h i
  have e:=uG i Lb
  subst e
  refine q l H' g s ?_
  rw[h,QY]
  rfl
theorem vV:∀vs H Q E,gL K vs H Q E->lG K {nx:=fun _ H'=>Q .non H',rt:=Q} (start ["purses","wishes","work","level","wanters"] vs) H:=by
 rintro vs H Q E ⟨_,a,b,ps,rows,k,L,rfl,v,w,D,d,q⟩
 have c:((ps.map (min · L)).map V.int).length=ps.length:=⋯
 unfold lG
 nofun
 symm
 refine⟨rfl,b,rows,(k:Int),rfl,w,by omega,fun o F I i x=>?_⟩
 have m:=i.seq v
 symm
 refine⟨rfl,a,ps,L,rfl,m,d,fun p r J n y=>?_⟩
 have A:aD K r o ((jO rows [(k:Int)]).map V.int):=aD.of (n _ _ x)
 have t:aD K r p ((ps.map (min · L)).map V.int):=aD.of y
 symm
 try refine⟨p,rfl,⟨_,t⟩,?_⟩
 refine bx (mr (xs:=(ps.map (min · L)).map V.int) 0 1) (fun j=>[ψ (.int j),ψ (((ps.map (min · L)).map V.int).getD j .non),ψ (.ref o)]) (by rintro j B (rfl|⟨k,rfl⟩)<;>rfl) (fun H' s=>s.seq t) (by rw[c];exact QV (show _<=1000 by omega) aO) (fun j=>.int (wA (WR rows) (PF ps) k L j)) ?_ ?_
 .intro j u H' G s g
  rw[c]at u
  have e:((ps.map (min · L)).map V.int).getD j .non=.int (min (PF ps j) L):=by unfold PF;simp[Q3,u]
  have C:=s.seq A
  rw[e]
  symm
  unfold wA at g
  refine cC (fun h=>?_) (fun h=>?_)
  .rw[if_pos (vv.mp h)]at g
   symm
   exact g H' (ah.refl _)
  .rw[if_neg fun z=>h (vv.mpr z)]at g
   symm
   exact g H' (ah.refl _)
 .intro l H' f s h
  rw[c]at h
  refine q l H' (i.free (n.free f)) (i.trans (n.trans s)) ?_
  rw[h]
  unfold b9
  rw[QY]
  rfl
theorem va:∀vs H Q E,da K vs H Q E->lO K {nx:=fun _ H'=>Q .non H',rt:=Q} (start ["purses","costs","wishes","steps","left","offers","work","level"] vs) H:=by
 rintro vs H Q E ⟨_,a,b,c,d,ps,Z,rows,e,rfl,hA,hB,hC,hD,hl,hb,B,hv,C,p,D,F,G,q,qn,qs⟩
 have I:(aZ ps e).length=ps.length:=by unfold aZ;rw[QR,Vf]
 unfold lO
 nofun
 symm
 refine⟨rfl,a,d,ps,e,rfl,hA,hD,by omega,p,G,fun r H1 f1 s1 h1=>?_⟩
 symm
 nofun
 symm
 refine⟨rfl,d,e,rfl,jD s1 hD,p,D,F,fun l2 H2 J f2 M h2 O f=>?_⟩
 symm
 have n:=s1.trans M
 have P:J.length<=12:=by
  have:=yZ (l:=J) (m:=e.map (·.1)) (Xo (fun h=>Rn h) O) fun x hx=>(f x).mp hx
  rw[QR]at this
  omega
 refine⟨rfl,r,b,c,l2,aZ ps e,Z,rows,J,rfl,aD.of (M _ _ h1),n.seq hB,n.rows hC,aD.of h2,hl,hb,B,hv,by rw[I];exact C,q,P,fun R H3 os f3 s3 h3 s u=>?_⟩
 have S:=n.trans s3
 have U:H3 r=ψ (.lst ((aZ ps e).map V.int)):=s3 _ _ (M _ _ h1)
 symm
 nofun
 symm
 refine⟨rfl,R,os,rfl,aD.of h3,by omega,fun k H4 o W=>?_⟩
 have g:=S.trans W
 symm
 nofun
 cases k with
 |none=>
  show bj _ _ _ _ [ψ (V.ref a),ψ (.ref b),ψ (.ref c),ψ (.ref d),ψ (.ref r),ψ (.ref R),ψ .non,none] _
  symm
  refine wL rfl ?_
  symm
  refine qn (fun k hk X=>?_) H4 g
  have v:os[k]?=ψ os[k]:=by simp[s,hk]
  have A:=u k os[k] v
  rw[o os[k] (Td v)]at A
  rcases A with z|z
  .exact absurd ((f k).mp z) X
  .exact z
 |some k=>
  have w:=o
  obtain⟨L,y,_⟩:=w
  show bj _ _ _ _ [ψ (V.ref a),ψ (.ref b),ψ (.ref c),ψ (.ref d),ψ (.ref r),ψ (.ref R),ψ (.int (k:Int)),none] _
  symm
  refine gW ⋯ ?_
  symm
  nofun
  symm
  have Y:(os.map oV)[k]?=ψ (.int L):=by
   rw[RU,y]
   rfl
  refine bq (aD.of (W _ _ h3)) (ar Y) ?_
  symm
  refine⟨rfl,r,c,aZ ps e,rows,k,L,rfl,aD.of (W _ _ U),g.rows hC,by omega,by omega,fun lp H5 f5 s5 A=>?_⟩
  symm
  rename_i t H6 f6 s6 h6
  have N:=zC (T:=aW Z rows) s u (fun i _=>y9 q i) (Lu hb) y o
  exact qs k L (Bd (fun j=>(f j).symm) N) t lp H6 (g.free (s5.free f6)) (g.free f5) (g.trans (s5.trans s6)) h6 (s6 _ _ A)
theorem FK:∀vs H Q E,qU K vs H Q E->yQ K {nx:=fun _ H'=>Q .non H',rt:=Q} (start ["purses","costs","wishes","steps","step"] vs) H:=by
 rintro vs H Q E ⟨_,a,b,c,ps,f,rows,rfl,hA,hB,hC,G,q⟩
 have O:=G.c12
 unfold yQ
 nofun
 symm
 rename_i d H1 f1 s1 h1
 have ask:∀(r:⇑(Nat×Int))(g:Hp)(R:VK),Pre f rows ps r->ah H g->gv H g d (aE rows ps r)->
   (∀(p:Hp)(v:V),ah g p->((v=.non/\∀k,k<f.length->k∉r.map (·.1)->Cn rows.length (WR rows) (PF (bK rows ps r)) k<(aW f rows).c k)\/∃(k:Nat)(L:Int)(t:QI),v=.ref t/\Nx (aW f rows) (PF (bK rows ps r)) (r.map (·.1)) k L/\t≠d/\pP H p d (k,L,b9 rows (bK rows ps r) k L) t)->R v p)->
   da K [.ref a,.ref b,.ref c,.ref d] g R E0:=by
  intro r g R w l i hR
  have γ:=w.len
  have P:∃o,g d=ψ o:=by
   obtain⟨ts,z,_⟩:=i
   exact⟨_,z⟩
  obtain⟨o,ho⟩:=P
  have J:=cR rows ps r
  have M:=jb rows ps r
  refine⟨rfl,a,b,c,d,ps,f,rows,aE rows ps r,rfl,l.seq hA,l.seq hB,l.rows hC,i.at,O,G.cb,G.v1,G.v20,G.pl,by rw[gK];omega,fun x hx=>?_,by rw[M];exact w.nd,il rows ps r,by rw[J];exact Cy G.p0,fun h H' A=>?_,fun k L n t S H' T U A B C=>?_⟩
  .have:x.1∈r.map (·.1):=by rw[<-M];exact QO.mpr ⟨x,hx,rfl⟩
   obtain⟨y,hy,e⟩:=QO.mp this
   have:=w.lt y hy
   omega
  .rw[J,M]at h
   exact hR H' .non A (.inl ⟨rfl,h⟩)
  .rw[J,M]at n
   rw[J]at C
   refine hR H' (.ref t) A (.inr ⟨k,L,t,rfl,n,fun z=>?_,S,l.free T,l.free U,fun z=>?_,B,C⟩)
   .rw[z,ho]at T
    cases T
   .rw[z,ho]at U
    cases U
 let St:⇑(Nat×Int)->V->Hp->Prop:=fun r v p=>(v=.non/\∀k,k<f.length->k∉r.map (·.1)->Cn rows.length (WR rows) (PF (bK rows ps r)) k<(aW f rows).c k)\/∃(k:Nat)(L:Int)(t:QI),v=.ref t/\Nx (aW f rows) (PF (bK rows ps r)) (r.map (·.1)) k L/\t≠d/\pP H p d (k,L,b9 rows (bK rows ps r) k L) t
 nofun
 symm
 refine ask [] H1 _ (Eb f rows ps) s1 ⟨[],h1,.nil⟩ fun H2 v s2 W=>?_
 symm
 nofun
 exists fun μ σ H'=>∃(r:⇑(Nat×Int))(v:V),σ=[ψ (.ref a),ψ (.ref b),ψ (.ref c),ψ (.ref d),ψ v]/\Pre f rows ps r/\ah H H'/\gv H H' d (aE rows ps r)/\St r v H'/\μ=f.length-r.length,⟨_,[],v,rfl,Eb f rows ps,s1.trans s2,⟨[],s2 _ _ h1,.nil⟩,W,rfl⟩
 rintro μ σ g ⟨r,v,rfl,w,l,i,W,rfl⟩
 rcases W with⟨rfl,s⟩|⟨k,L,t,rfl,n,X,S,z1,z2,z3,z4,z5⟩
 .symm
  refine gG rfl ?_
  symm
  exact q d g r f1 l i (Fq G (w.stop s))
 .symm
  refine CC ⋯ ?_
  have u:=w.snoc G.pl n
  have j:=u.len
  rw[RN]at j
  have j:r.length+1<=f.length:=j
  exists fun D H'=>∃(v:V),D=[ψ (.ref a),ψ (.ref b),ψ (.ref c),ψ (.ref d),ψ v]/\ah H H'/\gv H H' d (aE rows ps (r++[(k,L)]))/\St (r++[(k,L)]) v H',?_
  .rintro D H' ⟨v,rfl,A,F,Y⟩
   exact⟨_,(by rw[RN];show f.length-(r.length+1)<f.length-r.length;omega),r++[(k,L)],v,rfl,u,A,F,Y,rfl⟩
  obtain⟨ts,B,I⟩:=i
  have Z:=Ro I
  rw[gK]at Z
  nofun
  symm
  exists CG B
  symm
  refine cB B (by rw[QR];exact Rq (show ts.length<1000 by omega) aO) ?_
  have sb:ah H (upd g d (.lst (ts.map V.ref++[.ref t]))):=l.upd f1
  have m:gv H (upd g d (.lst (ts.map V.ref++[.ref t]))) d (aE rows ps (r++[(k,L)])):=by
   exists ts++[t],by rw[ak,Sv];rfl
   rw[vB]
   refine vG (zB I B) (.cons ⟨S,z1,z2,z3,by rw[aj X];exact z4,by rw[aj z3];exact z5⟩ .nil)
  generalize upd g d (.lst (ts.map V.ref++[.ref t]))=p at *
  symm
  refine ask (r++[(k,L)]) p _ u sb m fun H3 v N α=>?_
  symm
  obtain⟨β,y1,y2⟩:=m
  exact⟨v,rfl,sb.trans N,⟨β,N _ _ y1,Paired.mapP y2 fun _ _ ⟨b3,w1,w2,w3,w4,w5⟩=>⟨b3,w1,w2,w3,N _ _ w4,N _ _ w5⟩⟩,α⟩
theorem mI(C:fR K):∀vs H Q E,du K vs H Q E->fL K {nx:=fun _ H'=>Q .non H',rt:=Q} (start ["self","left","grains"] vs) H:=by
 rintro vs H Q E ⟨_,c,b,g,left,fp,s,rfl,⟨dx,l,f,w,N,X,rfl⟩,v,I,J,m,hv,q⟩
 have d:(left.map V.int).length=left.length:=QR _
 unfold fL
 nofun
 symm
 refine yR X.at_ C.aG C.bZ dP ?_
 symm
 try refine br (aD.of v) ?_
 refine bx (bR (K:=K) (xs:=left.map V.int) 0) (fun j=>[ψ ((left.map V.int).getD j .non),ψ (.int g)]) (by rintro j y (rfl|⟨k,rfl⟩)<;>rfl) (fun H' s=>s.seq (aD.of v)) (by rw[d];exact QV (show _<=1000 by omega) aO) (fun j=>.int (left.getD j 0%g)) ?_ ?_
 .intro j n H' G O z
  rw[d]at n
  have e:(left.map V.int).getD j .non=.int (left.getD j 0):=by simp[Q3,n]
  rw[e]
  symm
  exact z H' (ah.refl _)
 intro P o f1 t A
 rw[d]at A
 have R:(Q1 left.length).map (fun j=>V.int (left.getD j 0%g))=(left.map (· % g)).map V.int:=by
  rw[QY];exact aM (fun x:Int=>V.int (x%g)) 0 left
 rw[R]at A
 have X1:=X.same t
 have q1:aD K o P ((left.map (· % g)).map V.int):=aD.of A
 symm
 refine DP I J ?_
 exists _,_,rfl,rfl,dx,_,X1.at_,(show 6<1000 by decide)
 rw[ip]
 have X2:=X1.setF (a:=s.pot+(left.map (· % g)).sum/g) (b:=s.giv) (e:=s.spt)
 have L:bo [c,l,f,w] o (upd o c (.ins (aF K "Chest") dx (fD l f w (s.pot+(left.map (· % g)).sum/g) s.giv s.spt))):=bo.upd X1.at_ "~" ⋯
 have p:=t _ _ v
 have r:upd o c (.ins (aF K "Chest") dx (fD l f w (s.pot+(left.map (· % g)).sum/g) s.giv s.spt)) b=ψ (.lst (left.map V.int)):=by rw[aj (aH p X1.at_ ⋯)];exact p
 generalize upd o c (.ins (aF K "Chest") dx (fD l f w (s.pot+(left.map (· % g)).sum/g) s.giv s.spt))=H2 at *
 symm
 unfold Dm
 symm
 refine bJ X2.at_ C.aG C.aK bO ?_
 symm
 try refine br (aD.of r) ?_
 refine bx (bR (K:=K) (xs:=left.map V.int) 0) (fun j=>[ψ ((left.map V.int).getD j .non),ψ (.int g)]) (by rintro j y (rfl|⟨k,rfl⟩)<;>rfl) (fun H' s=>s.seq (aD.of r)) (by rw[d];exact QV (show _<=1000 by omega) aO) (fun j=>.int (left.getD j 0/g)) ?_ ?_
 .intro j n H' G O z
  rw[d]at n
  have e:(left.map V.int).getD j .non=.int (left.getD j 0):=by simp[Q3,n]
  rw[e]
  symm
  refine DP I J ?_
  exact z H' (ah.refl _)
 intro S u f3 B D
 rw[d]at D
 have T:(Q1 left.length).map (fun j=>V.int (left.getD j 0/g))=(left.map (· / g)).map V.int:=by
  rw[QY];exact aM (fun x:Int=>V.int (x/g)) 0 left
 rw[T]at D
 have X3:=X2.same B
 symm
 have U:(cD s.ps).map (·.1)=(s.ps.map (·.1)).map Ss:=by unfold cD;rw[QY,QY];rfl
 refine⟨l,S,_,_,rfl,X3.p1,aD.of D,by rw[cj];simp;exact Uo m.symm,by rw[cj];show s.ps.length<=1000;omega,?_,fun e F=>?_⟩
 .show((cD s.ps).map (·.1)).Nodup
  rw[U]
  exact List.pairwise_map.mpr (Xo (fun h e=>h (by injection e)) X.nd)
 have W:B3 (cD s.ps) ((left.map (· / g)).map V.int)=cD ((s.ps.map (·.1)).zip (left.map (· / g))):=by
  unfold B3 cD
  apply T5 ⋯
  intro i g1 g2
  simp
 rw[show B3 (cD (aB.mk s.ps s.cs s.ws (s.pot+(left.map (· % g)).sum/g) s.giv s.spt).ps) ((left.map (· / g)).map V.int)=_ from W]
 have M:ah u (upd u e (.dK (cD ((s.ps.map (·.1)).zip (left.map (· / g)))))):=ah.updN F
 have Y:upd u e (.dK (cD ((s.ps.map (·.1)).zip (left.map (· / g))))) e=ψ (.dK (cD ((s.ps.map (·.1)).zip (left.map (· / g))))):=ak
 generalize upd u e (.dK (cD ((s.ps.map (·.1)).zip (left.map (· / g)))))=H4 at *
 have X4:=X3.same M
 symm
 refine jZ X4.at_ C.aG C.aK (show 6<1000 by decide) ?_
 rw[yF]
 have Z:(((s.ps.map (·.1)).zip (left.map (· / g))).map (·.1)).Nodup:=by
  rw[VD (by simp[m])]
  exact X.nd
 have X5:=X4.setD Y (e9 X3.p2 F).symm Z
 refine q _ [c,e,f,w] ⟨dx,e,f,w,N,X5,rfl⟩ (((((bo.of t).trans L).trans (bo.of B)).trans (bo.of M)).trans (bo.upd X4.at_ "~" ⋯)) ?_
 intro a ha
 simp only[QW,RM,or_false]at ha
 rcases ha with rfl|rfl|rfl|rfl
 .exact .inl ⋯
 .exact .inr (t.free (L.2.2 _ (B.free F)))
 .exact .inl ⋯
 .exact .inl ⋯
theorem jH(C:fR K):∀vs H Q E,cU K vs H Q E->eC K {nx:=fun _ H'=>Q .non H',rt:=Q} (start ["self","voter"] vs) H:=by
 rintro vs H Q E ⟨_,c,dx,O,r,w,n,P,s,rfl,u,hd,hw,A,B,D,I,R,q⟩
 have J:c≠r:=aH u hd ⋯
 have L:w≠r:=aH hw hd ⋯
 have e:=cj s.cs
 unfold eC
 with_reducible refine Eg ?_
 refine Dd (d:=r) (kvs:=cD s.cs) (fun k e=>⟨_,rfl,bJ u C.aG C.bz cW e⟩) hd fun o S F=>?_
 refine yt F hd (G8 0 1 (fun i=>.str (s.cs.getD i ("",0)).1) ?_) (fun i=>[ψ (.int i),ψ (.str (s.cs.getD i ("",0)).1),ψ (.str n),ψ (.ref c)]) (by rintro j M (rfl|⟨k,rfl⟩)<;>rfl) (fun H' h _=>h) (by rw[e];exact QV (show _<=1000 by omega) aO)
  (fun i=>decide ((n,(s.cs.getD i ("",0)).1)∈s.ws)) (fun i=>.int i) ?_ ?_ ?_
 .intro i p b
  have hi:i<s.cs.length:=by rw[<-e];exact(Rw.mp b).1
  rw[gZ (QZ hi)]at b
  cases b
  rw[Rl,QZ hi]
  rfl
 .intro i hi H' G g v
  rw[e]at hi
  have N:aU (s.cs.getD i ("",0)).1:=D _ (getD_mem _ hi)
  symm
  rename_i t x y f m
  refine bJ (f _ _ (g c _ J u)) C.aG C.bB eV ?_
  refine D6 (p:=(n,(s.cs.getD i ("",0)).1)) m (f _ _ (g w _ L hw)) (Paired.mapP A fun _ a z=>f _ _ (g a _ (aH z hd ⋯) z)) B N I ?_
  rw[UG]
  symm
  exact v x f
 .intro i hi T H' G g v
  symm
  exact v H' (ah.refl _)
 intro l x y f m
 rw[e]at m
 refine q l x y f ?_
 rw[m]
 unfold intsOf rN
 rw[QY]
 rfl
theorem oA(C:fR K):∀vs H Q E,dF K vs H Q E->gs K {nx:=fun _ H'=>Q .non H',rt:=Q} (start ["self","place","paid","name","rows"] vs) H:=by
 rintro vs H Q E ⟨_,c,b,k,L,paid,fp,s,rfl,⟨dx,U,W,w,wt,X,rfl⟩,A,Y,B,hv,hn,q⟩
 have g:=cj s.ps
 have D:s.cs.getD k ("",0)=s.cs[k]:=by rw[Rl,QZ A];rfl
 unfold gs
 nofun
 symm
 refine bJ X.at_ C.aG C.bz cW ?_
 symm
 refine⟨W,_,rfl,X.p2,fun x Z=>?_⟩
 have u:ah H (upd H x (.lst ((cD s.cs).map fun p=>kV p.1))):=ah.updN Z
 have h1:upd H x (.lst ((cD s.cs).map fun p=>kV p.1)) x=ψ (.lst ((cD s.cs).map fun p=>kV p.1)):=ak
 generalize upd H x (.lst ((cD s.cs).map fun p=>kV p.1))=H1 at *
 symm
 refine bq (aD.of h1) (v:=.str (s.cs.getD k ("",0)).1) (ar (by rw[RU,gZ (QZ A),D];rfl)) ?_
 symm
 have X1:=X.same u
 have m:=u _ _ Y
 nofun
 with_reducible refine yi ?_
 refine Gh (K:=K) (d:=U) (l:=b) (kvs:=cD s.ps) (ys:=paid.map V.int) ?_ X1.p1 (aD.of m) (aH X1.p1 m ⋯) fun o Hf F=>?_
 .intro y I
  symm
  refine bJ X1.at_ C.aG C.aK bO ?_
  symm
  exact I
 refine y6 F X1.p1 (KY (K:=K) (ys:=paid.map V.int) 0 1 (fun i=>.str (s.ps.getD i ("",0)).1) ?_ (by rw[g,QR,B];exact Q2 _)) (fun i=>[ψ (.str (s.ps.getD i ("",0)).1),ψ ((paid.map V.int).getD i .non)]) (by rintro j α (rfl|⟨k,rfl⟩)<;>rfl)
  (fun H' h J=>⟨h,aD.of (J b _ (aH X1.p1 m ⋯).symm m)⟩) (by rw[g];exact QV (show _<=1000 by omega) aO) (fun i=>decide (0<paid.getD i 0)) (fun i=>.tup [.str (s.ps.getD i ("",0)).1,.int (paid.getD i 0)]) ?_ ?_ ?_
 .intro i p n
  have hi:i<s.ps.length:=by rw[<-g];exact(Rw.mp n).1
  rw[gZ (QZ hi)]at n
  cases n
  rw[Rl,QZ hi]
  rfl
 .intro i hi H' G J y
  rw[g]at hi
  have e:(paid.map V.int).getD i .non=.int (paid.getD i 0):=by simp[Q3,show i<paid.length by omega]
  rw[e]
  symm
  exact y H' (ah.refl _)
 .intro i hi β H' G J y
  rw[g]at hi
  have e:(paid.map V.int).getD i .non=.int (paid.getD i 0):=by simp[Q3,show i<paid.length by omega]
  rw[e]
  symm
  rename_i a M f N h
  exact y a M f N h
 intro r bs H2 f2 O S T
 rw[g]at T
 have X2:=X1.same O
 symm
 refine bJ X2.at_ C.aG C.bz cW ?_
 symm
 refine wK X2.p2 (v:=.int (s.cs.getD k ("",0)).2) (jn X.nd2 (getD_mem _ A)) ?_
 symm
 rename_i t H3 P R h3
 refine q t r H3 (u.free (O.free P)) (u.free f2) (fun e=>by rw[e,S]at P;cases P) ((u.trans O).trans R) h3 ⟨bs,R _ _ S,?_⟩
 have e:(aT s (k,L,paid)).2.2=((Q1 s.ps.length).filter fun i=>decide (0<paid.getD i 0)).map fun i=>((s.ps.getD i ("",0)).1,paid.getD i 0):=by
  show((s.ps.map (·.1)).zip paid).filter (fun p=>decide (0<p.2))=_
  have hz:((s.ps.map (·.1)).zip paid)=(Q1 s.ps.length).map fun i=>((s.ps.getD i ("",0)).1,paid.getD i 0):=by
   apply T5 "%"
   intro i g1 g2
   have gi:i<s.ps.length:=by simpa using g2
   simp[Rl,gi,show i<paid.length by omega]
  rw[hz,Uj]
  rfl
 rw[e]
 exact dZ (Paired.mapP T fun i a z=>⟨u.free z.1,R _ _ z.2.2⟩)
theorem mG(C:fR K):∀vs H Q E,cn K vs H Q E->fJ K E {nx:=fun _ H'=>Q .non H',rt:=Q} (start ["self","work"] vs) H:=by
 rintro vs H Q E ⟨_,c,n,g,s,rfl,⟨dx,i,j,w,k,x,rfl⟩,h⟩
 unfold fJ
 symm
 refine bJ x.at_ C.aG C.bz cW ?_
 refine Ek x.p2 ?_
 rcases h with⟨hn,q⟩|⟨hn,b,q⟩
 .obtain⟨p,d,rfl⟩:=QO.mp hn
  rw[jn x.nd2 (show(p.1,p.2)∈s.cs from d)]
  symm
  exact q
 .rw[mq hn]
  symm
  obtain⟨e,f,a⟩:=wJ b (show(Rh++("no work: ":QH)).length=9 by decide +kernel) "^"
  exact⟨_,rfl,e,_,rfl,n,rfl,f,_,rfl,a,a,(by decide:1<=QT),q _ (ah.refl _)⟩
theorem px(C:fR K):∀vs H Q E,c5 K vs H Q E->hX K E {nx:=fun _ H'=>Q .non H',rt:=Q} (start ["self","work"] vs) H:=by
 rintro vs H Q E ⟨_,c,n,T,s,rfl,⟨dx,g,e,w,o,X,rfl⟩,hw,J,L⟩
 unfold hX
 nofun
 symm
 refine bC X.at_ (cQ nofun) ?_
 symm
 by_cases d:n∈s.cs.map (·.1)
 rotate_left
 .exact⟨rfl,c,n,_,s,rfl,⟨dx,g,e,w,o,X,rfl⟩,.inr ⟨d,L _ (by rw[aL.due,if_neg d])⟩⟩
 have q:=J (by rw[aL.due,if_pos d])
 have hm:=ji d
 generalize vP s.cs n=x at *
 refine⟨rfl,c,n,_,s,rfl,⟨dx,g,e,w,o,X,rfl⟩,.inl ⟨d,?_⟩⟩
 symm
 nofun
 symm
 refine bJ X.at_ C.aG C.bz cW ?_
 exists e,rfl,.inl ⟨_,.inl X.p2⟩
 symm
 exists _,.inr n,.int x,X.p2,rfl,jn X.nd2 hm
 rw[Cs]
 have X2:=X.setC (cs:=s.cs.filter fun p=>decide (p.1≠n)) (oX X.nd2)
 have B:bo [c,g,e,w] H (upd H e (.dK (cD (s.cs.filter fun p=>decide (p.1≠n))))):=bo.upd X.p2 "~" ⋯
 generalize upd H e (.dK (cD (s.cs.filter fun p=>decide (p.1≠n))))=H2 at *
 symm
 refine bJ X2.at_ C.aG C.bB eV ?_
 exists w,rfl,⟨_,aD.of X2.w_⟩
 have m:s.ws.length=o.length:=Ro X.wt
 refine lD (vI (K:=K) (a:=w) (ts:=o) (u:=fun i=>.str (s.ws.getD i ("","")).1) (v:=fun i=>.str (s.ws.getD i ("","")).2) 0 1) (fun i=>[ψ (.str (s.ws.getD i ("","")).1),ψ (.str (s.ws.getD i ("","")).2),ψ (.str n)]) (by rintro j M (rfl|⟨k,rfl⟩)<;>rfl) ?_ (QV (show _<=1000 by omega) aO)
  (fun i=>!decide ((s.ws.getD i ("","")).2=n)) (fun i=>[.str (s.ws.getD i ("","")).1,.str (s.ws.getD i ("","")).2]) ?_ ?_ ?_
 .intro H' r
  refine⟨r.seq (aD.of X2.w_),fun i b t=>?_⟩
  have hi:i<s.ws.length:=by rw[m];exact(Rw.mp t).1
  obtain⟨U,D,N⟩:=d9 X2.wt (QZ hi)
  rw[t]at D
  cases D
  rw[Rl,QZ hi]
  exact r.seqT (d5.of N)
 .intro i hi H' G r y
  symm
  exact y H' (ah.refl _)
 .intro i hi t H' G r y
  symm
  rename_i a z f A h
  exact y a z f A h
 intro l bs O P F R I
 have X3:=X2.same F
 rw[<-m]at I
 have S:Q4 (AR O) (s.ws.filter fun p=>!decide (p.2=n)) bs:=by
  rw[<-de (fun p:QH×QH=>!decide (p.2=n)) ("","") s.ws]
  exact dZ I
 symm
 refine jZ X3.at_ C.aG C.bB (show 6<1000 by decide) ?_
 rw[rq]
 have X4:=X3.setW R S
 refine q _ [c,g,e,l] ⟨dx,g,e,l,bs,X4,rfl⟩ ((B.trans (bo.of F)).trans (bo.upd X3.at_ "~" ⋯)) ?_
 intro a ha
 simp only[QW,RM,or_false]at ha
 rcases ha with rfl|rfl|rfl|rfl
 .exact .inl ⋯
 .exact .inl ⋯
 .exact .inl ⋯
 .exact .inr (B.2.2 _ P)
theorem vj(C:fR K):∀vs H Q E,gE K vs H Q E->lM K {nx:=fun _ H'=>Q .non H',rt:=Q} (start ["self","grains","purses","wishes","steps","told","name","cost","rows"] vs) H:=by
 rintro vs H Q E ⟨_,c,fp,s,rfl,CH,G,qa,qb⟩
 obtain⟨dx,A,D,w,wt,X,rfl⟩:=id CH
 have J:=cj s.ps
 have hkc:=cj s.cs
 have hv:=G.v20
 have hn:=G.n12
 obtain⟨g0,gH⟩:=JL ⟨hv,hn⟩
 unfold lM
 nofun
 symm
 refine bJ X.at_ C.aG C.aK bO ?_
 exists A,_,rfl,X.p1
 by_cases hp:s.ps=[]
 .rw[show(!(cD s.ps).isEmpty)=ξ by rw[hp];rfl]
  symm
  rename_i l H1 f1 s1 L t H2 Y S T
  exact qa (.inl hp) t l H2 (s1.free Y) f1 (fun e=>by rw[e,L]at Y;cases Y) (s1.trans S) T (S _ _ L)
 have κ:0<s.ps.length:=SF.mpr hp
 have e:(!(cD s.ps).isEmpty)=ω:=by
  cases hh:s.ps with
  |nil=>exact absurd hh hp
  |cons=>rfl
 rw[e]
 symm
 refine bJ X.at_ C.aG C.bz cW ?_
 exists D,_,rfl,X.p2
 by_cases hc:s.cs=[]
 .rw[show(!(cD s.cs).isEmpty)=ξ by rw[hc];rfl]
  symm
  rename_i l H1 f1 s1 L t H2 Y S T
  exact qa (.inr hc) t l H2 (s1.free Y) f1 (fun e=>by rw[e,L]at Y;cases Y) (s1.trans S) T (S _ _ L)
 have e:(!(cD s.cs).isEmpty)=ω:=by
  cases hh:s.cs with
  |nil=>exact absurd hh hc
  |cons=>rfl
 rw[e]
 have qb:=qb hp hc
 have GT:=G.town hp
 symm
 nofun
 symm
 refine bJ X.at_ C.aG C.aK bO ?_
 symm
 refine wm X.p1 ?_
 rw[J]
 symm
 refine bJ X.at_ C.aG C.bz cW ?_
 symm
 refine wm X.p2 ?_
 rw[hkc]
 symm
 exists rfl,s.ps.length,s.cs.length,rfl,κ,hv,hn
 rw[show((kd s.ps.length ^ (s.cs.length+1):Nat):Int)=(cO s:Int)from rfl]
 symm
 nofun
 with_reducible refine yi ?_
 refine E6 (d:=A) (kvs:=cD s.ps) (fun k hk=>⟨_,rfl,bJ X.at_ C.aG C.aK bO hk⟩) X.p1 fun o Hf F=>?_
 refine yt F X.p1 (JX 0 (fun i=>.int (s.ps.getD i ("",0)).2) ?_) (fun i=>[ψ (.int (s.ps.getD i ("",0)).2),ψ (.int (cO s:Int))]) (by rintro j μ (rfl|⟨k,rfl⟩)<;>rfl) (fun H' h _=>h) (by rw[J];exact QV (show _<=1000 by omega) aO)
  (fun _=>true) (fun i=>.int ((s.ps.getD i ("",0)).2*(cO s:Int))) (fun i hi H' G s k=>k H' (ah.refl _)) ?_ ?_
 .intro i p M
  have hi:i<s.ps.length:=by rw[<-J];exact(Rw.mp M).1
  rw[gZ (QZ hi)]at M
  cases M
  rw[Rl,QZ hi]
  rfl
 .intro i hi hb H' F' N kk
  rw[J]at hi
  have ν:=G.p0 _ (getD_mem (xs:=s.ps) ("",0) hi)
  symm
  try refine GV "`" "`" ?_
  exact kk H' (ah.refl _)
 intro la H1 f1 s1 L
 rw[Sd.mpr (fun _ _=>rfl),J]at L
 have e1:(Q1 s.ps.length).map (fun i=>V.int ((s.ps.getD i ("",0)).2*(cO s:Int)))=(av s).map V.int:=by
  unfold av
  rw[QY]
  exact aM (fun p:QH×Int=>V.int (p.2*(cO s:Int))) ("",0) s.ps
 rw[e1]at L
 have X1:=X.same s1
 nofun
 with_reducible refine yi ?_
 refine ES (d:=A) (kvs:=cD s.ps) (fun k hk=>⟨_,rfl,bJ X1.at_ C.aG C.aK bO hk⟩) X1.p1 fun o Hf F=>?_
 refine y6 F X1.p1 (Eo 0 (fun i=>.str (s.ps.getD i ("",0)).1) ?_) (fun i=>[ψ (.str (s.ps.getD i ("",0)).1),ψ (.ref c)]) (by rintro j μ (rfl|⟨k,rfl⟩)<;>rfl) (fun H' h _=>h) (by rw[J];exact QV (show _<=1000 by omega) aO)
  (fun _=>true) (fun i=>.lst ((intsOf (rN s (s.ps.getD i ("",0)).1)).map V.int)) (fun i hi H' G s k=>k H' (ah.refl _)) ?_ ?_
 .intro i p M
  have hi:i<s.ps.length:=by rw[<-J];exact(Rw.mp M).1
  rw[gZ (QZ hi)]at M
  cases M
  rw[Rl,QZ hi]
  rfl
 .intro i hi hb H' F' N kk
  rw[J]at hi
  have ν:=G.ap _ (getD_mem (xs:=s.ps) ("",0) hi)
  have n1:c≠A:=aH X1.at_ X1.p1 ⋯
  have n2:w≠A:=aH X1.w_ X1.p1 ⋯
  symm
  refine bC (N c _ n1 X1.at_) (cQ nofun) ?_
  symm
  refine⟨rfl,c,dx,A,D,w,_,wt,s,rfl,N c _ n1 X1.at_,N D _ (Rb X.ne) X1.p2,N w _ n2 X1.w_,Paired.mapP X1.wt fun _ a z=>N a _ (aH z X1.p1 ⋯) z,ν,G.ac,G.aw,by omega,fun l' H2 Y S T=>?_⟩
  exact kk l' H2 Y S T
 intro lb bs H2 Y S T pr
 rw[Sd.mpr (fun _ _=>rfl),J]at pr
 have X2:=X1.same S
 have hR:fC K H2 lb (aq s):=by
  exists bs,aD.of T
  unfold aq
  rw[<-aM (fun p:QH×Int=>intsOf (rN s p.1)) ("",0) s.ps]
  exact dZ (Paired.mapP pr fun i a z=>aD.of z.2.2)
 nofun
 symm
 refine bJ X2.at_ C.aG C.bz cW ?_
 refine MK X2.p2 fun v H3 f3 s3 h3=>?_
 symm
 refine⟨v,D,_,rfl,h3,s3 _ _ X2.p2,fun lc f4=>?_⟩
 have e4:(cD s.cs).map (·.2)=(bg s).map V.int:=by unfold cD bg;rw[QY,QY];rfl
 rw[e4]
 have s4:ah H3 (upd H3 lc (.lst ((bg s).map V.int))):=ah.updN f4
 have h4:upd H3 lc (.lst ((bg s).map V.int)) lc=ψ (.lst ((bg s).map V.int)):=ak
 generalize upd H3 lc (.lst ((bg s).map V.int))=H4 at *
 have δ:=s3.trans s4
 symm
 refine⟨rfl,la,lc,lb,av s,bg s,aq s,rfl,aD.of ((S.trans δ) _ _ L),aD.of h4,δ.rows hR,GT,fun ls H5 run f5 s5 n5 rx=>?_⟩
 have qb:=qb run
 have ρ:=n5.at
 have α:=yw rx.run
 have hsl:(aE (aq s) (av s) run).length=run.length:=gK _ _ _
 have τ:(aE (aq s) (av s) run).map (·.1)=run.map (·.1):=jb _ _ _
 have φ:(bg s).length=s.cs.length:=by simp[bg]
 have ε:(av s).length=s.ps.length:=by simp[av]
 have hrn:run.length<=s.cs.length:=by
  have:=eY s.cs.length (run.map (·.1)) α.2 (fun x hx=>by
   obtain⟨y,hy,rfl⟩:=QO.mp hx
   have:=(α.1 y hy).1
   rw[<-φ];exact this)
  simpa using this
 have O:∀x∈aE (aq s) (av s) run,x.1<s.cs.length/\x.2.2.length=s.ps.length:=fun x hx=>by
  refine⟨?_,by rw[il _ _ _ x hx,ε]⟩
  have hm:x.1∈run.map (·.1):=by rw[<-τ];exact QO.mpr ⟨x,hx,rfl⟩
  obtain⟨y,hy,e⟩:=QO.mp hm
  have:=(α.1 y hy).1
  rw[<-e,<-φ];exact this
 have hnd:((aE (aq s) (av s) run).map (·.1)).Nodup:=by rw[τ];exact α.2
 generalize aE (aq s) (av s) run=g at *
 have s25:=δ.trans s5
 have s15:=S.trans s25
 have U:=s1.trans s15
 have X5:=X2.same s25
 obtain⟨ts,ζ,B⟩:=ρ.b
 symm
 nofun
 symm
 try refine br (B.ys (ah.refl _)).1 ?_
 refine eR (eA (K:=K) (a:=ls) (ts:=ts) (u:=fun i=>.int ((g.getD i stN).1:Nat)) (v:=fun i=>.int (g.getD i stN).2.1) (w:=fun i=>.ref (ζ.getD i 0)) 0 1 2) (fun j=>[ψ (.int ((g.getD j stN).1:Nat)),ψ (.int (g.getD j stN).2.1),ψ (.ref (ζ.getD j 0)),ψ (.ref c)]) (by rintro j μ (rfl|⟨k,rfl⟩)<;>rfl) (fun H' s=>B.ys s) (by rw[B.tl];exact QV (show g.length<=1000 by omega) aO)
  (fun _=>true) (fun l i v H'=>∃t r us,v=V.ref t/\(t≠l/\r≠l/\H5 r=χ)/\H' t=ψ (.tup [.str (aT s (g.getD i stN)).1,.int (aT s (g.getD i stN)).2.1,.ref r])/\H' r=ψ (.lst (Sr V.ref us))/\Q4 (fun p b=>b≠l/\Qe H' p b) (aT s (g.getD i stN)).2.2 us)
  (fun l i v Ha Hb N ⟨t,r,us,e,n,L,T,h3⟩=>⟨t,r,us,e,n,N _ _ n.1 L,N _ _ n.2.1 T,Paired.mapP h3 fun _ b z=>⟨z.1,N _ _ z.1 z.2⟩⟩) (fun i hi H' G s k=>k H' (ah.refl _)) ?_ ?_
 .intro l i hi _ H' F' h0 ⟨o,ho⟩ N kk
  rw[B.tl]at hi
  have X6:=X5.same N
  have hm:=O _ (getD_mem stN hi)
  obtain⟨t',b',a1,a2,_,a4⟩:=B.ats i g[i] (by simp[hi])
  have g1:g.getD i stN=g[i]:=by simp[Q3,hi]
  have g2:ζ.getD i 0=b':=by rw[Q3,a2];rfl
  simp only[g1]at hm kk ⊢
  rw[g2]
  symm
  refine bC X6.at_ (cQ nofun) ?_
  symm
  refine⟨rfl,c,b',_,(g[i]).2.1,(g[i]).2.2,_,s,rfl,⟨dx,A,D,w,wt,X6,rfl⟩,hm.1,N _ _ a4,hm.2,hv,hn,fun t r H7 ft fr ntr s7 h7 hr=>?_⟩
  obtain⟨us,hr1,hr2⟩:=hr
  have nl:∀{a:QI},H' a=χ->a≠l:=fun {a} ha e=>by rw[e,ho]at ha;cases ha
  exact kk _ H7 ⟨t,r,us,rfl,⟨nl ft,nl fr,N.free fr⟩,h7,hr1,Paired.mapP hr2 fun _ b z=>⟨nl z.1,z.2⟩⟩ s7
 intro l ys R f6 s6 h6 pr6
 rw[Sd.mpr (fun _ _=>rfl),B.tl]at pr6
 obtain⟨tt,Z,p6,q6⟩:=oR (P:=fun r=>r≠l/\H5 r=χ) (f:=fun i=>aT s (g.getD i stN)) (Paired.mapP pr6 fun i v ⟨t,r,us,e,n,L,T,h3⟩=>⟨t,r,e,n.2,L,us,T,Paired.mapP h3 fun _ _ z=>z.2⟩)
 rw[aM (aT s) stN g]at p6
 subst Z
 have T6:nO R l tt (g.map (aT s)):=⟨h6,p6⟩
 have η:=U.trans s6
 have X6:=X5.same s6
 have θ:H l=none:=U.free f6
 have W:l∉[c,A,D,w]:=fun m=>(aI.there ⟨dx,A,D,w,wt,X,rfl⟩:∀a∈[c,A,D,w],H a≠none) l m θ
 have hrfp:∀t∈tt,∀y z r,R t=ψ (.tup [y,z,.ref r])->r∉[c,A,D,w]:=fun t ht y z r e m=>(aI.there ⟨dx,A,D,w,wt,X,rfl⟩:∀a∈[c,A,D,w],H a≠none) r m (U.free (q6 t ht y z r e).2)
 symm
 nofun
 symm
 refine bC X6.at_ (cQ nofun) ?_
 symm
 refine⟨rfl,la,ls,av s,g,rfl,aD.of ((s15.trans s6) _ _ L),jD s6 ρ,by omega,by omega,fun x hx=>by rw[(O x hx).2,ε],fun ll H7 f7 s7 h7=>?_⟩
 have X7:=X6.same s7
 have s67:=s7
 symm
 have hlo:(aZ (av s) g).length=s.ps.length:=by simp[aZ,ε]
 refine⟨rfl,c,ll,(cO s:Int),aZ (av s) g,_,s,rfl,⟨dx,A,D,w,wt,X7,rfl⟩,h7,g0,gH,hlo,hv,fun H8 fp8 x8 b8 n8=>?_⟩
 rw[<-C6]at x8
 symm
 have b68:bo [c,A,D,w] R H8:=(bo.of s7).trans b8
 have n68:gY [c,A,D,w] fp8 R:=fun a ha=>by
  rcases n8 a ha with z|z
  .exact .inl z
  .exact .inr (s7.free z)
 obtain⟨rs,hys⟩:=T6.ys (K:=K)
 generalize hLf:aZ (av s) g=left at *
 have htl:tt.length=g.length:=by rw[<-Ro p6,QR]
 nofun
 symm
 try refine br (hys _ _ b68 W).1 ?_
 refine fH (eA (K:=K) (a:=l) (ts:=tt) (u:=fun i=>.str ((g.map (aT s)).getD i Nw).1) (v:=fun i=>.int ((g.map (aT s)).getD i Nw).2.1) (w:=fun i=>.ref (rs.getD i 0)) 6 7 8)
  (fun i σ H'=>(∃I,aI K H' c I (bW s left (cO s) ((g.map (aT s)).take i))/\gY [c,A,D,w] I R)/\bo [c,A,D,w] R H'/\∃v6 v7 v8,σ=[ψ (.ref c),ψ (.int (cO s:Int)),ψ (.ref la),ψ (.ref lb),ψ (.ref ls),ψ (.ref l),v6,v7,v8])
  ⟨⟨fp8,x8,n68⟩,b68,_,_,_,rfl⟩ (fun i σ H' p=>hys _ _ p.2.1 W) ?_ ?_
 .rintro i σ Ha Hb hi ⟨⟨I,xa,na⟩,ba,v6,v7,v8,rfl⟩ sb
  rw[htl]at hi
  have bb:bo [c,A,D,w] R Hb:=ba.trans (bo.of sb)
  have xb:=xa.same sb
  have hil:i<(g.map (aT s)).length:=by rw[QR];exact hi
  have gi:(g.map (aT s)).getD i Nw=aT s (g.getD i stN):=by simp[Q3,hi]
  rw[gi]
  obtain⟨β,a1,a2,a3,at',XX,efp⟩:=id xb
  show ax _ _ _ _ _
  nofun
  symm
  refine yR XX.at_ C.aG C.gN yI ?_
  symm
  exists _,_,rfl,rfl,β,_,XX.at_,(show 6<1000 by decide)
  rw[FD]
  have XY:=XX.setF (a:=(bW s left (cO s) ((g.map (aT s)).take i)).pot) (b:=(bW s left (cO s) ((g.map (aT s)).take i)).giv) (e:=(bW s left (cO s) ((g.map (aT s)).take i)).spt+(aT s (g.getD i stN)).2.1)
  have γ:bo I Hb (upd Hb c (.ins (aF K "Chest") β (fD a1 a2 a3 (bW s left (cO s) ((g.map (aT s)).take i)).pot (bW s left (cO s) ((g.map (aT s)).take i)).giv ((bW s left (cO s) ((g.map (aT s)).take i)).spt+(aT s (g.getD i stN)).2.1)))):=bo.upd XX.at_ "~" (by rw[efp];simp)
  generalize upd Hb c (.ins (aF K "Chest") β (fD a1 a2 a3 (bW s left (cO s) ((g.map (aT s)).take i)).pot (bW s left (cO s) ((g.map (aT s)).take i)).giv ((bW s left (cO s) ((g.map (aT s)).take i)).spt+(aT s (g.getD i stN)).2.1)))=Hc at *
  have hm:=O _ (getD_mem stN hi)
  have hgd:s.cs.getD (g.getD i stN).1 ("",0)∈s.cs:=getD_mem _ hm.1
  symm
  refine bC XY.at_ (cQ nofun) ?_
  symm
  have ι:((aT s (g.getD i stN)).1,(aT s (g.getD i stN)).2.1)∈(bW s left (cO s) ((g.map (aT s)).take i)).cs:=by
   show _∈s.cs.filter _
   refine Ra.mpr ⟨hgd,?_⟩
   rw[decide_eq_true_eq]
   intro m
   rw[<-WU,QY]at m
   obtain⟨x,hx,ex⟩:=QO.mp m
   obtain⟨j,hj,ej⟩:=Sa hx
   have hj':j<i/\j<g.length:=by rw[RJ]at hj;omega
   rw[Vl]at ej
   have hmj:=O x (UA hx)
   have ex:(s.cs.getD x.1 ("",0)).1=(s.cs.getD (g.getD i stN).1 ("",0)).1:=ex
   have e1:=ma X.nd2 hmj.1 hm.1 ex
   have g1:g.getD i stN=g[i]:=by simp[Q3,hi]
   have:=Se.mp hnd j i "%" "%" hj'.1
   simp only[Ui]at this
   rw[ej,<-g1]at this
   exact this e1
  have hdw:(aL.withdraw (aT s (g.getD i stN)).1).due {bW s left (cO s) ((g.map (aT s)).take i)with spt:=(bW s left (cO s) ((g.map (aT s)).take i)).spt+(aT s (g.getD i stN)).2.1}=none:=by
   rw[aL.due,if_pos]
   exact QO.mpr ⟨_,ι,rfl⟩
  refine⟨rfl,c,(aT s (g.getD i stN)).1,I,_,rfl,⟨β,a1,a2,a3,at',XY,efp⟩,QV (Sb _ _) (by have:=G.wl;omega),fun _ Hd fpd xd bd nd'=>?_,fun cl e=>by rw[hdw]at e;cases e⟩
  have et:(g.map (aT s)).take (i+1)=(g.map (aT s)).take i++[aT s (g.getD i stN)]:=by
   rw[Uh,<-gi,Rl,QZ hil]
   rfl
  symm
  have bad:bo [c,A,D,w] R Hd:=by
   refine⟨fun a o n h=>?_,fun a xs h=>bd.2.1 _ _ (γ.2.1 _ _ (bb.2.1 _ _ h)),fun a h=>bb.2.2 _ (γ.2.2 _ (bd.2.2 _ h))⟩
   have n2:a∉I:=fun m=>by
    rcases na a m with z|z
    .exact n z
    .rw[h]at z;cases z
   exact bd.1 _ _ n2 (γ.1 _ _ n2 (bb.1 _ _ n h))
  refine⟨⟨fpd,?_,fun a ha=>?_⟩,bad,_,_,_,rfl⟩
  .rw[et,BS]
   exact xd
  .rcases nd' a ha with z|z
   .exact na a z
   .exact .inr (bb.2.2 _ (γ.2.2 _ z))
 .rintro σ Ha ⟨⟨I,xa,na⟩,ba,v6,v7,v8,rfl⟩
  rw[htl,SU ⋯]at xa
  have tot:∀a∈I,a∈[c,A,D,w]\/R a=none:=na
  have n1:∀{a:QI}{o:HO},H a=χ->R a=ψ o->a∉I:=fun {a o} h0 L m=>by
   rcases na a m with z|z
   .exact(aI.there ⟨dx,A,D,w,wt,X,rfl⟩:∀a∈[c,A,D,w],H a≠none) a z h0
   .rw[L]at z;cases z
  symm
  rename_i t H9 f9 s9 h9
  have T9:=T6.but (ba.trans (bo.of s9)) W hrfp
  refine qb t l tt H9 I rx (((bo.of η).trans ba).trans (bo.of s9)) (fun a ha=>?_) (xa.same s9) (η.free (ba.2.2 _ f9)) θ (n1 θ h6) h9 T9 fun t' ht y z r e=>?_
  .rcases na a ha with z|z
   .exact .inl z
   .exact .inr (η.free z)
  .have Z:=T6.tup (ba.trans (bo.of s9)) t' ht y z r e
   obtain⟨q1,q2⟩:=q6 t' ht y z r Z
   exists q1,U.free q2
   obtain⟨o,ho⟩:∃o,R r=ψ o:=by
    have:∀{rows:⇑dz}{ts:⇑QI},Q4 (LQ R) rows ts->t'∈ts->∃o,R r=ψ o:=by
     intro rows ts hh hm
     induction hh with
     |nil=>cases hm
     |cons q _ ih=>
      rcases QW.mp hm with rfl|hm
      .obtain⟨r',g1,us,g2,_⟩:=q
       rw[g1]at Z
       injection Z with Z
       injection Z with Z
       simp at Z
       rw[<-Z.2.2]
       exact⟨_,g2⟩
      .exact ih hm
    exact this p6 ht
   exact n1 (U.free q2) ho
theorem AB:∀vs H Q E,jm K vs H Q E->oW K {nx:=fun _ H'=>Q .non H',rt:=Q} (start ["rows"] vs) H:=by
 rintro vs H Q E ⟨_,l,c,rfl,⟨ts,h,m⟩,t,f,q⟩
 have w:=size_eq
 obtain⟨y,es,L,M,N,O,em,P⟩:=ck
 have e:c.length=ts.length:=Ro m
 unfold oW
 symm
 try refine br (aD.of h) ?_
 refine bx (vI (K:=K) (a:=l) (ts:=ts) (u:=fun i=>.str (c.getD i ("",0)).1) (v:=fun i=>.int (c.getD i ("",0)).2) 0 1) (fun i=>[ψ (.str (c.getD i ("",0)).1),ψ (.int (c.getD i ("",0)).2)]) (by rintro j z (rfl|⟨k,rfl⟩)<;>rfl) ?_ (QV (show _<=1000 by omega) aO)
   (fun i=>.str (cZ (c.getD i ("",0)))) ?_ ?_
 .intro H' g
  refine⟨g.seq (aD.of h),fun i b d=>?_⟩
  have hi:i<c.length:=by rw[e];exact(Rw.mp d).1
  obtain⟨R,n,A⟩:=d9 m (QZ hi)
  rw[d]at n
  cases n
  rw[Rl,QZ hi]
  exact g.seqT (d5.of A)
 .intro i hi H' G g B
  have hm:=getD_mem (xs:=c) ("",0) (show i<c.length by omega)
  have d:=f _ hm
  have C:=d.2.len
  have D:(c.getD i ("",0)).1.length<=8:=d.1
  have o:=pQ d.1 d.2
  symm
  refine⟨_,rfl,_,rfl,by omega,_,rfl,?_,_,rfl,?_,_,rfl,_,rfl,d.2.log,_,rfl,?_,?_,B H' (ah.refl _)⟩
  .rw[Ru];omega
  .rw[Ru,Ru];omega
  .show(cZ _).length<=_;omega
  .show(cZ _).length<=_;omega
 intro S F T I r
 rw[<-e,aM (fun p:QH×Int=>V.str (cZ p)) ("",0) c,show c.map (fun p=>V.str (cZ p))=(c.map cZ).map V.str by rw[QY];rfl]at r
 symm
 refine rj 609 (aD.of r) (fun x J=>?_) ?_ ?_
 .obtain⟨p,s,rfl⟩:=QO.mp J
  exact pQ (f p s).1 (f p s).2
 .rw[QR,y]
  have:c.length*(609+2)<=20*611:=SV _ t
  omega
 .exact q F I
theorem Aa:∀vs H Q E,jq K vs H Q E->qQ K {nx:=fun _ H'=>Q .non H',rt:=Q} (start ["work","cost","rows","payers"] vs) H:=by
 rintro vs H Q E ⟨_,l,r,rfl,e,d,a,b,c,q⟩
 have f:=size_eq
 obtain⟨m,es,n,o,p,s,em,t⟩:=ck
 unfold qQ
 nofun
 symm
 refine⟨rfl,l,r.2.2,rfl,e,b,c,fun g h=>?_⟩
 have i:=a.len
 have j:r.1.length<=8:=d
 have k:=ri b c
 have hd:=mC d a b c
 symm
 refine⟨_,rfl,_,rfl,by omega,_,rfl,?_,_,rfl,?_,_,rfl,_,rfl,a.log,_,rfl,?_,_,rfl,?_,_,rfl,_,rfl,by omega,_,rfl,?_,?_,q g h⟩
 .rw[Ru];omega
 .rw[Ru,Ru];omega
 .show(Rh++r.1++(" ":QH)++iT r.2.1).length<=_
  simp only[Ru];omega
 .show(Rh++r.1++(" ":QH)++iT r.2.1++(": ":QH)).length<=_
  simp only[Ru];omega
 .show(bQ r).length<=_;omega
 .show(bQ r).length<=_;omega
theorem tz:∀vs H Q E,fF K vs H Q E->j3 K {nx:=fun _ H'=>Q .non H',rt:=Q} (start ["done","grains","told"] vs) H:=by
 rintro vs H Q E ⟨_,l,ts,c,g,rfl,⟨y,M⟩,R,N,O,q⟩
 have h:=size_eq
 obtain⟨ec,es,e1,e2,eo,ep,em,e0⟩:=ck
 have d:c.length=ts.length:=Ro M
 unfold j3
 nofun
 symm
 exists _,rfl,l,_,rfl,aD.of y
 by_cases hn:c=[]
 .have z:ts=[]:=VF.mp (by rw[<-d,hn];rfl)
  rw[z,show(!(Sr V.ref ([]:⇑QI)).isEmpty)=ξ from rfl]
  symm
  have e:eO c g="none":=if_pos hn
  rw[<-e]
  exact q _ (ah.refl _)
 have z:(!(Sr V.ref ts).isEmpty)=ω:=by
  cases ts with
  |nil=>exact absurd (VF.mp d) hn
  |cons=>rfl
 rw[z]
 symm
 nofun
 symm
 try refine br (aD.of y) ?_
 have m:∀i:Nat,∃a:QI,∀t,ts[i]?=ψ t->H t=ψ (.tup [.str (c.getD i ("",0,[])).1,.int (c.getD i ("",0,[])).2.1,.ref a])/\jY H a (c.getD i ("",0,[])).2.2:=fun i=>by
  by_cases hi:i<c.length
  .obtain⟨b',S,a,T,U⟩:=d9 M (QZ hi)
   refine⟨a,fun t r=>?_⟩
   rw[S]at r
   cases r
   rw[Rl,QZ hi]
   exact⟨T,U⟩
  .refine⟨0,fun t r=>?_⟩
   have:=(Rw.mp r).1
   omega
 obtain⟨A,n⟩:=Vp m
 refine bx (eA (K:=K) (a:=l) (ts:=ts) (u:=fun i=>.str (c.getD i ("",0,[])).1) (v:=fun i=>.int (c.getD i ("",0,[])).2.1) (w:=fun i=>.ref (A i)) 0 1 2) (fun i=>[ψ (.str (c.getD i ("",0,[])).1),ψ (.int (c.getD i ("",0,[])).2.1),ψ (.ref (A i))]) (by rintro j W (rfl|⟨k,rfl⟩)<;>rfl) ?_ (QV (show _<=1000 by omega) aO)
   (fun i=>.str (bQ (c.getD i ("",0,[])))) ?_ ?_
 .intro H' s
  exact⟨s.seq (aD.of y),fun i b X=>s.seqT (d5.of (n i b X).1)⟩
 .intro i hi H' G s Y
  have hm:=getD_mem (xs:=c) ("",0,[]) (show i<c.length by omega)
  obtain⟨B,C,D,F⟩:=O _ hm
  symm
  exact⟨rfl,A i,c.getD i ("",0,[]),rfl,(n i ts[i] (QZ hi)).2.same s,B,C,D,F,fun I J=>Y I J⟩
 intro l7 Z f7 s7 P
 rw[<-d,aM (fun p:dz=>V.str (bQ p)) ("",0,[]) c,show c.map (fun p=>V.str (bQ p))=(c.map bQ).map V.str by rw[QY];rfl]at P
 have o:∀x∈c.map bQ,x.length<=12840:=fun x hx=>by
  obtain⟨p,hp,rfl⟩:=QO.mp hx
  obtain⟨B,C,D,F⟩:=O p hp
  exact mC B C D F
 have L:(c.map bQ).length*(12840+("; ":QH).length)<=154104:=by
  rw[QR,es]
  have:c.length*(12840+2)<=12*12842:=SV _ R
  omega
 have α:=QV (fk (sep:="; ") o) L
 symm
 refine rj 12840 (aD.of P) o "`" ?_
 symm
 have e:eO c g=Rh++Q7 "; " (c.map bQ)++" of "++iT g:=if_neg hn
 have β:=N.len
 have f:(eO c g).length<=16777216:=by rw[e];simp only[Ru];omega
 rw[e]at f q
 refine⟨_,rfl,_,rfl,by omega,_,rfl,?_,_,rfl,?_,_,rfl,_,rfl,N.log,_,rfl,?_,?_,q Z s7⟩
 .rw[Ru];omega
 .rw[Ru,Ru];omega
 .rw[h];exact f
 .rw[h];exact f
theorem uF:∀vs H Q E,gF K vs H Q E->kE K {nx:=fun _ H'=>Q .non H',rt:=Q} (start ["chest","closing"] vs) H:=by
 rintro vs H Q E ⟨_,c,o,s,rfl,CH,G,q⟩
 obtain⟨dx,L,M,w,N,X,v⟩:=id CH
 unfold kE
 nofun
 symm
 refine bC X.at_ (cQ nofun) ?_
 symm
 refine⟨rfl,c,o,s,rfl,CH,G.g,fun a t l x y A O p b e=>?_,fun B C run t l ts x f h D F I y A P b e nr=>?_⟩
 .have i:aC s=s:=if_pos a
  have k:d6 s="none":=if_pos a
  rw[i,k]at q
  symm
  refine eG (d5.of b) (ar (j:=0) rfl) ?_
  symm
  refine eG (d5.of b) (ar (j:=1) rfl) ?_
  symm
  refine⟨rfl,l,[],[],1,rfl,⟨e,.nil⟩,RL _,eU "^" "^",(fun r J=>by cases J),fun m d=>?_⟩
  rw[show eO [] 1="none" from if_pos rfl]
  exact q m o (CH.same (p.trans d)) (bo.of (p.trans d)) gY.refl
 .have a:¬(s.ps=[]\/s.cs=[]):=fun z=>by rcases z with z|z;exact B z;exact C z
  have u:=p9 h
  have i:aC s=cm s run:=by rw[<-u];exact if_neg a
  have k:d6 s=eO ((aE (aq s) (av s) run).map (aT s)) (cO s):=by
   rw[<-u];exact if_neg a
  rw[i,k]at q
  symm
  refine eG (d5.of b) (ar (j:=0) rfl) ?_
  symm
  refine eG (d5.of b) (ar (j:=1) rfl) ?_
  symm
  have n:=dg h
  refine⟨rfl,l,ts,_,_,rfl,e,by rw[QR];exact QV n.1 G.g.n12,OK G.g,J1 G h,fun m d=>?_⟩
  exact q m f (I.same d) (D.trans (bo.of d)) F
theorem Ad:∀vs H Q E,jB K vs H Q E->qr K {nx:=fun _ H'=>Q .non H',rt:=Q} (start ["work","cost","wanters","names"] vs) H:=by
 rintro vs H Q E ⟨_,l,r,rfl,b,f,e,c,d,q⟩
 have i:=size_eq
 obtain⟨s,es,u,v,w,j,em,x⟩:=ck
 have k:=e.len
 have m:r.1.length<=8:=f
 have n:=oM c d
 have hd:=ml f e c d
 unfold qr
 with_reducible refine kM (fun g H'=>ah H H'/\g=[ψ (.str r.1),ψ (.int r.2.1),ψ (.ref l),ψ (.str (bY r.2.2))]) (fun F h=>?_) ?_
 .symm
  cases hn:r.2.2 with
  |nil=>
   exists _,rfl,l,_,rfl,b
   rw[hn]
   symm
   refine h _ _ ⟨ah.refl _,?_⟩
   rw[hn]
   rfl
  |cons a t=>
   exists _,rfl,l,_,rfl,b
   rw[hn,show(!(Sr V.str (a::t)).isEmpty)=ω from rfl]
   symm
   rw[hn]at b d c
   refine rj 8 b d ?_ ?_
   .rw[j]
    have:(a::t).length*(8+1)<=20*9:=SV _ c
    omega
   .symm
    refine h _ _ ⟨ah.refl _,?_⟩
    rw[hn]
    rfl
 rintro g o ⟨p,rfl⟩
 symm
 refine⟨_,rfl,_,rfl,by omega,_,rfl,?_,_,rfl,?_,_,rfl,_,rfl,e.log,_,rfl,?_,_,rfl,?_,_,rfl,_,rfl,by omega,_,rfl,?_,?_,q o p⟩
 .rw[Ru];omega
 .rw[Ru,Ru];omega
 .show(Rh++r.1++(" ":QH)++iT r.2.1).length<=_
  simp only[Ru];omega
 .show(Rh++r.1++(" ":QH)++iT r.2.1++(" ":QH)).length<=_
  simp only[Ru];omega
 .show(cN r).length<=_;omega
 .show(cN r).length<=_;omega
theorem xu:∀vs H Q E,iD K vs H Q E->nQ K {nx:=fun _ H'=>Q .non H',rt:=Q} (start ["works"] vs) H:=by
 rintro vs H Q E ⟨_,l,ts,c,rfl,⟨n,D⟩,J,F,q⟩
 have L:=size_eq
 obtain⟨M,es,Z,e2,eo,ep,em,e0⟩:=ck
 have d:c.length=ts.length:=Ro D
 unfold nQ
 nofun
 symm
 exists _,rfl,l,_,rfl,aD.of n
 by_cases hn:c=[]
 .have o:ts=[]:=VF.mp (by rw[<-d,hn];rfl)
  rw[o,show(!(Sr V.ref ([]:⇑QI)).isEmpty)=ξ from rfl]
  symm
  have e:dH c="none":=if_pos hn
  rw[<-e]
  exact q _ (ah.refl _)
 have o:(!(Sr V.ref ts).isEmpty)=ω:=by
  cases ts with
  |nil=>exact absurd (VF.mp d) hn
  |cons=>rfl
 rw[o]
 symm
 try refine br (aD.of n) ?_
 have f:∀i:Nat,∃a:QI,∀t,ts[i]?=ψ t->H t=ψ (.tup [.str (c.getD i ("",0,[])).1,.int (c.getD i ("",0,[])).2.1,.ref a])/\H a=ψ (.lst ((c.getD i ("",0,[])).2.2.map V.str)):=fun i=>by
  by_cases hi:i<c.length
  .obtain⟨b',N,a,O,P⟩:=d9 D (QZ hi)
   refine⟨a,fun t h=>?_⟩
   rw[N]at h
   cases h
   rw[Rl,QZ hi]
   exact⟨O,P⟩
  .refine⟨0,fun t h=>?_⟩
   have:=(Rw.mp h).1
   omega
 obtain⟨r,g⟩:=Vp f
 refine bx (eA (K:=K) (a:=l) (ts:=ts) (u:=fun i=>.str (c.getD i ("",0,[])).1) (v:=fun i=>.int (c.getD i ("",0,[])).2.1) (w:=fun i=>.ref (r i)) 0 1 2) (fun i=>[ψ (.str (c.getD i ("",0,[])).1),ψ (.int (c.getD i ("",0,[])).2.1),ψ (.ref (r i))]) (by rintro j R (rfl|⟨k,rfl⟩)<;>rfl) ?_ (QV (show _<=1000 by omega) aO)
   (fun i=>.str (cN (c.getD i ("",0,[])))) ?_ ?_
 .intro H' m
  exact⟨m.seq (aD.of n),fun i b S=>m.seqT (d5.of (g i b S).1)⟩
 .intro i hi H' G m T
  have hm:=getD_mem (xs:=c) ("",0,[]) (show i<c.length by omega)
  obtain⟨s,y,z,A⟩:=F _ hm
  symm
  exact⟨rfl,r i,c.getD i ("",0,[]),rfl,m.seq (aD.of (g i ts[i] (QZ hi)).2),s,y,z,A,fun B C=>T B C⟩
 intro l7 U f7 W I
 rw[<-d,aM (fun p:QH×Int×⇑QH=>V.str (cN p)) ("",0,[]) c,show c.map (fun p=>V.str (cN p))=(c.map cN).map V.str by rw[QY];rfl]at I
 symm
 refine rj 800 (aD.of I) (fun x X=>?_) ?_ ?_
 .obtain⟨p,Y,rfl⟩:=QO.mp X
  obtain⟨s,y,z,A⟩:=F p Y
  exact ml s y z A
 .rw[QR,M]
  have:c.length*(800+2)<=12*802:=SV _ J
  omega
 .have e:dH c=Q7 ", " (c.map cN):=if_neg hn
  rw[<-e]
  exact q U W
theorem rG(C:fR K):∀vs H Q E,eQ K vs H Q E->iS K {nx:=fun _ H'=>Q .non H',rt:=Q} (start ["self","work"] vs) H:=by
 rintro vs H Q E ⟨_,c,dx,m,M,w,n,N,s,rfl,o,hd,hw,y,A,B,D,O,q⟩
 have F:c≠m:=aH o hd ⋯
 have I:w≠m:=aH hw hd ⋯
 have e:=cj s.ps
 unfold iS
 with_reducible refine Eg ?_
 refine Ge (d:=m) (kvs:=cD s.ps) (fun k e=>⟨_,rfl,bJ o C.aG C.aK bO e⟩) hd (by rw[e];exact QV (show _<=1000 by omega) aO) (fun i=>.str (s.ps.getD i ("",0)).1) ?_
  (fun i=>[ψ (.str (s.ps.getD i ("",0)).1),ψ (.str n),ψ (.ref c)]) (by rintro j J (rfl|⟨k,rfl⟩)<;>rfl) (fun i=>decide (((s.ps.getD i ("",0)).1,n)∈s.ws)) (fun i=>.str (s.ps.getD i ("",0)).1) ?_ ?_ ?_
 .intro i p b
  have hi:i<s.ps.length:=by rw[<-e];exact(Rw.mp b).1
  rw[gZ (QZ hi)]at b
  cases b
  rw[Rl,QZ hi]
  rfl
 .intro i hi H' G g r
  rw[e]at hi
  have L:aU (s.ps.getD i ("",0)).1:=by
   rw[Rl,QZ hi]
   exact B _ (R3 hi)
  symm
  rename_i t u x f h
  refine bJ (f _ _ (g c _ F o)) C.aG C.bB eV ?_
  refine D6 (p:=((s.ps.getD i ("",0)).1,n)) h (f _ _ (g w _ I hw)) (Paired.mapP y fun _ a z=>f _ _ (g a _ (aH z hd ⋯) z)) L A D ?_
  rw[UG]
  symm
  exact r u f
 .intro i hi P H' G g r
  symm
  exact r H' (ah.refl _)
 intro l u x f h
 rw[e,vx s.ps (fun v=>decide ((v,n)∈s.ws))]at h
 exact q l u x f h
theorem u6(C:fR K):∀vs H Q E,gP K vs H Q E->lJ K {nx:=fun _ H'=>Q .non H',rt:=Q} (start ["self"] vs) H:=by
 rintro vs H Q E ⟨_,c,fp,s,rfl,⟨dx,J,y,w,U,X,rfl⟩,W,Y,Z,hl,α,q⟩
 have L:c≠y:=aH X.at_ X.p2 ⋯
 have n2:w≠y:=aH X.w_ X.p2 ⋯
 have r:=cj s.cs
 unfold lJ
 with_reducible refine Eg ?_
 refine A6 (d:=y) (kvs:=cD s.cs) (fun k r=>⟨_,rfl,bJ X.at_ C.aG C.bz cW r⟩) X.p2 (by rw[r];exact QV (show _<=1000 by omega) aO) (fun i=>.str (s.cs.getD i ("",0)).1) (fun i=>.int (s.cs.getD i ("",0)).2) ?_
  (fun i=>[ψ (.str (s.cs.getD i ("",0)).1),ψ (.int (s.cs.getD i ("",0)).2),ψ (.ref c)]) (by rintro j β (rfl|⟨k,rfl⟩)<;>rfl)
  (fun l i v H'=>∃t b,v=V.ref t/\((b≠l/\H b=χ)/\t≠l)/\H' t=ψ (.tup [.str (bM s (s.cs.getD i ("",0))).1,.int (bM s (s.cs.getD i ("",0))).2.1,.ref b])/\H' b=ψ (.lst ((bM s (s.cs.getD i ("",0))).2.2.map V.str)))
  (fun l i v M A h ⟨t,b,e,⟨hw,N⟩,m,g⟩=>⟨t,b,e,⟨hw,N⟩,h t _ N m,h b _ hw.1 g⟩)
  (fun l i v M o hd ⟨t,b,e,hw,m,g⟩=>⟨t,b,e,hw,by rw[aj (aH m hd ⋯)];exact m,by rw[aj (aH g hd ⋯)];exact g⟩) ?_ ?_
 .intro i p n
  have hi:i<s.cs.length:=by rw[<-r];exact(Rw.mp n).1
  rw[gZ (QZ hi)]at n
  cases n
  rw[Rl,QZ hi]
  exact⟨rfl,rfl⟩
 .intro l i hi H' G h0 ⟨o,O⟩ ⟨od,I⟩ h kk
  rw[r]at hi
  have ai:aU (s.cs.getD i ("",0)).1:=by
   rw[Rl,QZ hi]
   exact Y _ (R3 hi)
  symm
  refine bC (h c _ L X.at_) (cQ nofun) ?_
  symm
  refine⟨rfl,c,dx,J,y,w,_,U,s,rfl,h c _ L X.at_,h J _ X.ne X.p1,h w _ n2 X.w_,Paired.mapP X.wt fun _ a z=>h a _ (aH z X.p2 ⋯) z,ai,W,Z,hl,fun B M u R m=>?_⟩
  symm
  rename_i t A D F g
  refine kk _ A ⟨t,B,rfl,⟨⟨fun e=>?_,?_⟩,fun e=>?_⟩,g,F _ _ m⟩ (R.trans F)
  .rw[e,O]at u;cases u
  .cases z:H B with
   |none=>rfl
   |some x=>
    by_cases e:B=y
    .rw[e,I]at u;cases u
    .rw[h B _ e z]at u;cases u
  .rw[e,R _ _ O]at D;cases D
 intro l ys A D F g S
 rw[r]at S
 obtain⟨ts,e,T,q2⟩:=rY (P:=fun b=>b≠l/\H b=χ) (f:=fun i=>bM s (s.cs.getD i ("",0))) (Paired.mapP S fun i v ⟨t,b,e,hw,m,g⟩=>⟨t,b,e,hw.1,m,g⟩)
 rw[aM (bM s) ("",0) s.cs]at T
 exact q l ts A D F ⟨by rw[g,e],T⟩ q2
theorem zi(C:fR K):∀vs H Q E,jv K vs H Q E->qm K {nx:=fun _ H'=>Q .non H',rt:=Q} (start ["self"] vs) H:=by
 rintro vs H Q E ⟨_,c,a,s,rfl,⟨dx,b,d,w,e,x,rfl⟩,q⟩
 unfold qm
 symm
 exact bJ x.at_ C.aG C.bZ dP q
theorem ve(C:fR K):∀vs H Q E,gD K vs H Q E->lW K {nx:=fun _ H'=>Q .non H',rt:=Q} (start ["self"] vs) H:=by
 rintro vs H Q E ⟨_,c,a,s,rfl,⟨dx,b,d,w,e,x,rfl⟩,q⟩
 unfold lW
 symm
 exact bJ x.at_ C.aG C.ir A0 q
theorem uP(C:fR K):∀vs H Q E,gC K vs H Q E->ky K {nx:=fun _ H'=>Q .non H',rt:=Q} (start ["self"] vs) H:=by
 rintro vs H Q E ⟨_,c,a,s,rfl,⟨dx,b,d,w,e,x,rfl⟩,q⟩
 unfold ky
 symm
 exact bJ x.at_ C.aG C.gN yI q
theorem De:∀vs H Q E,oq K vs H Q E->uu K E {nx:=fun _ H'=>Q .non H',rt:=Q} (start ["chest","deed"] vs) H:=by
 rintro vs H Q E ⟨_,c,w,b,s,rfl,CH,G,j,q⟩
 obtain⟨dx,F,I,wl,J,X,k⟩:=id CH
 unfold uu
 unfold kq at q
 nofun
 symm
 refine cC (fun h=>?_) (fun h=>?_)
 .rw[if_pos h]at q
  symm
  exact⟨rfl,c,b,s,rfl,CH,G,q⟩
 rw[if_neg h]at q
 symm
 nofun
 symm
 refine cC (fun h=>?_) (fun h=>?_)
 .rw[if_pos h]at q
  symm
  refine bC X.at_ (cQ nofun) ?_
  symm
  have d:=G.g.v20
  have e:=G.g.n12
  refine⟨rfl,c,b,s,rfl,CH,G.g.ap,G.g.ac,G.g.aw,by omega,by omega,fun l ts L M m o _=>?_⟩
  symm
  refine⟨rfl,l,ts,_,rfl,o,by rw[QR];exact e,fun r t=>?_,fun u y=>q u (m.trans y)⟩
  obtain⟨p,f,rfl⟩:=QO.mp t
  have z:=G.g.cb p f
  refine⟨(cy (G.nc p f)).2,eU (by show(0:Int)<=p.2;omega) z.2,?_,fun x A=>?_⟩
  .refine QV (Sb _ _) ?_
   rw[QR]
   exact d
  .obtain⟨v,B,rfl⟩:=QO.mp (Ra.mp A).1
   exact(cy (G.nv v B)).2
 rw[if_neg h]at q
 symm
 nofun
 symm
 refine cC (fun h=>?_) (fun h=>?_)
 .rw[if_pos h]at q
  symm
  refine bC X.at_ (cQ nofun) ?_
  symm
  exists rfl,c,b,s,rfl,CH
  symm
  exact rF G.pot.log (q H (ah.refl _))
 rw[if_neg h]at q
 symm
 nofun
 symm
 refine cC (fun h=>?_) (fun h=>?_)
 .rw[if_pos h]at q
  symm
  refine bC X.at_ (cQ nofun) ?_
  symm
  exists rfl,c,b,s,rfl,CH
  symm
  exact rF G.giv.log (q H (ah.refl _))
 rw[if_neg h]at q
 symm
 nofun
 symm
 refine cC (fun h=>?_) (fun h=>?_)
 .rw[if_pos h]at q
  symm
  refine bC X.at_ (cQ nofun) ?_
  symm
  exists rfl,c,b,s,rfl,CH
  symm
  exact rF G.spt.log (q H (ah.refl _))
 rw[if_neg h]at q
 symm
 obtain⟨C,D,i⟩:=wJ j (a:="no row of one word: ") (n:=20) nofun "^"
 exact⟨_,rfl,C,_,rfl,w,rfl,D,_,rfl,i,i,(by decide:1<=QT),q _ (ah.refl _)⟩
theorem DK:∀vs H Q E,ou K vs H Q E->uY K {nx:=fun _ H'=>Q .non H',rt:=Q} (start ["name"] vs) H:=by
 rintro vs H Q E ⟨_,z,rfl,ha,r,q⟩
 have f:=bw z
 have b:z.cps.size=z.length:=rfl
 have e:bE z=((decide (1<=z.length)&&decide (z.length<=8))&&z.cps.toList.all isLet):=rfl
 unfold uY
 walk_at "v"
 refine cC (fun a=>?_) (fun a=>?_)
 .symm
  refine cC (fun g=>?_) (fun g=>?_)
  .symm
   exists z,rfl,ha
   refine bx (zP (x:=z) 0) (fun j=>[ψ (.str ⟨#[z.cps.getD j 0]⟩)]) (by rintro j h (rfl|⟨k,rfl⟩)<;>rfl) (fun _ _=>trivial) (QV (show _<=1000 by omega) aO) (fun j=>.bl (isLet (z.cps.getD j 0))) ?_ ?_
   .intro j i H' F s l
    symm
    rw[JW]
    exact l H' (ah.refl _)
   intro m d t n a
   have o:(Q1 z.cps.size).map (fun j=>V.bl (isLet (z.cps.getD j 0)))=(z.cps.toList.map isLet).map V.bl:=by
    rw[QY]
    have:=aM (fun c=>V.bl (isLet c)) 0 z.cps.toList
    rw[f]at this
    rw[b]
    refine Ux ?_ this
    refine RT fun j i=>?_
    simp[WI,Rl]
   rw[o]at a
   have u:aD K d m ((z.cps.toList.map isLet).map V.bl):=aD.of a
   symm
   have p:(z.cps.toList.map isLet).all id=bE z:=by
    rw[e,UK,decide_eq_true "`",decide_eq_true "`"]
    rfl
   rw[p]
   exact q d n
  .symm
   rw[decide_eq_false (show ¬z.length<=8 by omega),Wl,TL]at e
   rw[<-e]
   exact q H (ah.refl _)
 .symm
  rw[decide_eq_false (show ¬1<=z.length by omega),TL,TL]at e
  rw[<-e]
  exact q H (ah.refl _)
theorem pW:∀vs H Q E,c7 K vs H Q E->hJ K E {nx:=fun _ H'=>Q .non H',rt:=Q} (start ["name","names"] vs) H:=by
 rintro vs H Q E ⟨_,z,d,kvs,rfl,hd,c,h⟩
 have i:=size_eq
 have j:=c.2
 unfold hJ
 nofun
 symm
 refine⟨rfl,z,rfl,c.1,by omega,fun k a=>?_⟩
 rcases h with⟨hn,e,q⟩|⟨hn,q⟩|⟨hn,e,q⟩
 .rw[hn]
  symm
  refine Ek (a _ _ hd) ?_
  rw[e]
  symm
  exact q k a
 .rw[hn]
  symm
  obtain⟨f,b,g⟩:=wJ c (show(Rh++("no name: ":QH)).length=9 by decide +kernel) "^"
  exact⟨_,rfl,f,_,rfl,z,rfl,b,_,rfl,g,g,(by decide:1<=QT),q _ a⟩
 .rw[hn]
  symm
  refine Ek (a _ _ hd) ?_
  rw[e]
  symm
  have f:(Rh++("there already: ":QH)).length=15:=nofun
  have b:(Rh++("there already: ":QH)++z).length<=QT:=by
   rw[Ru]
   omega
  exact⟨_,rfl,by omega,_,rfl,z,rfl,by omega,_,rfl,b,b,(by decide:1<=QT),q _ a⟩
theorem FN:∀y:Int,y=12\/y=20->(Rh++("there are ":QH)).length<=QT/\y.natAbs.log2<1920/\(Rh++("there are ":QH)++((toString y:String):QH)).length<=QT/\(Rh++("there are ":QH)++((toString y:String):QH)++(" already":QH)).length<=QT:=by
 rintro y (rfl|rfl)<;>decide +kernel
theorem uM:∀vs H Q E,el K vs H Q E->mf K E {nx:=fun _ H'=>Q .non H',rt:=Q} (start ["names","most"] vs) H:=by
 rintro vs H Q E ⟨_,d,kvs,n,rfl,hd,hn,h⟩
 obtain⟨b,c,e,a⟩:=FN n hn
 unfold mf
 symm
 refine wm hd ?_
 symm
 rcases h with⟨f,q⟩|⟨f,q⟩
 .refine gW "`" ?_
  symm
  exact q
 .refine wL "`" ?_
  exact⟨_,rfl,b,_,rfl,n,rfl,c,_,rfl,e,_,rfl,a,a,(by decide:1<=QT),q _ (ah.refl _)⟩
theorem vT(C:fR K):∀vs H Q E,gS K vs H Q E->kI K E {nx:=fun _ H'=>Q .non H',rt:=Q} (start ["self","name"] vs) H:=by
 rintro vs H Q E ⟨_,c,n,l,s,rfl,⟨dx,a,g,w,i,x,rfl⟩,d,j,e⟩
 unfold kI
 nofun
 symm
 refine bJ x.at_ C.aG C.aK bO ?_
 symm
 by_cases hn:bE n=ω
 .by_cases hm:n∈s.ps.map (·.1)
  .exact⟨rfl,n,a,_,rfl,x.p1,d,.inr (.inr ⟨hn,By x.nd hm,e _ (by rw[aL.due,if_neg (by rw[hn];simp),if_pos hm])⟩)⟩
  refine⟨rfl,n,a,_,rfl,x.p1,d,.inl ⟨hn,mq hm,fun m f=>?_⟩⟩
  have b:=x.same f
  symm
  nofun
  symm
  refine bJ b.at_ C.aG C.aK bO ?_
  symm
  by_cases h:20<=s.ps.length
  .exact⟨rfl,a,_,20,rfl,b.p1,.inr rfl,.inr ⟨by rw[cj];omega,fun H' k=>e _ (by rw[aL.due,if_neg (by rw[hn];simp),if_neg hm,if_pos h]) H' (f.trans k)⟩⟩
  refine⟨rfl,a,_,20,rfl,b.p1,.inr rfl,.inl ⟨by rw[cj];omega,?_⟩⟩
  symm
  refine bJ b.at_ C.aG C.aK bO ?_
  symm
  refine zD b.p1 (by rw[cj];exact Rq (show _<1000 by omega) aO) ?_
  rw[Ab hm]
  refine j (by rw[aL.due,if_neg (by rw[hn];simp),if_neg hm,if_neg h]) _ [c,a,g,w] ⟨dx,a,g,w,i,b.setP (ps:=s.ps++[(n,0)]) ?_,rfl⟩ ((bo.of f).trans (bo.upd b.p1 "~" ⋯)) gY.refl
  rw[Sv]
  exact pZ x.nd hm
 .have hn:bE n=ξ:=by simpa using hn
  exact⟨rfl,n,a,_,rfl,x.p1,d,.inr (.inl ⟨hn,e _ (by rw[aL.due,if_pos hn])⟩)⟩
theorem lI(C:fR K):∀vs H Q E,bN K vs H Q E->fz K E {nx:=fun _ H'=>Q .non H',rt:=Q} (start ["self","voter"] vs) H:=by
 rintro vs H Q E ⟨_,c,n,g,s,rfl,⟨dx,i,j,w,k,x,rfl⟩,h⟩
 unfold fz
 symm
 refine bJ x.at_ C.aG C.aK bO ?_
 refine Ek x.p1 ?_
 rcases h with⟨hn,q⟩|⟨hn,b,q⟩
 .obtain⟨p,d,rfl⟩:=QO.mp hn
  rw[jn x.nd (show(p.1,p.2)∈s.ps from d)]
  symm
  exact q
 .rw[mq hn]
  symm
  obtain⟨e,f,a⟩:=wJ b (show(Rh++("no voter: ":QH)).length=10 by decide +kernel) "^"
  exact⟨_,rfl,e,_,rfl,n,rfl,f,_,rfl,a,a,(by decide:1<=QT),q _ (ah.refl _)⟩
theorem pH(C:fR K):∀vs H Q E,ee K vs H Q E->ig K E {nx:=fun _ H'=>Q .non H',rt:=Q} (start ["self","voter"] vs) H:=by
 rintro vs H Q E ⟨_,c,n,i,s,rfl,⟨dx,b,d,w,e,X,rfl⟩,f,g,h⟩
 unfold ig
 nofun
 symm
 refine bC X.at_ (cQ nofun) ?_
 symm
 by_cases a:n∈s.ps.map (·.1)
 rotate_left
 .exact⟨rfl,c,n,_,s,rfl,⟨dx,b,d,w,e,X,rfl⟩,.inr ⟨a,f,h a⟩⟩
 refine⟨rfl,c,n,_,s,rfl,⟨dx,b,d,w,e,X,rfl⟩,.inl ⟨a,?_⟩⟩
 symm
 refine bJ X.at_ C.aG C.aK bO ?_
 symm
 exact wK X.p1 (jn X.nd (ji a)) (g a)
theorem vO(C:fR K):∀vs H Q E,gm K vs H Q E->kQ K E {nx:=fun _ H'=>Q .non H',rt:=Q} (start ["self","name"] vs) H:=by
 rintro vs H Q E ⟨_,c,n,Y,s,rfl,⟨dx,d,m,w,r,X,rfl⟩,N,hw,O,P⟩
 unfold kQ
 nofun
 symm
 refine bC X.at_ (cQ nofun) ?_
 symm
 by_cases g:n∈s.ps.map (·.1)
 rotate_left
 .exact⟨rfl,c,n,_,s,rfl,⟨dx,d,m,w,r,X,rfl⟩,.inr ⟨g,N,P _ (by rw[aL.due,if_neg g])⟩⟩
 have q:=O (by rw[aL.due,if_pos g])
 have hm:=ji g
 generalize vP s.ps n=x at *
 refine⟨rfl,c,n,_,s,rfl,⟨dx,d,m,w,r,X,rfl⟩,.inl ⟨g,?_⟩⟩
 symm
 nofun
 symm
 refine yR X.at_ C.aG C.bZ dP ?_
 symm
 refine bJ X.at_ C.aG C.aK bO ?_
 exists d,rfl,.inl ⟨_,.inl X.p1⟩
 symm
 exists _,.inr n,.int x,X.p1,rfl,jn X.nd hm
 rw[Cs]
 have X1:=X.setP (ps:=s.ps.filter fun p=>decide (p.1≠n)) (oX X.nd)
 have F:bo [c,d,m,w] H (upd H d (.dK (cD (s.ps.filter fun p=>decide (p.1≠n))))):=bo.upd X.p1 "~" ⋯
 generalize upd H d (.dK (cD (s.ps.filter fun p=>decide (p.1≠n))))=y at *
 exists _,_,rfl,rfl,dx,_,X1.at_,(show 6<1000 by decide)
 rw[ip]
 have X2:=X1.setF (a:=s.pot+x) (b:=s.giv) (e:=s.spt)
 have I:bo [c,d,m,w] y (upd y c (.ins (aF K "Chest") dx (fD d m w (s.pot+x) s.giv s.spt))):=bo.upd X1.at_ "~" ⋯
 generalize upd y c (.ins (aF K "Chest") dx (fD d m w (s.pot+x) s.giv s.spt))=H2 at *
 symm
 refine bJ X2.at_ C.aG C.bB eV ?_
 exists w,rfl,⟨_,aD.of X2.w_⟩
 have o:s.ws.length=r.length:=Ro X.wt
 refine lD (vI (K:=K) (a:=w) (ts:=r) (u:=fun i=>.str (s.ws.getD i ("","")).1) (v:=fun i=>.str (s.ws.getD i ("","")).2) 0 1) (fun i=>[ψ (.str (s.ws.getD i ("","")).1),ψ (.str (s.ws.getD i ("","")).2),ψ (.str n)]) (by rintro j R (rfl|⟨k,rfl⟩)<;>rfl) ?_ (QV (show _<=1000 by omega) aO)
  (fun i=>!decide ((s.ws.getD i ("","")).1=n)) (fun i=>[.str (s.ws.getD i ("","")).1,.str (s.ws.getD i ("","")).2]) ?_ ?_ ?_
 .intro H' t
  refine⟨t.seq (aD.of X2.w_),fun i b z=>?_⟩
  have hi:i<s.ws.length:=by rw[o];exact(Rw.mp z).1
  obtain⟨Z,J,S⟩:=d9 X2.wt (QZ hi)
  rw[z]at J
  cases J
  rw[Rl,QZ hi]
  exact t.seqT (d5.of S)
 .intro i hi H' G t A
  symm
  exact A H' (ah.refl _)
 .intro i hi z H' G t A
  symm
  rename_i a B f D h
  exact A a B f D h
 intro l bs T U L V M
 have X3:=X2.same L
 rw[<-o]at M
 have W:Q4 (AR T) (s.ws.filter fun p=>!decide (p.1=n)) bs:=by
  rw[<-de (fun p:QH×QH=>!decide (p.1=n)) ("","") s.ws]
  exact dZ M
 symm
 refine jZ X3.at_ C.aG C.bB (show 6<1000 by decide) ?_
 rw[rq]
 have X4:=X3.setW V W
 refine q _ [c,d,m,l] ⟨dx,d,m,l,bs,X4,rfl⟩ (((F.trans I).trans (bo.of L)).trans (bo.upd X3.at_ "~" ⋯)) ?_
 intro a ha
 simp only[QW,RM,or_false]at ha
 rcases ha with rfl|rfl|rfl|rfl
 .exact .inl ⋯
 .exact .inl ⋯
 .exact .inl ⋯
 .exact .inr ((F.trans I).2.2 _ U)
theorem F0:∀y:Int,y=0\/y=1->(Rh++("not from ":QH)).length<=QT/\y.natAbs.log2<1920/\(Rh++("not from ":QH)++((toString y:String):QH)).length<=QT/\(Rh++("not from ":QH)++((toString y:String):QH)++(" to ":QH)).length<=QT/\
  (1000000000:Int).natAbs.log2<1920/\(Rh++("not from ":QH)++((toString y:String):QH)++(" to ":QH)++((toString (1000000000:Int):String):QH)).length<=QT/\(Rh++("not from ":QH)++((toString y:String):QH)++(" to ":QH)++((toString (1000000000:Int):String):QH)++(" coins":QH)).length<=QT:=by
 rintro y (rfl|rfl)<;>decide +kernel
theorem wM:∀vs H Q E,eJ K vs H Q E->ku K E {nx:=fun _ H'=>Q .non H',rt:=Q} (start ["coins","least"] vs) H:=by
 rintro vs H Q E ⟨_,x,y,rfl,c,h⟩
 obtain⟨d,e,f,g,i,j,b⟩:=F0 y c
 unfold ku
 symm
 rcases h with⟨k,l,q⟩|⟨k,q⟩
 .refine gW "`" ?_
  symm
  refine gW "`" ?_
  symm
  exact q
 .have a:dM (aF K "TooMuch") E (ae (yW [(tC (.str "not from ")),(x5 (aa 1)),(tC (.str " to ")),(x5 (tC (.int 1000000000))),(tC (.str " coins"))] Rh) ao) {nx:=fun _ H'=>Q .non H',rt:=Q} (start ["coins","least"] [.int x,.int y]) H:=
   ⟨_,rfl,d,_,rfl,y,rfl,e,_,rfl,f,_,rfl,g,_,rfl,i,_,rfl,j,_,rfl,b,b,(by decide:1<=QT),q _ (ah.refl _)⟩
  refine cC (fun _=>?_) (fun m=>?_)
  .symm
   exact a
  .symm
   refine wL "`" ?_
   exact a
theorem vF(C:fR K):∀vs H Q E,gI K vs H Q E->km K {nx:=fun _ H'=>Q .non H',rt:=Q} (start ["self","part"] vs) H:=by
 rintro vs H Q E ⟨_,c,x,P,s,rfl,⟨dx,o,g,w,F,X,rfl⟩,R,q⟩
 unfold km
 nofun
 symm
 refine yR X.at_ C.aG C.bZ dP ?_
 symm
 refine bJ X.at_ C.aG C.aK bO ?_
 symm
 refine wm X.p1 ?_
 rw[cj]
 symm
 exists _,_,rfl,rfl,dx,_,X.at_,(show 6<1000 by decide)
 rw[ip]
 have X1:=X.setF (a:=s.pot-x*s.ps.length) (b:=s.giv) (e:=s.spt)
 have A:bo [c,o,g,w] H (upd H c (.ins (aF K "Chest") dx (fD o g w (s.pot-x*s.ps.length) s.giv s.spt))):=bo.upd X.at_ "~" ⋯
 generalize upd H c (.ins (aF K "Chest") dx (fD o g w (s.pot-x*s.ps.length) s.giv s.spt))=H1 at *
 symm
 have m:=cj s.ps
 refine DE (d:=o) (kvs:=cD s.ps) (fun k m=>⟨_,rfl,bJ X1.at_ C.aG C.aK bO m⟩) X1.p1 (by rw[m];exact QV (show _<=1000 by omega) aO) (fun i=>.str (s.ps.getD i ("",0)).1) (fun i=>.int (s.ps.getD i ("",0)).2) ?_
  (fun i=>[ψ (.str (s.ps.getD i ("",0)).1),ψ (.int (s.ps.getD i ("",0)).2),ψ (.int x)]) (by rintro j I (rfl|⟨k,rfl⟩)<;>rfl) (fun i=>[.str (s.ps.getD i ("",0)).1,.int ((s.ps.getD i ("",0)).2+x)]) ?_ ?_
 .intro i p t
  have hi:i<s.ps.length:=by rw[<-m];exact(Rw.mp t).1
  rw[gZ (QZ hi)]at t
  cases t
  rw[Rl,QZ hi]
  exact⟨rfl,rfl⟩
 .intro i hi H' G J
  symm
  rename_i a u f L h
  exact J a u f L h
 intro l bs r S v M B
 rw[m]at B
 have X2:=X1.same v
 symm
 have n:((s.ps.map fun p=>(p.1,p.2+x)).map (·.1)).Nodup:=by rw[map_fst];exact X.nd
 refine⟨l,bs,cD (s.ps.map fun p=>(p.1,p.2+x)),rfl,M,?_,?_,?_,fun d y=>?_⟩
 .have e:cD (s.ps.map fun p=>(p.1,p.2+x))=(Q1 s.ps.length).map fun i=>((.inr (s.ps.getD i ("",0)).1:Key),V.int ((s.ps.getD i ("",0)).2+x)):=by
   rw[aM (fun p:QH×Int=>((.inr p.1:Key),V.int (p.2+x))) ("",0) s.ps]
   unfold cD
   rw[QY]
   rfl
  rw[e]
  exact dZ (Paired.mapP B fun i a z=>d5.of z)
 .unfold cD
  rw[QY]
  have:((fun p:QH×Int=>((.inr p.1:Key),V.int p.2)))=fun p:QH×Int=>((.inr p.1:Key),V.int p.2):=rfl
  show List.Nodup (Sr (fun p:QH×Int=>(Ss p.1:Key)) _)
  have N:Sr (fun p:QH×Int=>(Ss p.1:Key)) (s.ps.map fun p=>(p.1,p.2+x))=((s.ps.map fun p=>(p.1,p.2+x)).map (·.1)).map Ss:=by rw[QY,QY,QY];rfl
  rw[N]
  exact Xh _ (fun a b h z=>h (YX z)) n
 .rw[cj,QR];omega
 have D:ah r (upd r d (.dK (cD (s.ps.map fun p=>(p.1,p.2+x))))):=ah.updN y
 have X3:=X2.same D
 have O:upd r d (.dK (cD (s.ps.map fun p=>(p.1,p.2+x)))) d=ψ (.dK (cD (s.ps.map fun p=>(p.1,p.2+x)))):=ak
 generalize upd r d (.dK (cD (s.ps.map fun p=>(p.1,p.2+x))))=H3 at *
 symm
 refine jZ X3.at_ C.aG C.aK (show 6<1000 by decide) ?_
 rw[yF]
 have X4:=X3.setD O (Rb (e9 X2.p2 y)) n
 refine q _ [c,d,g,w] ⟨dx,d,g,w,F,X4,rfl⟩ (((A.trans (bo.of v)).trans (bo.of D)).trans (bo.upd X3.at_ "~" ⋯)) ?_
 intro a ha
 simp only[QW,RM,or_false]at ha
 rcases ha with rfl|rfl|rfl|rfl
 .exact .inl ⋯
 .exact .inr (A.2.2 _ (v.free y))
 .exact .inl ⋯
 .exact .inl ⋯
theorem xN(C:fR K):∀vs H Q E,iC K vs H Q E->nG K E {nx:=fun _ H'=>Q .non H',rt:=Q} (start ["self","coins"] vs) H:=by
 rintro vs H Q E ⟨_,c,x,G,s,rfl,⟨dx,d,f,w,n,X,rfl⟩,r,t,u⟩
 unfold nG
 nofun
 symm
 by_cases h:x<0\/1000000000<x
 .exact⟨rfl,x,0,rfl,.inl rfl,.inr ⟨h,u _ (by rw[aL.due,if_pos h])⟩⟩
 have v:0<=x:=by omega
 have y:x<=1000000000:=by omega
 have q:=t (by rw[aL.due,if_neg h])
 refine⟨rfl,x,0,rfl,.inl rfl,.inl ⟨v,y,?_⟩⟩
 symm
 nofun
 symm
 refine yR X.at_ C.aG C.ir A0 ?_
 symm
 exists _,_,rfl,rfl,dx,_,X.at_,(show 6<1000 by decide)
 rw[IH]
 have X1:=X.setF (a:=s.pot) (b:=s.giv+x) (e:=s.spt)
 have i:bo [c,d,f,w] H (upd H c (.ins (aF K "Chest") dx (fD d f w s.pot (s.giv+x) s.spt))):=bo.upd X.at_ "~" ⋯
 generalize upd H c (.ins (aF K "Chest") dx (fD d f w s.pot (s.giv+x) s.spt))=j at *
 nofun
 symm
 refine yR X1.at_ C.aG C.bZ dP ?_
 symm
 exists _,_,rfl,rfl,dx,_,X1.at_,(show 6<1000 by decide)
 rw[ip]
 have X2:=X1.setF (a:=s.pot+x) (b:=s.giv+x) (e:=s.spt)
 have k:bo [c,d,f,w] j (upd j c (.ins (aF K "Chest") dx (fD d f w (s.pot+x) (s.giv+x) s.spt))):=bo.upd X1.at_ "~" ⋯
 generalize upd j c (.ins (aF K "Chest") dx (fD d f w (s.pot+x) (s.giv+x) s.spt))=H2 at *
 symm
 refine bJ X2.at_ C.aG C.aK bO ?_
 exists d,_,rfl,X2.p1
 by_cases g:s.ps=[]
 .have e:(!(cD s.ps).isEmpty)=ξ:=by rw[g];rfl
  rw[show(!List.isEmpty (cD (aB.mk s.ps s.cs s.ws (s.pot+x) (s.giv+x) s.spt).ps))=ξ from e]
  symm
  have l:gA s x=⟨s.ps,s.cs,s.ws,s.pot+x,s.giv+x,s.spt⟩:=by unfold gA;rw[if_pos g]
  exact q H2 _ (by rw[l];exact⟨dx,d,f,w,n,X2,rfl⟩) (i.trans k) gY.refl
 .have o:0<s.ps.length:=SF.mpr g
  have e:(!(cD s.ps).isEmpty)=ω:=by
   cases z:s.ps with
   |nil=>exact absurd z g
   |cons=>rfl
  rw[show(!List.isEmpty (cD (aB.mk s.ps s.cs s.ws (s.pot+x) (s.giv+x) s.spt).ps))=ω from e]
  symm
  refine bC X2.at_ (cQ nofun) ?_
  symm
  refine bJ X2.at_ C.aG C.bZ dP ?_
  symm
  refine bJ X2.at_ C.aG C.aK bO ?_
  symm
  refine wm X2.p1 ?_
  rw[cj]
  have p:(aB.mk s.ps s.cs s.ws (s.pot+x) (s.giv+x) s.spt).ps.length=s.ps.length:=rfl
  refine Lf (by rw[p];omega) (by rw[p];omega) ?_
  symm
  have l:gA s x=uD ⟨s.ps,s.cs,s.ws,s.pot+x,s.giv+x,s.spt⟩ ((s.pot+x)/(s.ps.length:Int)):=by unfold gA;rw[if_neg g]
  refine⟨rfl,c,_,[c,d,f,w],⟨s.ps,s.cs,s.ws,s.pot+x,s.giv+x,s.spt⟩,rfl,⟨dx,d,f,w,n,X2,rfl⟩,r,fun A m B D F=>?_⟩
  symm
  exact q A m (by rw[l];exact B) ((i.trans k).trans D) (gY.refl.trans F (i.trans k))
theorem zH:∀vs H Q E,jQ K vs H Q E->qK K {nx:=fun _ H'=>Q .non H',rt:=Q} (start ["word"] vs) H:=by
 rintro vs H Q E ⟨_,z,rfl,ha,t,q⟩
 have f:=bw z
 have b:z.cps.size=z.length:=rfl
 unfold qK
 nofun
 symm
 refine cC (fun d=>?_) (fun d=>?_)
 .symm
  have e:gk z=decide (z=("0":QH)):=by
   unfold gk FT
   rw[if_pos d,rh,RZ,decide_eq_true_eq,decide_eq_true_eq,ju]
  rw[<-e]
  exact q H (ah.refl _)
 have e:gk z=((decide (1<=z.length)&&decide (z.length<=13))&&z.cps.toList.all gz):=by
  unfold gk FT
  rw[if_neg d,f]
 walk_at "v"
 refine cC (fun a=>?_) (fun a=>?_)
 .symm
  refine cC (fun h=>?_) (fun h=>?_)
  .symm
   exists z,rfl,ha
   refine bx (zP (x:=z) 0) (fun j=>[ψ (.str ⟨#[z.cps.getD j 0]⟩)]) (by rintro j i (rfl|⟨k,rfl⟩)<;>rfl) (fun _ _=>trivial) (QV (show _<=1000 by omega) aO) (fun j=>.bl (gz (z.cps.getD j 0))) ?_ ?_
   .intro j l H' F s m
    symm
    rw[Em]
    exact m H' (ah.refl _)
   intro n g u o a
   have p:(Q1 z.cps.size).map (fun j=>V.bl (gz (z.cps.getD j 0)))=(z.cps.toList.map gz).map V.bl:=by
    rw[QY]
    have:=aM (fun c=>V.bl (gz c)) 0 z.cps.toList
    rw[f]at this
    rw[b]
    refine Ux ?_ this
    refine RT fun j l=>?_
    simp[WI,Rl]
   rw[p]at a
   have v:aD K g n ((z.cps.toList.map gz).map V.bl):=aD.of a
   symm
   have r:(z.cps.toList.map gz).all id=gk z:=by
    rw[e,UK,decide_eq_true "`",decide_eq_true "`"]
    rfl
   rw[r]
   exact q g o
  .symm
   rw[decide_eq_false (show ¬z.length<=13 by omega),Wl,TL]at e
   rw[<-e]
   exact q H (ah.refl _)
 .symm
  rw[decide_eq_false (show ¬1<=z.length by omega),TL,TL]at e
  rw[<-e]
  exact q H (ah.refl _)
theorem uX:∀vs H Q E,eD K vs H Q E->kN K E {nx:=fun _ H'=>Q .non H',rt:=Q} (start ["word"] vs) H:=by
 rintro vs H Q E ⟨_,z,rfl,ha,a,d,e⟩
 have f:=size_eq
 have g:=repr_fits ha a
 unfold kN
 nofun
 symm
 refine⟨rfl,z,rfl,ha,a,fun h b=>?_⟩
 symm
 cases hn:gk z
 .symm
  have m:(Rh++("no number: ":QH)).length=11:=nofun
  have c:(Rh++("no number: ":QH)++U5 z).length<=QT:=by
   rw[Ru]
   omega
  exact⟨_,rfl,by omega,_,rfl,z,rfl,by omega,_,rfl,c,c,(by decide:1<=QT),e hn _ b⟩
 .obtain⟨n,i,j,k,l,o⟩:=pK hn
  symm
  exact⟨z,n,rfl,k,by omega,d hn n h i j l b⟩
theorem DU:∀vs H Q E,ow K vs H Q E->wx K E {nx:=fun _ H'=>Q .non H',rt:=Q} (start ["chest","deed","word"] vs) H:=by
 rintro vs H Q E ⟨_,c,w,a,o,s,rfl,CH,G,u,k,q⟩
 obtain⟨dx,O,P,wl,R,X,v⟩:=id CH
 have x:=G.g.wl
 unfold wx
 unfold act2 at q
 nofun
 symm
 refine cC (fun h=>?_) (fun h=>?_)
 .rw[if_pos h]at q
  symm
  refine bC X.at_ (cQ nofun) ?_
  symm
  refine⟨rfl,c,a,o,s,rfl,CH,k,fun d=>?_,fun d=>?_⟩
  .rw[if_pos d]at q
   symm
   have p:=G.g.p0 _ (ji d)
   exact rF (eU p.1 p.2).log (q H (ah.refl _))
  .rw[if_neg d]at q
   exact q
 rw[if_neg h]at q
 symm
 nofun
 symm
 refine cC (fun h=>?_) (fun h=>?_)
 .rw[if_pos h]at q
  symm
  refine bC X.at_ (cQ nofun) ?_
  symm
  refine⟨rfl,c,a,o,s,rfl,CH,k,fun hd e b f i j=>?_,q.2⟩
  symm
  exact q.1 hd e b f i j
 rw[if_neg h]at q
 symm
 refine cC (fun h=>?_) (fun h=>?_)
 .rw[if_pos h]at q
  symm
  refine bC X.at_ (cQ nofun) ?_
  symm
  refine⟨rfl,c,a,o,s,rfl,CH,k,by omega,fun hd e b f i j=>?_,q.2⟩
  symm
  exact q.1 hd e b f i j
 rw[if_neg h]at q
 symm
 refine cC (fun h=>?_) (fun h=>?_)
 .rw[if_pos h]at q
  symm
  refine bC X.at_ (cQ nofun) ?_
  symm
  refine⟨rfl,a,rfl,k.1,QV k.2 "^",fun hn n r A S B l=>?_,fun hn r l=>?_⟩
  .rw[if_pos hn]at q
   have C:xH a=n:=by
    obtain⟨m,D,_,F,I,_⟩:=pK hn
    have:xH a=m:=by unfold xH;rw[F];rfl
    rw[this]
    exact AG D A (I.trans B.symm)
   rw[C]at q
   symm
   refine⟨rfl,c,n,o,s,rfl,CH.same l,G.g.v20,fun hd e b f i j=>?_,fun cl hd e J=>q.2 cl hd e (l.trans J)⟩
   symm
   exact q.1 hd e b f ((bo.of l).trans i) (fun y L=>by
    rcases j y L with z|z
    .exact .inl z
    .exact .inr (l.free z))
  .rw[if_neg (by rw[hn];simp)]at q
   exact q r l
 rw[if_neg h]at q
 symm
 refine cC (fun h=>?_) (fun h=>?_)
 .rw[if_pos h]at q
  symm
  refine bC X.at_ (cQ nofun) ?_
  symm
  refine⟨rfl,c,a,o,s,rfl,CH,by omega,fun hd e b f i j=>?_,fun cl hd=>⟨k,q.2 cl hd⟩⟩
  symm
  exact q.1 hd e b f i j
 rw[if_neg h]at q
 symm
 obtain⟨M,N,t⟩:=wJ u (a:="no row of two words: ") (n:=21) nofun "^"
 exact⟨_,rfl,M,_,rfl,w,rfl,N,_,rfl,t,t,(by decide:1<=QT),q _ (ah.refl _)⟩
theorem rK(C:fR K):∀vs H Q E,eS K vs H Q E->iM K E {nx:=fun _ H'=>Q .non H',rt:=Q} (start ["self","work","cost"] vs) H:=by
 rintro vs H Q E ⟨_,c,n,x,m,s,rfl,⟨dx,i,a,w,k,X,rfl⟩,g,l,d⟩
 unfold iM
 nofun
 symm
 refine bJ X.at_ C.aG C.bz cW ?_
 symm
 by_cases hn:bE n=ω
 .by_cases hm:n∈s.cs.map (·.1)
  .exact⟨rfl,n,a,_,rfl,X.p2,g,.inr (.inr ⟨hn,By X.nd2 hm,d _ (by rw[aL.due,if_neg (by rw[hn];simp),if_pos hm])⟩)⟩
  refine⟨rfl,n,a,_,rfl,X.p2,g,.inl ⟨hn,mq hm,fun o e=>?_⟩⟩
  have b:=X.same e
  symm
  nofun
  symm
  by_cases f:x<1\/1000000000<x
  .exact⟨rfl,x,1,rfl,.inr rfl,.inr ⟨f,fun H' h=>d _ (by rw[aL.due,if_neg (by rw[hn];simp),if_neg hm,if_pos f]) H' (e.trans h)⟩⟩
  refine⟨rfl,x,1,rfl,.inr rfl,.inl ⟨by omega,by omega,?_⟩⟩
  symm
  nofun
  symm
  refine bJ b.at_ C.aG C.bz cW ?_
  symm
  by_cases j:12<=s.cs.length
  .exact⟨rfl,a,_,12,rfl,b.p2,.inl rfl,.inr ⟨by rw[cj];omega,fun H' h=>d _ (by rw[aL.due,if_neg (by rw[hn];simp),if_neg hm,if_neg f,if_pos j]) H' (e.trans h)⟩⟩
  refine⟨rfl,a,_,12,rfl,b.p2,.inl rfl,.inl ⟨by rw[cj];omega,?_⟩⟩
  symm
  refine bJ b.at_ C.aG C.bz cW ?_
  symm
  refine zD b.p2 (by rw[cj];exact Rq (show _<1000 by omega) aO) ?_
  rw[Ab hm]
  refine l (by rw[aL.due,if_neg (by rw[hn];simp),if_neg hm,if_neg f,if_neg j]) _ [c,i,a,w] ⟨dx,i,a,w,k,b.setC (cs:=s.cs++[(n,x)]) ?_,rfl⟩ ((bo.of e).trans (bo.upd b.p2 "~" ⋯)) gY.refl
  rw[Sv]
  exact pZ X.nd2 hm
 .have hn:bE n=ξ:=by simpa using hn
  exact⟨rfl,n,a,_,rfl,X.p2,g,.inr (.inl ⟨hn,d _ (by rw[aL.due,if_pos hn])⟩)⟩
theorem xj(C:fR K):∀vs H Q E,iw K vs H Q E->nB K E {nx:=fun _ H'=>Q .non H',rt:=Q} (start ["self","voter","work"] vs) H:=by
 rintro vs H Q E ⟨_,c,v,n,B,s,rfl,⟨dx,d,e,w,a,X,rfl⟩,f,g,ha,D,r,m⟩
 have i:s.ws.length=a.length:=Ro X.wt
 unfold nB
 nofun
 symm
 refine bC X.at_ (cQ nofun) ?_
 symm
 by_cases h:v∈s.ps.map (·.1)
 rotate_left
 .exact⟨rfl,c,v,_,s,rfl,⟨dx,d,e,w,a,X,rfl⟩,.inr ⟨h,f,m _ (by rw[aL.due,if_neg h])⟩⟩
 have u:=f.1
 have x:=g.1
 refine⟨rfl,c,v,_,s,rfl,⟨dx,d,e,w,a,X,rfl⟩,.inl ⟨h,?_⟩⟩
 symm
 nofun
 symm
 refine bC X.at_ (cQ nofun) ?_
 symm
 by_cases hn:n∈s.cs.map (·.1)
 rotate_left
 .exact⟨rfl,c,n,_,s,rfl,⟨dx,d,e,w,a,X,rfl⟩,.inr ⟨hn,g,m _ (by rw[aL.due,if_pos h,if_neg hn])⟩⟩
 have q:=r (by rw[aL.due,if_pos h,if_pos hn])
 refine⟨rfl,c,n,_,s,rfl,⟨dx,d,e,w,a,X,rfl⟩,.inl ⟨hn,?_⟩⟩
 symm
 rename_i t y F j z
 have X1:=X.same j
 refine bJ X1.at_ C.aG C.bB eV ?_
 refine D6 (p:=(v,n)) z X1.w_ X1.wt u x ha ?_
 rw[TM]
 by_cases b:(v,n)∈s.ws
 .have k:GS s v n=s:=if_pos b
  rw[show decide ((v,n)∈s.ws)=ω from decide_eq_true b]
  symm
  exact q y _ (by rw[k];exact⟨dx,d,e,w,a,X1,rfl⟩) (bo.of j) gY.refl
 .have k:GS s v n={s with ws:=s.ws++[(v,n)]}:=if_neg b
  rw[show decide ((v,n)∈s.ws)=ξ from decide_eq_false b]
  symm
  refine bJ X1.at_ C.aG C.bB eV ?_
  exists CG X1.w_
  symm
  rename_i l G I o A
  have X2:=X1.same o
  refine cB X2.w_ (by rw[QR,<-i];exact Rq (show _<1000 by omega) aO) ?_
  rw[show a.map V.ref++[V.ref l]=(a++[l]).map V.ref by simp]
  exact q _ [c,d,e,w] (by rw[k];exact⟨dx,d,e,w,a++[l],X2.addW A,rfl⟩) ((bo.of (j.trans o)).trans (bo.upd X2.w_ "~" ⋯)) gY.refl
theorem tO(C:fR K):∀vs H Q E,fE K vs H Q E->jS K E {nx:=fun _ H'=>Q .non H',rt:=Q} (start ["self","voter","work"] vs) H:=by
 rintro vs H Q E ⟨_,c,v,n,fp,s,rfl,⟨dx,f,g,w,b,X,rfl⟩,m,o,ha,hl,P,L⟩
 have u:s.ws.length=b.length:=Ro X.wt
 unfold jS
 nofun
 symm
 refine bC X.at_ (cQ nofun) ?_
 symm
 by_cases x:v∈s.ps.map (·.1)
 rotate_left
 .exact⟨rfl,c,v,_,s,rfl,⟨dx,f,g,w,b,X,rfl⟩,.inr ⟨x,m,L _ (by rw[aL.due,if_neg x])⟩⟩
 have R:=m.1
 have S:=o.1
 refine⟨rfl,c,v,_,s,rfl,⟨dx,f,g,w,b,X,rfl⟩,.inl ⟨x,?_⟩⟩
 symm
 nofun
 symm
 refine bC X.at_ (cQ nofun) ?_
 symm
 by_cases hn:n∈s.cs.map (·.1)
 rotate_left
 .exact⟨rfl,c,n,_,s,rfl,⟨dx,f,g,w,b,X,rfl⟩,.inr ⟨hn,o,L _ (by rw[aL.due,if_pos x,if_neg hn])⟩⟩
 have q:=P (by rw[aL.due,if_pos x,if_pos hn])
 refine⟨rfl,c,n,_,s,rfl,⟨dx,f,g,w,b,X,rfl⟩,.inl ⟨hn,?_⟩⟩
 symm
 refine bJ X.at_ C.aG C.bB eV ?_
 exists w,rfl,⟨_,aD.of X.w_⟩
 refine cG (bR (K:=K) (a:=w) (xs:=b.map V.ref) 0) (fun i=>[ψ ((b.map V.ref).getD i .non),ψ (.str v),ψ (.str n)]) (by rintro j T (rfl|⟨k,rfl⟩)<;>rfl) (fun H' z=>z.seq (aD.of X.w_)) (by rw[QR];exact QV (show _<=1000 by omega) aO)
  (fun i=>!decide (s.ws.getD i ("","")=(v,n))) (fun i=>(b.map V.ref).getD i .non) ?_ ?_ ?_
 .intro i hi H' G z A
  have hi:i<s.ws.length:=by rw[u];simpa using hi
  obtain⟨M,D,F⟩:=d9 X.wt (QZ hi)
  have U:(b.map V.ref).getD i .non=.ref M:=by simp[Q3,D]
  have W:s.ws.getD i ("","")=s.ws[i]:=by rw[Rl,QZ hi];rfl
  have y:=ha s.ws[i] (R3 hi)
  rw[U]
  rw[W]at A
  symm
  rename_i t Y f2 N Z
  refine L2.Ii (n:=4) (d:=En s.ws[i]) (e:=En (v,n)) (.tup (d5.of (N _ _ (z _ _ F))) (.cons (.str _) (.cons (.str _) .nil))) (.tup (d5.of Z) (.cons (.str _) (.cons (.str _) .nil))) (AQ y.1 y.2) (AQ R S) "^" ?_
  rw[G9]
  symm
  exact A Y N
 .intro i hi hb H' G z A
  symm
  exact A H' (ah.refl _)
 intro l B f3 O h3
 have X3:=X.same O
 have I:∃bs:⇑QI,B l=ψ (.lst (bs.map V.ref))/\Q4 (AR B) (s.ws.filter fun p=>!decide (p=(v,n))) bs:=by
  refine⟨((Q1 (b.map V.ref).length).filter fun i=>!decide (s.ws.getD i ("","")=(v,n))).map (fun i=>b.getD i 0),?_,?_⟩
  .rw[h3,QY]
   congr 2
   refine RT fun i hi=>?_
   have hi:i<b.length:=by simpa using R1.mp (Ra.mp hi).1
   simp[Q3,hi]
  .rw[<-de (fun p:QH×QH=>!decide (p=(v,n))) ("","") s.ws,u,QR]
   have go:∀is:⇑Nat,(∀i∈is,i<b.length)->Q4 (AR B) (is.map fun i=>s.ws.getD i ("","")) (is.map fun i=>b.getD i 0):=by
    intro is
    induction is with
    |nil=>exact fun _=>.nil
    |cons i r ih=>
     intro h
     have hi:=h i ⋯
     refine .cons ?_ (ih fun j hj=>h j (by simp[hj]))
     obtain⟨M,D,F⟩:=d9 X3.wt (QZ (show i<s.ws.length by omega))
     show AR B (s.ws.getD i ("","")) (b.getD i 0)
     rw[Rl,Rl,D,QZ (show i<s.ws.length by omega)]
     exact F
   exact go _ fun i hi=>by simpa using R1.mp (Ra.mp hi).1
 obtain⟨bs,J,I⟩:=I
 symm
 refine jZ X3.at_ C.aG C.bB (show 6<1000 by decide) ?_
 rw[rq]
 have X4:=X3.setW J I
 refine q _ [c,f,g,l] ⟨dx,f,g,l,bs,X4,rfl⟩ ((bo.of O).trans (bo.upd X3.at_ "~" ⋯)) ?_
 intro a ha
 simp only[QW,RM,or_false]at ha
 rcases ha with rfl|rfl|rfl|rfl
 .exact .inl ⋯
 .exact .inl ⋯
 .exact .inl ⋯
 .exact .inr f3
theorem zM:∀vs H Q E,jf K vs H Q E->qO K E {nx:=fun _ H'=>Q .non H',rt:=Q} (start ["chest","deed","word","last"] vs) H:=by
 rintro vs H Q E ⟨_,c,w,a,b,o,s,rfl,CH,G,u,p,l,q⟩
 obtain⟨dx,N,O,wl,P,X,v⟩:=id CH
 unfold qO
 unfold we at q
 nofun
 symm
 refine cC (fun h=>?_) (fun h=>?_)
 .rw[if_pos h]at q
  symm
  refine bC X.at_ (cQ nofun) ?_
  symm
  refine⟨rfl,b,rfl,l.1,QV l.2 "^",fun hn n r x R A f=>?_,fun hn r f=>?_⟩
  .rw[if_pos hn]at q
   have B:xH b=n:=by
    obtain⟨m,C,_,D,F,_⟩:=pK hn
    have:xH b=m:=by unfold xH;rw[D];rfl
    rw[this]
    exact AG C x (F.trans A.symm)
   rw[B]at q
   symm
   refine⟨rfl,c,a,n,o,s,rfl,CH.same f,p,fun hd e d i j k=>?_,fun cl hd e I=>q.2 cl hd e (f.trans I)⟩
   symm
   exact q.1 hd e d i ((bo.of f).trans j) (fun y J=>by
    rcases k y J with z|z
    .exact .inl z
    .exact .inr (f.free z))
  .rw[if_neg (by rw[hn];simp)]at q
   exact q r f
 rw[if_neg h]at q
 symm
 refine cC (fun h=>?_) (fun h=>?_)
 .rw[if_pos h]at q
  symm
  refine bC X.at_ (cQ nofun) ?_
  symm
  refine⟨rfl,c,a,b,o,s,rfl,CH,p,l,G.g.aw,G.g.wl,fun hd e d i j k=>?_,q.2⟩
  symm
  exact q.1 hd e d i j k
 rw[if_neg h]at q
 symm
 refine cC (fun h=>?_) (fun h=>?_)
 .rw[if_pos h]at q
  symm
  refine bC X.at_ (cQ nofun) ?_
  symm
  refine⟨rfl,c,a,b,o,s,rfl,CH,p,l,G.g.aw,G.g.wl,fun hd e d i j k=>?_,q.2⟩
  symm
  exact q.1 hd e d i j k
 rw[if_neg h]at q
 symm
 obtain⟨L,M,t⟩:=wJ u (a:="no row of three words: ") (n:=23) nofun "^"
 exact⟨_,rfl,L,_,rfl,w,rfl,M,_,rfl,t,t,(by decide:1<=QT),q _ (ah.refl _)⟩
theorem CY{H j:Hp}{d dx c:QI}{e:⇑QI}{s:aB}{Q:VK}{E:XK}{A:Act}(hd:H d=ψ (.ins (aF K "Desk") dx [("chest",.ref c)]))(r:d∉e)(h:ah H j)(w:∀x∈e,H x≠none)
  (q:yK K (fun H' a f=>cA K H' d a f) H (d::e) s Q E A):yK K (fun H' a f=>aI K H' c a f) j e s Q E A:=by
 have i:∀(H':Hp)(a:⇑QI)(f:aB),aI K H' c a f->bo e j H'->gY e a j->cA K H' d (d::a) f/\bo (d::e) H H'/\gY (d::e) (d::a) H:=fun H' a f x b n=>by
  have u:=(bo.of (l:=e) h).trans b
  have v:gY e a H:=fun y g=>by
   rcases n y g with z|z
   .exact .inl z
   .exact .inr (h.free z)
  refine⟨⟨dx,c,a,u.1 _ _ r hd,x,fun m=>?_,rfl⟩,u.mono (fun y g=>Rm _ g),fun y g=>?_⟩
  .rcases v d m with z|z
   .exact r z
   .rw[z]at hd;cases hd
  .rcases QW.mp g with rfl|g
   .exact .inl ⋯
   .rcases v y g with z|z
    .exact .inl (Rm _ z)
    .exact .inr z
 cases A with
 |deed D=>
  refine⟨fun hn H' a x b n=>?_,fun cl B H' f=>q.2 cl B H' (h.trans f)⟩
  obtain⟨k,o,p⟩:=i H' a _ x b n
  exact q.1 hn H' _ k o p
 |close=>
  intro H' a x b n
  obtain⟨k,o,p⟩:=i H' a _ x b n
  exact q H' _ k o p
 |tell t=>exact fun H' f=>q H' (h.trans f)
 |no cl=>exact fun H' f=>q H' (h.trans f)
theorem BJ(C:fR K):∀vs H Q E,bT K vs H Q E->rR K E {nx:=fun _ H'=>Q .non H',rt:=Q} (start ["self","row","words"] vs) H:=by
 rintro vs H Q E ⟨_,d,row,T,s,rfl,⟨dx,c,i,hd,CH,M,rfl⟩,G,t,q⟩
 unfold rR
 have f:∀p∈Rg row " ",Tx p:=fun p F=>⟨DI t.1 F,QV (GD F) t.2⟩
 have I:(Rg row " ").length<=1001:=by have U:=split_len row;have u:=t.2;omega
 have N:=size_eq
 have k:([("chest",V.ref c)]:⇑(QH×V)).lookup ("chest":QH)=ψ (.ref c):=by simp[RQ]
 nofun
 symm
 refine⟨rfl,row,rfl,t.1,QV t.2 "^",fun z l O=>?_,fun B J v=>?_⟩
 rotate_left
 .unfold kD at q
  rw[if_pos B]at q
  exact q J v
 unfold kD at q
 rw[if_neg z]at q
 have v:ah H (upd H l (.lst ((Rg row " ").map V.str))):=ah.updN O
 have x:(upd H l (.lst ((Rg row " ").map V.str))) l=ψ (.lst ((Rg row " ").map V.str)):=ak
 generalize upd H l (.lst ((Rg row " ").map V.str))=J at *
 generalize Rg row " "=g at *
 have m:(g.map V.str).length=g.length:=QR _
 have D:=fun A=>CY (A:=A) (Q:=Q) (E:=E) (s:=s) hd M v (CH.there)
 have o:=CH.same v
 have r:=v _ _ hd
 symm
 nofun
 symm
 rw[m]
 refine cC (fun h=>?_) (fun h=>?_)
 .obtain⟨w,rfl⟩:∃w,g=[w]:=List.length_eq_one_iff.mp (by exact_mod_cast h)
  symm
  refine bJ r C.zL C.gf k ?_
  symm
  refine bq (aD.of x) (ar (j:=0) rfl) ?_
  symm
  exact⟨rfl,c,w,i,s,rfl,o,G,f w ⋯,D _ q⟩
 symm
 nofun
 symm
 rw[m]
 refine cC (fun u=>?_) (fun u=>?_)
 .obtain⟨w,a,rfl⟩:∃w a,g=[w,a]:=by
   have e:g.length=2:=by exact_mod_cast u
   match g,e with
   |[w,a],_=>exact⟨w,a,rfl⟩
  symm
  refine bJ r C.zL C.gf k ?_
  symm
  refine bq (aD.of x) (ar (j:=0) rfl) ?_
  symm
  refine bq (aD.of x) (ar (j:=1) rfl) ?_
  symm
  exact⟨rfl,c,w,a,i,s,rfl,o,G,f w ⋯,f a ⋯,D _ q⟩
 symm
 nofun
 symm
 rw[m]
 refine cC (fun y=>?_) (fun y=>?_)
 .obtain⟨w,a,b,rfl⟩:∃w a b,g=[w,a,b]:=by
   have e:g.length=3:=by exact_mod_cast y
   match g,e with
   |[w,a,b],_=>exact⟨w,a,b,rfl⟩
  symm
  refine bJ r C.zL C.gf k ?_
  symm
  refine bq (aD.of x) (ar (j:=0) rfl) ?_
  symm
  refine bq (aD.of x) (ar (j:=1) rfl) ?_
  symm
  refine bq (aD.of x) (ar (j:=2) rfl) ?_
  symm
  exact⟨rfl,c,w,a,b,i,s,rfl,o,G,f w ⋯,f a ⋯,f b ⋯,D _ q⟩
 symm
 have P:cc K H E "NoRow":=by
  match g,q,h,u,y with
  |[],q,_,_,_=>exact q
  |[_],_,h,_,_=>exact absurd rfl h
  |[_,_],_,_,u,_=>exact absurd rfl u
  |[_,_,_],_,_,_,y=>exact absurd rfl y
  |_::_::_::_::_,q,_,_,_=>exact q
 obtain⟨R,S,L⟩:=wJ t (a:="too many words: ") (n:=16) nofun "^"
 exact⟨_,rfl,R,_,rfl,row,rfl,S,_,rfl,L,L,(by decide:1<=QT),P _ v⟩
theorem xO:∀vs H Q E,dA K vs H Q E->nh K {nx:=fun _ H'=>Q .non H',rt:=Q} (start ["desk","people","numbers"] vs) H:=by
 rintro vs H Q E ⟨_,d,O,C,s,n,ns,rfl,DA,G,a,l,m,P,q⟩
 have R:=size_eq
 obtain⟨dx,c,S,hd,ch,nd,T⟩:=id DA
 obtain⟨a1,a2,U,W,X⟩:=pY s
 have Y:∀j,j<3->kD s ((["given","spent","pot"]:⇑QH).getD j "")=.tell (iT ([s.giv,s.spt,s.pot].getD j 0))/\Tx ((["given","spent","pot"]:⇑QH).getD j "")/\Num ([s.giv,s.spt,s.pot].getD j 0):=fun j b=>by
  match j,b with
  |0,_=>exact⟨(d8 (s:=s) (w:="given") nofun).1.trans W,(d8 (s:=s) (w:="given") nofun).2,(G.nums a).1⟩
  |1,_=>exact⟨(d8 (s:=s) (w:="spent") nofun).1.trans X,(d8 (s:=s) (w:="spent") nofun).2,(G.nums a).2.1⟩
  |2,_=>exact⟨(d8 (s:=s) (w:="pot") nofun).1.trans U,(d8 (s:=s) (w:="pot") nofun).2,(G.nums a).2.2.1⟩
 unfold nh
 nofun
 symm
 rename_i l1 H1 f1 D I
 try refine br (aD.of I) ?_
 refine bx (bR (K:=K) (xs:=(["given","spent","pot"]:⇑QH).map V.str) 0) (fun j=>[ψ (((["given","spent","pot"]:⇑QH).map V.str).getD j .non),ψ (.ref d)]) (by rintro j o (rfl|⟨k,rfl⟩)<;>rfl) (fun H' g=>g.seq (aD.of I)) "^" (fun j=>.int ([s.giv,s.spt,s.pot].getD j 0)) ?_ ?_
 .intro j b H' F g r
  obtain⟨e,t,N⟩:=Y j b
  have es:((["given","spent","pot"]:⇑QH).map V.str).getD j .non=.str ((["given","spent","pot"]:⇑QH).getD j ""):=by
   match j,b with
   |0,_=>rfl
   |1,_=>rfl
   |2,_=>rfl
  rw[es]
  have i:=D.trans g
  symm
  refine bC (i _ _ hd) (by rw[RQ,show(("say":QH)=="chest")=ξ by decide +kernel];rfl) ?_
  symm
  exists rfl,d,_,C,s,rfl,DA.same i,G.d,t
  rw[e]
  intro u v
  symm
  refine⟨rfl,_,rfl,N,fun x h=>r x (v.trans h)⟩
 intro Z u f2 v y
 have y:u Z=ψ (.lst ([s.giv,s.spt,s.pot].map V.int)):=y
 have f:=D.trans v
 symm
 have J:aD K u O (ns.map V.str):=aD.of (f _ _ l)
 try refine br J ?_
 refine bx (bR (K:=K) (xs:=ns.map V.str) 0) (fun j=>[ψ ((ns.map V.str).getD j .non),ψ (.ref d)]) (by rintro j o (rfl|⟨k,rfl⟩)<;>rfl) (fun H' g=>g.seq J) (by rw[QR];exact QV (show _<=1000 by omega) aO) (fun j=>.int (vP s.ps (ns.getD j ""))) ?_ ?_
 .intro j b H' F g r
  have b:j<ns.length:=by simpa using b
  have es:(ns.map V.str).getD j .non=.str (ns.getD j ""):=by simp[Q3,b]
  rw[es]
  have hm:=m _ (getD_mem (xs:=ns) "" b)
  generalize ns.getD j ""=z at *
  have L:bE z=ω:=by
   obtain⟨p,l,e⟩:=QO.mp hm
   rw[<-e];exact G.d.nv p l
  have zl:=(cy L).2
  have α:("purse ":QH).length=6:=nofun
  obtain⟨e,t⟩:=EZ s (iy L)
  rw[if_pos hm]at e
  have i:=f.trans g
  symm
  refine bC (i _ _ hd) (by rw[RQ,show(("say":QH)=="chest")=ξ by decide +kernel];rfl) ?_
  symm
  try refine gp "`" ?_
  symm
  exists rfl,d,_,C,s,rfl,DA.same i,G.d,t
  rw[e]
  intro x h
  symm
  refine⟨rfl,_,rfl,(G.nums a).2.2.2 z hm,fun A B=>r A (h.trans B)⟩
 intro l3 x f3 h M
 rw[QR,aM (fun z:QH=>V.int (vP s.ps z)) "" ns]at M
 refine C8 (h _ _ y) M (by rw[QR];simp;omega) fun l4 A f4 B h4=>?_
 exact q l4 A ((f.trans h).free f4) (f.trans (h.trans B)) (by rw[h4];simp)
theorem zQ:∀vs H Q E,jj K vs H Q E->pN K {nx:=fun _ H'=>Q .non H',rt:=Q} (start ["text","names","left","total","known","part","words"] vs) H:=by
 rintro vs H Q E ⟨_,ln,ld,names,ps,a,rfl,B,α,o,C,ξ,po,d,q⟩
 have β:=size_eq
 have γ:a.length<=20:=by
  have:=gq po.nd fun z hz=>by
   obtain⟨p,m,e⟩:=QO.mp hz
   rw[<-e];exact(po.ok p m).2.1
  simp only[QR]at this
  omega
 have δ:∀p∈a,Sm p.1/\Nb p.2:=fun p m=>⟨(cy (d p m).1).2,(d p m).2.h0,Ug (d p m).2.h1 nofun⟩
 have D:=Cb po.ne fun p m=>⟨(d p m).1,(d p m).2.h0⟩
 have ν:=ri γ δ
 unfold pN
 nofun
 symm
 nofun
 symm
 rename_i c U F s1 h1
 nofun
 symm
 refine⟨eM a,", ",rfl,rfl,nofun,by omega,by rw[D,QR];omega,fun x f=>?_⟩
 rw[D]
 have s2:ah U (upd U x (.lst ((a.map cZ).map V.str))):=ah.updN f
 have h2:upd U x (.lst ((a.map cZ).map V.str)) x=ψ (.lst ((a.map cZ).map V.str)):=ak
 generalize upd U x (.lst ((a.map cZ).map V.str))=H2 at *
 have n1:x≠c:=fun e=>by rw[e,h1]at f;cases f
 have n2:x≠ld:=fun e=>by rw[e,s1 _ _ o]at f;cases f
 have n3:c≠ld:=fun e=>by rw[e,o]at F;cases F
 have n4:ln≠c:=fun e=>by rw[<-e,B]at F;cases F
 have r:=s1.trans s2
 have G:=r _ _ B
 try refine br (aD.of h2) ?_
 refine fH (bR (K:=K) (xs:=(a.map cZ).map V.str) 5) (fun i W H'=>bo [ld,c] H2 H'/\H' ld=ψ (.dK (cD (dI ps (a.take i))))/\H' c=ψ (.lst (((a.take i).map (·.1)).map V.str))/\∃v5 v6,W=[ψ (.str (eM a)),ψ (.ref ln),ψ (.ref ld),ψ (.int ((a.take i).map (·.2)).sum),ψ (.ref c),v5,v6])
  ⟨bo.of (ah.refl _),by rw[List.take_zero,Hi];exact r _ _ o,s2 _ _ h1,_,_,rfl⟩ (fun i W H' p=>aD.of (p.1.1 _ _ (by simp[n1,n2]) h2)) ?_ ?_
 .rintro i W Ha I hi ⟨ba,ε,ζ,v5,v6,rfl⟩ X
  have g:i<a.length:=by simpa using hi
  have et:((a.map cZ).map V.str).getD i .non=.str (cZ a[i]):=by simp[Q3,g]
  have n:=R3 g
  obtain⟨o1,s⟩:=d _ n
  obtain⟨k1,Y,k3,k4⟩:=po.ok _ n
  have l:(a[i]).1∉(a.take i).map (·.1):=by
   have:=wC po.nd g
   have e:a.getD i ("",0)=a[i]:=by simp[Q3,g]
   rwa [e]at this
  rw[et,jF g]
  have ρ:(a.take i).length<=20:=by rw[RJ];omega
  generalize a[i]=p at *
  generalize a.take i=b at *
  have J:=oi o1 s.h0
  have τ:=pQ (p:=p) (cy o1).2 ⟨s.h0,Ug s.h1 nofun⟩
  have L:=X _ _ ε
  have t:=X _ _ ζ
  have M:I ln=ψ (.lst (names.map V.str)):=X _ _ (ba.1 _ _ (by simp[α,n4]) G)
  have N:p.1∈(dI ps b).map (·.1):=by rw[dG];exact Y
  have O:((dI ps b).map (·.1)).Nodup:=by rw[dG];exact C
  have ev:vP (dI ps b) p.1=vP ps p.1:=by rw[ED C Y,Dp l,Wz]
  show ax _ _ _ _ _
  nofun
  symm
  refine⟨cZ p," ",rfl,rfl,nofun,by omega,by rw[J,size_eq];simp,fun h k=>?_⟩
  rw[J]
  have s3:ah I (upd I h (.lst ([p.1,iT p.2].map V.str))):=ah.updN k
  have h3:upd I h (.lst ([p.1,iT p.2].map V.str)) h=ψ (.lst ([p.1,iT p.2].map V.str)):=ak
  generalize upd I h (.lst ([p.1,iT p.2].map V.str))=H3 at *
  have m1:h≠c:=fun e=>by rw[e,t]at k;cases k
  have m2:h≠ld:=fun e=>by rw[e,L]at k;cases k
  have Z:aD K H3 h ([p.1,iT p.2].map V.str):=aD.of h3
  symm
  nofun
  symm
  refine gG ⋯ ?_
  symm
  refine bq Z (ar (j:=0) rfl) ?_
  symm
  refine zd (aD.of (s3 _ _ M)) ?_
  rw[decide_eq_true k1]
  symm
  refine bq Z (ar (j:=0) rfl) ?_
  symm
  refine ko (aD.of (s3 _ _ t)) ?_
  rw[decide_eq_false l]
  symm
  refine bq Z (ar (j:=1) rfl) ?_
  symm
  refine⟨rfl,p.2,rfl,s,fun u s4=>?_⟩
  symm
  refine gW (by intro z;cases z) ?_
  symm
  have q4:=s4.seq Z
  have v:=s3.trans s4
  have w:=v _ _ t
  nofun
  symm
  exists CG w
  symm
  refine bq q4 (ar (j:=0) rfl) ?_
  symm
  refine cB w (by rw[QR,QR];exact Rq (show _<1000 by omega) aO) ?_
  have b5:bo [ld,c] u (upd u c (.lst ((b.map (·.1)).map V.str++[.str p.1]))):=bo.upd w "~" ⋯
  have η:upd u c (.lst ((b.map (·.1)).map V.str++[.str p.1])) c=ψ (.lst (((b++[p]).map (·.1)).map V.str)):=by rw[ak];simp
  have P:upd u c (.lst ((b.map (·.1)).map V.str++[.str p.1])) ld=ψ (.dK (cD (dI ps b))):=by rw[aj (Rb n3)];exact v _ _ L
  have g5:(upd u c (.lst ((b.map (·.1)).map V.str++[.str p.1]))) h=ψ (.lst ([p.1,iT p.2].map V.str)):=by rw[aj m1];exact s4 _ _ h3
  have q5:aD K (upd u c (.lst ((b.map (·.1)).map V.str++[.str p.1]))) h ([p.1,iT p.2].map V.str):=aD.of (by rw[aj m1];exact s4 _ _ h3)
  generalize upd u c (.lst ((b.map (·.1)).map V.str++[.str p.1]))=H5 at *
  symm
  nofun
  symm
  refine bq q5 (ar (j:=0) rfl) ?_
  symm
  refine wK P (DS O N) ?_
  symm
  refine bq q5 (ar (j:=1) rfl) ?_
  symm
  refine⟨rfl,p.2,rfl,s,fun y R=>?_⟩
  symm
  refine bq (R.seq q5) (ar (j:=0) rfl) ?_
  symm
  have S:=R _ _ P
  refine zD S (by rw[cj];simp[dI];rw[β];omega) ?_
  rw[Jx O N,ev,FU C l]
  have b7:bo [ld,c] y (upd y ld (.dK (cD (dI ps (b++[(p.1,p.2)]))))):=bo.upd S "~" ⋯
  have T:upd y ld (.dK (cD (dI ps (b++[(p.1,p.2)])))) ld=ψ (.dK (cD (dI ps (b++[p])))):=ak
  have θ:upd y ld (.dK (cD (dI ps (b++[(p.1,p.2)])))) c=ψ (.lst (((b++[p]).map (·.1)).map V.str)):=by rw[aj n3];exact R _ _ η
  have q7:aD K (upd y ld (.dK (cD (dI ps (b++[(p.1,p.2)]))))) h ([p.1,iT p.2].map V.str):=by
   refine aD.of ?_
   rw[aj m2];exact R _ _ g5
  generalize upd y ld (.dK (cD (dI ps (b++[(p.1,p.2)]))))=H7 at *
  have ι:((dI ps (b++[p])).map (·.1)).Nodup:=by rw[dG];exact C
  have κ:p.1∈(dI ps (b++[p])).map (·.1):=by rw[dG];exact Y
  have φ:vP (dI ps (b++[p])) p.1=vP ps p.1-p.2:=by rw[ED C Y,AE l,if_pos rfl]
  symm
  nofun
  symm
  refine bq q7 (ar (j:=1) rfl) ?_
  symm
  refine⟨rfl,p.2,rfl,s,fun H8 A=>?_⟩
  symm
  refine gW "`" ?_
  symm
  refine bq (A.seq q7) (ar (j:=0) rfl) ?_
  symm
  refine wK (A _ _ T) (DS ι κ) ?_
  symm
  refine gW "`" ?_
  symm
  refine bq (A.seq q7) (ar (j:=1) rfl) ?_
  symm
  refine⟨rfl,p.2,rfl,s,fun H9 s9=>?_⟩
  symm
  exists (ba.trans (bo.of (X.trans v))).trans (b5.trans ((bo.of R).trans (b7.trans (bo.of (A.trans s9))))),(A.trans s9) _ _ T,(A.trans s9) _ _ θ,ψ (.str (cZ p)),ψ (.ref h)
  rw[show((b++[p]).map (·.2)).sum=(b.map (·.2)).sum+p.2 by simp]
  rfl
 rintro W Hc ⟨bc,μ,χ,v5,v6,rfl⟩
 rw[QR,QR,TX]at *
 symm
 exact q Hc (((bo.of r).trans bc).fresh (fp:=[ld]) (Ms:=[c]) (by simpa using F)) μ
theorem mJ:∀vs H Q E,dq K vs H Q E->fP K {nx:=fun _ H'=>Q .non H',rt:=Q} (start ["parts","grains","works","left","spent","part","halves","there"] vs) H:=by
 rintro vs H Q E ⟨_,lq,o,ld,g,C,W,W',ps,ρ,ts,rfl,β,n1,n2,n3,WL,ok,f,own,u,nd,v,hrl,γ,d,q⟩
 have hsz:=size_eq
 unfold fP
 nofun
 symm
 nofun
 symm
 try refine br (aD.of β) ?_
 refine fH (bR (K:=K) (xs:=(C.map bQ).map V.str) 5) (fun i σ H'=>bo [o,ld] H H'/\(∃(Wi:⇑iW)(pi:⇑(QH×Int))(ti:⇑QI),bG H' o ti Wi/\Al Wi/\(Wi.map (·.1)).Nodup/\(∀t∈ti,∀x y w,H' t=ψ (.tup [x,y,.ref w])->w≠o/\w≠ld)/\H' ld=ψ (.dK (cD pi))/\(pi.map (·.1)).Nodup/\pi.length<=20/\Lk g (C.drop i) Wi pi W' ρ)/\∃v5 v6 v7,σ=[ψ (.ref lq),ψ (.int g),ψ (.ref o),ψ (.ref ld),ψ (.int ((C.take i).map (·.2.1)).sum),v5,v6,v7])
  ⟨bo.of (ah.refl _),⟨W,ps,ts,WL,ok,f,own,u,nd,v,d⟩,_,_,_,rfl⟩ (fun i σ H' p=>aD.of (p.1.1 _ _ (by simp[n1,n2]) β)) ?_ ?_
 .clear WL ok f own u nd v d
  rintro i σ Ha U hi ⟨ba,⟨W,ps,ts,WL,ok,f,own,u,nd,v,d⟩,v5,v6,v7,rfl⟩ sb
  have L:i<C.length:=by simpa using hi
  have et:((C.map bQ).map V.str).getD i .non=.str (bQ C[i]):=by simp[Q3,L]
  have δ:=R3 L
  have A:=γ _ δ
  have ed:C.drop i=C[i]::C.drop (i+1):=List.drop_eq_getElem_cons L
  rw[ed]at d
  rw[et,jF L]
  generalize C[i]=r at *
  generalize C.drop (i+1)=rest at *
  generalize C.take i=ε at *
  obtain⟨⟨names,X,po⟩,ζ,d⟩:=d
  have τ:=ok.ok _ X
  obtain⟨o1,o2,o3,o4⟩:=τ
  have o1:bE r.1=ω:=o1
  have o2:1<=r.2.1/\r.2.1<=1000000000000:=o2
  have η:=A8 o1 (show 0<=r.2.1 by omega) fun p N=>⟨(A p N).1,(A p N).2.h0⟩
  have θ:r.2.2.length<=20:=by
   have:=gq po.nd fun z hz=>by
    obtain⟨p,N,e⟩:=QO.mp hz
    rw[<-e];exact(po.ok p N).2.1
   simp only[QR]at this
   omega
  have hdl:=mC (r:=r) (cy o1).2 (eU "`" o2.2) θ fun p N=>⟨(cy (A p N).1).2,(A p N).2.h0,Ug (A p N).2.h1 nofun⟩
  have WLb:=WL.same sb
  have O:=sb _ _ u
  obtain⟨j,P,ej⟩:=Sa X
  obtain⟨Y,ι⟩:=WLb.at
  obtain⟨t,w,κ,B,D⟩:=ι j P
  have eg:W.getD j wN=(r.1,r.2.1,names):=by rw[Rl,QZ P];exact ej
  rw[eg]at B D
  have B:U t=ψ (.tup [.str r.1,.int r.2.1,.ref w]):=B
  have D:U w=ψ (.lst (names.map V.str)):=D
  have G:∀t∈ts,∀x y w,U t=ψ (.tup [x,y,.ref w])->w≠o/\w≠ld:=fun t ht x y w e=>by
   obtain⟨r',_,Z,I,_⟩:=WL.tup t ht
   rw[sb _ _ I]at e
   exact own t ht x y w (by rw[I];exact e)
  have R:=G t (Td κ) _ _ _ B
  show ax _ _ _ _ _
  nofun
  symm
  refine⟨bQ r,": ",rfl,rfl,nofun,by omega,by rw[η,size_eq];simp,fun l3 φ=>?_⟩
  rw[η]
  have s3:ah U (upd U l3 (.lst ([cZ (r.1,r.2.1),eM r.2.2].map V.str))):=ah.updN φ
  have h3:upd U l3 (.lst ([cZ (r.1,r.2.1),eM r.2.2].map V.str)) l3=ψ (.lst ([cZ (r.1,r.2.1),eM r.2.2].map V.str)):=ak
  generalize upd U l3 (.lst ([cZ (r.1,r.2.1),eM r.2.2].map V.str))=H3 at *
  have q3:aD K H3 l3 ([cZ (r.1,r.2.1),eM r.2.2].map V.str):=aD.of h3
  have WL3:=WLb.same s3
  have μ:aD K H3 o (ts.map V.ref):=aD.of WL3.1
  have hWl:=ok.l
  symm
  nofun
  symm
  try refine br μ ?_
  refine cG (bR (K:=K) (xs:=ts.map V.ref) 0) (fun k=>[ψ ((ts.map V.ref).getD k .non),ψ (.ref l3)]) (by rintro j σ' (rfl|⟨k,rfl⟩)<;>rfl) (fun H' s'=>s'.seq μ) (by rw[QR,Y];exact QV (show _<=1000 by omega) aO) (fun k=>decide (k=j)) (fun k=>(ts.map V.ref).getD k .non) ?_ ?_ ?_
  .intro k hk H' F s' kk
   rw[QR,Y]at hk
   obtain⟨J,Z,f1,f2,f3⟩:=ι k hk
   have ek:(ts.map V.ref).getD k .non=.ref J:=by rw[Rl,RU,f1];rfl
   obtain⟨u1,u2,_⟩:=ok.ok _ (getD_mem (xs:=W) wN hk)
   have u3:=(cy u1).2
   have f4:=(s3.trans s') _ _ f2
   have hN:=eU (show 0<=(W.getD k wN).2.1 by omega) u2.2
   have hNl:=hN.len
   rw[ek]
   symm
   refine eG (d5.of f4) (ar (j:=0) rfl) ?_
   symm
   try refine gp (by rw[ck.2.2.1];omega) ?_
   symm
   refine eG (d5.of f4) (ar (j:=1) rfl) ?_
   symm
   refine rF hN.log ?_
   show gy _ (.str (iT (W.getD k wN).2.1)) _ _
   refine gp (by rw[Ru,ck.2.2.1];omega) ?_
   symm
   refine bq (s'.seq q3) (ar (j:=0) rfl) ?_
   symm
   have e:decide ((W.getD k wN).1++" "++iT (W.getD k wN).2.1=cZ (r.1,r.2.1))=decide (k=j):=by
    refine decide_eq_decide.mpr ⟨fun h=>?_,fun h=>?_⟩
    .have h1:cZ ((W.getD k wN).1,(W.getD k wN).2.1)=cZ (r.1,r.2.1):=by rw[<-h,iN];rfl
     have h2:=oi (p:=((W.getD k wN).1,(W.getD k wN).2.1)) u1 (show 0<=(W.getD k wN).2.1 by omega)
     rw[h1,oi (p:=(r.1,r.2.1)) o1 (show 0<=r.2.1 by omega)]at h2
     have h3:(W.getD k wN).1=r.1:=(TU h2).1.symm
     have ν:(W.getD k wN).1=(W[k]).1:=by simp[Q3,hk]
     have ξ:r.1=(W[j]).1:=by rw[ej]
     rcases VJ k j with c|c|c
     .have:=Se.mp f k j (by simpa using hk) (by simpa using P) c
      simp only[Ui]at this
      exact absurd (by rw[<-ν,h3,ξ]) this
     .exact c
     .have:=Se.mp f j k (by simpa using P) (by simpa using hk) c
      simp only[Ui]at this
      exact absurd (by rw[<-ν,h3,ξ]) this
    .rw[h,eg,iN];rfl
   rw[e]
   exact kk H' (ah.refl _)
  .intro k hk hb H' F s' kk
   symm
   exact kk H' (ah.refl _)
  intro l4 H4 f4 s4 h4
  have χ:(Q1 (ts.map V.ref).length).filter (fun k=>decide (k=j))=[j]:=by
   rw[QR,Y]
   refine acx (le:=(·<=·)) (fun a b _ _ h1 h2=>Wt h1 h2) (Xo Tj (V0 _ List.pairwise_lt_range)) ⋯ ?_
   refine(List.perm_ext_iff_of_nodup (V0 _ ZS) ⋯).mpr fun k=>?_
   rw[Ra,R1,decide_eq_true_eq,Rv]
   exact⟨fun h=>h.2,fun h=>⟨by rw[h];exact P,h⟩⟩
  have h4:H4 l4=ψ (.lst [.ref t]):=by
   rw[h4,χ]
   show some (HO.lst [(ts.map V.ref).getD j .non])=_
   rw[Rl,RU,κ];rfl
  have n:=s3.trans s4
  have q4:aD K H4 l4 [.ref t]:=aD.of h4
  have q34:=s4.seq q3
  symm
  nofun
  symm
  refine gG ⋯ ?_
  symm
  refine gG ⋯ ?_
  symm
  nofun
  symm
  refine bq q34 (ar (j:=1) rfl) ?_
  symm
  refine bq q4 (ar (j:=0) rfl) ?_
  symm
  refine eG (d5.of (n _ _ B)) (ar (j:=2) rfl) ?_
  symm
  refine⟨rfl,w,ld,names,ps,r.2.2,rfl,n _ _ D,R.2,n _ _ O,nd,v,po,A,fun M b5 h5=>?_⟩
  have m4:l4≠ld:=fun e=>by rw[e,s3 _ _ O]at f4;cases f4
  have q5:aD K M l4 [.ref t]:=aD.of (b5.1 _ _ (by simpa using m4) h4)
  have α:=b5.2.1 _ _ (n _ _ B)
  symm
  refine bq q5 (ar (j:=0) rfl) ?_
  symm
  refine eG (d5.of α) (ar (j:=1) rfl) ?_
  symm
  refine gG ζ ?_
  symm
  have WL5:bG M o ts W:=(WLb.same n).but b5 (by simpa using n3) fun J s x y Z e=>by
   obtain⟨r',_,w2,I,_⟩:=WLb.tup J s
   rw[n _ _ I]at e
   have:=(G J s x y Z (by rw[I];exact e)).2
   simpa using this
  nofun
  symm
  exists CG WL5.1
  symm
  refine bq q5 (ar (j:=0) rfl) ?_
  symm
  have dW5:cV K M (.ref t) (dW (r.1,r.2.1,names)):=.tup (d5.of α) (.cons (.str _) (.cons (.int _) (.cons (.lst (aD.of (b5.1 _ _ (by simpa using R.2) (n _ _ D))) (i3 _)) .nil)))
  have hjW:(W.map (·.1))[j]?=ψ r.1:=by rw[RU,QZ P,ej];rfl
  have S:∀t∈ts,∀x y w,M t=ψ (.tup [x,y,.ref w])->w≠o/\w≠ld:=fun J s x y Z e=>by
   obtain⟨r',_,w2,I,_⟩:=WLb.tup J s
   rw[b5.2.1 _ _ (n _ _ I)]at e
   exact G J s x y Z (by rw[I];exact e)
  exists o,ts.map V.ref,.ref t,W.map dW,dW (r.1,r.2.1,names),j,rfl,rfl,WL5.1,WL5.all,dW5,(vg ok.asc).mono "^",(Ku (ok.asc _ X)).mono "^",by rw[RU,QZ P,ej];rfl,fun m hm e=>?_
  .rw[RU,QZ (show m<W.length by omega)]at e
   have e:dW W[m]=dW (r.1,r.2.1,names):=RE e
   unfold dW at e
   injection e with e
   injection e with e _
   injection e with e
   have:=Se.mp f m j "%" (by simpa using P) hm
   simp only[Ui]at this
   exact this (by rw[e,ej])
  have WL6:=WL5.erase j fun t ht x y w e=>(S t ht x y w e).1
  have b6:bo [o,ld] M (upd M o (.lst ((ts.map V.ref).eraseIdx j))):=bo.upd WL5.1 "~" ⋯
  have h6:upd M o (.lst ((ts.map V.ref).eraseIdx j)) ld=ψ (.dK (cD (dI ps r.2.2))):=by rw[aj (Rb n3)];exact h5
  have m4':l4≠o:=fun e=>by rw[e,(s3 _ _ WLb.1)]at f4;cases f4
  have q6:aD K (upd M o (.lst ((ts.map V.ref).eraseIdx j))) l4 [.ref t]:=aD.of (by rw[aj m4'];exact b5.1 _ _ (by simpa using m4) h4)
  rw[lX f hjW]at WL6
  generalize upd M o (.lst ((ts.map V.ref).eraseIdx j))=H6 at *
  have et6:=b6.2.1 _ _ α
  symm
  refine bq q6 (ar (j:=0) rfl) ?_
  symm
  refine eG (d5.of et6) (ar (j:=1) rfl) ?_
  symm
  exists (ba.trans (bo.of (sb.trans n))).trans ((b5.mono ⋯).trans b6),⟨_,_,_,WL6,ok.filt _,U1 (U9 _ VI) f,fun J s x y Z e=>?_,h6,by rw[dG];exact nd,by simp[dI];exact v,d⟩,ψ (.str (bQ r)),ψ (.ref l3),ψ (.ref l4)
  .have T:=Wc s
   obtain⟨r',_,w2,I,_⟩:=WL5.tup J T
   rw[b6.2.1 _ _ I]at e
   exact S J T x y Z (by rw[I];exact e)
  .rw[show((ε++[r]).map (·.2.1)).sum=(ε.map (·.2.1)).sum+r.2.1 by simp]
   rfl
 rintro σ Hc ⟨bc,⟨W,ps,ts,WL,ok,f,own,u,nd,v,d⟩,v5,v6,v7,rfl⟩
 rw[QR,QR,List.drop_length]at d
 obtain⟨rfl,rfl⟩:=d
 rw[QR,QR,TX]
 symm
 exact q Hc ts bc WL u
theorem ro:∀vs H Q E,eW K vs H Q E->iR K {nx:=fun _ H'=>Q .non H',rt:=Q} (start ["works","people","purses","name","cost","names"] vs) H:=by
 rintro vs H Q E ⟨_,y,z,O,ts,s,rfl,WL,X,Y,hv,Z,q⟩
 obtain⟨A,f⟩:=WL.at
 rw[QR]at A f
 have P:aD K H y (ts.map V.ref):=aD.of WL.1
 have g:∀i:Nat,∃a:QI,∀t,ts[i]?=ψ t->H t=ψ (.tup [.str (bM s (s.cs.getD i ("",0))).1,.int (bM s (s.cs.getD i ("",0))).2.1,.ref a])/\H a=ψ (.lst ((bM s (s.cs.getD i ("",0))).2.2.map V.str)):=fun i=>by
  by_cases hi:i<s.cs.length
  .obtain⟨t,w,z1,R,S⟩:=f i hi
   rw[map_getD (bM s) ("",0) wN hi]at R S
   exact⟨w,fun t' l=>by rw[z1]at l;cases l;exact⟨R,S⟩⟩
  .refine⟨0,fun t B=>?_⟩
   have:=(Rw.mp B).1
   omega
 obtain⟨T,m⟩:=Vp g
 unfold iR
 nofun
 symm
 try refine br P ?_
 refine fH (eA (K:=K) (a:=y) (ts:=ts) (u:=fun i=>.str (bM s (s.cs.getD i ("",0))).1) (v:=fun i=>.int (bM s (s.cs.getD i ("",0))).2.1) (w:=fun i=>.ref (T i)) 3 4 5) (fun i p H'=>ah H H'/\∃C D G,p=[ψ (.ref y),ψ (.ref z),ψ (.ref O),C,D,G]) ⟨ah.refl _,_,_,_,rfl⟩ (fun i p H' h=>⟨h.1.seq P,fun j b U=>h.1.seqT (d5.of (m j b U).1)⟩) ?_ ?_
 .rintro i p Ha Hb hi ⟨sa,C,D,G,rfl⟩ sb
  have I:i<s.cs.length:=by omega
  have B:=QZ hi
  have d:=sa.trans sb
  have J:=d _ _ (m i _ B).2
  have α:=Z _ (getD_mem (xs:=s.cs) ("",0) I)
  have L:=d _ _ X
  have M:=d _ _ Y
  generalize T i=ln at *
  generalize s.cs.getD i ("",0)=c at *
  have qp:aD K Hb z ((s.ps.map (·.1)).map V.str):=aD.of L
  have o:(((s.ps.map (·.1)).map V.str).length:Int).toNat=s.ps.length:=⋯
  have β:((s.ps.map (·.1)).map V.str).length=s.ps.length:=⋯
  show bj _ _ _ _ _ _
  symm
  try rw[o]
  refine cG (AZ (lo:=0) (n:=s.ps.length) 0) (fun j=>[ψ (.int (0+(j:Int))),ψ (.ref z),ψ (.ref ln),ψ (.ref O)]) (by rintro j γ (rfl|⟨k,rfl⟩)<;>rfl) (fun _ _=>trivial) (QV (show _<=1000 by omega) aO) (fun j=>decide (((s.ps.getD j ("",0)).1,c.1)∈s.ws)) (fun j=>.int (s.ps.getD j ("",0)).2) ?_ ?_ ?_
  .intro j r H' F x N
   rw[V9]
   symm
   refine bq (x.seq qp) (ar (j:=j) (v:=.str (s.ps.getD j ("",0)).1) (by simp[Q3,r])) ?_
   symm
   refine ko (aD.of (x _ _ J)) ?_
   symm
   have e:decide ((s.ps.getD j ("",0)).1∈(bM s c).2.2)=decide (((s.ps.getD j ("",0)).1,c.1)∈s.ws):=by
    refine decide_eq_decide.mpr ⟨fun h=>of_decide_eq_true (Ra.mp h).2,fun h=>Ra.mpr ⟨QO.mpr ⟨_,getD_mem _ r,rfl⟩,decide_eq_true h⟩⟩
   rw[e]
   exact N H' (ah.refl _)
  .intro j r U H' F x N
   rw[V9]
   symm
   refine bq (x.seq (aD.of M)) (ar (j:=j) (v:=.int (s.ps.getD j ("",0)).2) (by simp[Q3,r])) ?_
   exact N H' (ah.refl _)
  intro l1 H1 f1 s1 W
  have e1:((Q1 s.ps.length).filter fun j=>decide (((s.ps.getD j ("",0)).1,c.1)∈s.ws)).map (fun j=>V.int (s.ps.getD j ("",0)).2)=((s.ps.filter fun v=>decide ((v.1,c.1)∈s.ws)).map (·.2)).map V.int:=by
   rw[<-de (fun v:QH×Int=>decide ((v.1,c.1)∈s.ws)) ("",0) s.ps,QY,QY]
   rfl
  rw[e1]at W
  have q1:aD K H1 l1 (((s.ps.filter fun v=>decide ((v.1,c.1)∈s.ws)).map (·.2)).map V.int):=aD.of W
  symm
  refine gW (by show ¬(_≥c.2);omega) ?_
  symm
  exact⟨d.trans s1,_,_,_,rfl⟩
 rintro p Hc ⟨sc,C,D,G,rfl⟩
 symm
 exact q Hc sc
theorem uT:∀vs H Q E,d7 K vs H Q E->kZ K {nx:=fun _ H'=>Q .non H',rt:=Q} (start ["desk","people","works","ahead","answer","grains","parts","words","left","k","name","spent","behind"] vs) H:=by
 rintro vs H Q E ⟨_,d,J,fp,s,n,rfl,DA,G,ν,B,nlp,q⟩
 have hsz:=size_eq
 have hv:=G.d.g.v20
 obtain⟨D,g,W',b,C⟩:=KQ G
 have G':=G.close ν
 have hv':=G'.d.g.v20
 have T:(aC s).ps.map (·.1)=s.ps.map (·.1):=by
  have h1:∀{D:⇑dz}{W W':⇑iW}{ps U:⇑(QH×Int)},Lk g D W ps W' U->U.map (·.1)=ps.map (·.1):=fun {D}=>by
   induction D with
   |nil=>rintro W W' ps U ⟨_,rfl⟩;rfl
   |cons r D ih=>
    rintro W W' ps U ⟨_,_,c⟩
    rw[ih c,dG]
  rw[<-C.p,QY]
  have:=h1 C.clo
  rw[QY]at this
  exact this
 have ρ:b.map (·.1)=s.ps.map (·.1):=by
  rw[<-T,<-C.p,QY];rfl
 obtain⟨a1,a2,a3,a4,a5⟩:=pY s
 obtain⟨dx,c,fpc,hd,ch,ndc,efp⟩:=id DA
 have lk:∀v:V,(([(("chest":QH),v)]:⇑(QH×V)).lookup ("say":QH))=none:=fun v=>by rw[RQ,show(("say":QH)=="chest")=ξ by decide +kernel];rfl
 unfold kZ
 nofun
 symm
 refine bC hd (lk _) ?_
 symm
 obtain⟨e,tx⟩:=d8 (s:=s) (w:="works") nofun
 exists rfl,d,_,fp,s,rfl,DA,G.d,tx
 rw[e.trans a2]
 intro H1 s1
 symm
 refine⟨rfl,_,rfl,G.d.wr,fun f ts H2 f2 s2 WL own=>?_⟩
 have X:=s1.trans s2
 have f2:=s1.free f2
 symm
 nofun
 symm
 refine⟨rfl,d,J,fp,s,n,_,rfl,DA.same X,G,ν,X _ _ B,fun z hz=>hz,by rw[QR];exact hv,fun Y H3 f3 s3 h3=>?_⟩
 have ev:(s.ps.map (·.1)).map (vP s.ps)=s.ps.map (·.2):=by
  rw[QY]
  exact RT fun p B=>nV G.nd B
 rw[ev]at h3
 have L:=X.trans s3
 have nlaw:Y≠f:=fun e=>by rw[e,WL.1]at f3;cases f3
 have f3:=X.free f3
 symm
 nofun
 symm
 refine bC (L _ _ hd) (lk _) ?_
 symm
 obtain⟨e,tx⟩:=d8 (s:=s) (w:="close") nofun
 exists rfl,d,_,fp,s,rfl,DA.same L,G.d,tx
 rw[e.trans a1]
 intro H4 A D4 b4 w4
 have nf:∀{a:QI},H a=χ->a∉fp:=fun {a} h m=>DA.there a m h
 have γ:∀t∈ts,∀x y w,H3 t=ψ (.tup [x,y,.ref w])->w≠f/\H w=none:=fun t u x y w e=>by
  obtain⟨r',_,w',M,_⟩:=WL.tup t u
  rw[s3 _ _ M]at e
  have:=own t u x y w (by rw[M];exact e)
  exact⟨this.1,s1.free this.2⟩
 have WL3:=WL.same s3
 have WL4:bG H4 f ts (s.cs.map (bM s)):=WL3.but b4 (nf f2) fun t u x y w e=>nf (γ t u x y w e).2
 have own4:∀t∈ts,∀x y w,H4 t=ψ (.tup [x,y,.ref w])->w≠f/\H w=none:=fun t u x y w e=>by
  obtain⟨r',_,w',M,_⟩:=WL3.tup t u
  rw[b4.2.1 _ _ M]at e
  exact γ t u x y w (by rw[M];exact e)
 have h4:=b4.1 _ _ (nf f3) h3
 have τ:=b4.1 _ _ nlp (L _ _ B)
 have qa4:aD K H4 Y ((s.giv::s.spt::s.pot::s.ps.map (·.2)).map V.int):=aD.of h4
 have b04:bo fp H H4:=(bo.of L).trans b4
 have w04:gY fp A H:=fun a ha=>by
  rcases w4 a ha with z|z
  .exact .inl z
  .exact .inr (L.free z)
 have nlw4:f∉A:=fun m=>by
  rcases w4 f m with z|z
  .exact nf f2 z
  .rw[WL3.1]at z;cases z
 have nlp4:J∉A:=fun m=>by
  rcases w4 J m with z|z
  .exact nlp z
  .rw[L _ _ B]at z;cases z
 have nlpw:J≠f:=fun e=>by rw[<-e,B]at f2;cases f2
 symm
 nofun
 symm
 refine gW (by intro z;cases z) ?_
 symm
 exists Y,_,rfl,.inl qa4,rfl,by simp[lR]
 rw[if_neg RA,EH]
 symm
 refine MZ Mo ?_
 symm
 nofun
 symm
 nofun
 symm
 rename_i l5 H5 f5 s5 h5
 with_reducible refine kM (fun S H'=>ah H4 H'/\∃Z v7,H4 Z=χ/\H' Z=ψ (.lst ((D.map bQ).map V.str))/\S=[ψ (.ref d),ψ (.ref J),ψ (.ref f),ψ (.ref Y),ψ (.str (d6 s)),ψ (.int g),ψ (.ref Z),v7,none,none,none,none,none]) (fun F hF=>?_) ?_
 .symm
  by_cases hr:D=[]
  .have ex:d6 s="none":=by rw[C.x,if_pos hr]
   refine gG ex ?_
   symm
   refine hF _ _ ⟨s5,l5,none,f5,by rw[h5,hr];rfl,by rw[C.g0 hr];rfl⟩
  .have ex:d6 s=eO D g:=by rw[C.x,if_neg hr]
   have g1:=C.g1
   refine CC (by rw[ex];exact Jy hr) ?_
   obtain⟨ws,hw1,hw2,hw3⟩:=Ds hr C.gn.h0 fun r h=>⟨(C.ok r h).1,(C.ok r h).2.1.1,C.ne r h,fun p B=>⟨((C.ok r h).2.2.2 p B).1,((C.ok r h).2.2.2 p B).2.h0⟩⟩
   obtain⟨cl1,cl2⟩:=HM C.l C.gn C.ok
   have spl:=split_len (eO D g)
   rw[ex]
   nofun
   symm
   refine⟨eO D g," ",rfl,rfl,nofun,by omega,by omega,fun l6 hl6=>?_⟩
   rw[hw1]
   have s6:ah H5 (upd H5 l6 (.lst ((ws++[("of":QH),iT g]).map V.str))):=ah.updN hl6
   have h6:upd H5 l6 (.lst ((ws++[("of":QH),iT g]).map V.str)) l6=ψ (.lst (ws.map V.str++[.str "of",.str (iT g)])):=by rw[ak];simp
   generalize upd H5 l6 (.lst ((ws++[("of":QH),iT g]).map V.str))=H6 at *
   have q6:aD K H6 l6 (ws.map V.str++[.str "of",.str (iT g)]):=aD.of h6
   have h6l:(ws.map V.str++[V.str "of",.str (iT g)]).length=ws.length+2:=⋯
   obtain⟨t1,t2⟩:=Mg (ws.map V.str) (.str "of") (.str (iT g))
   symm
   nofun
   symm
   refine bq q6 t2 ?_
   symm
   refine⟨rfl,g,rfl,C.gn,fun H7 s7=>?_⟩
   have q7:=s7.seq q6
   symm
   nofun
   symm
   rw[h6l]
   refine gW "`" ?_
   symm
   refine bq q7 t1 ?_
   symm
   refine gG rfl ?_
   symm
   refine gW (by intro z;cases z) ?_
   symm
   refine gW "`" ?_
   symm
   rename_i l8 H8 f8 s8 h8
   have h8:H8 l8=ψ (.lst (ws.map V.str)):=by rw[h8,JE]
   refine JT (aD.of h8) (fun z=>by rw[z]at hw2;simp at hw2) (by rw[hw3,ck.2.2.1];omega) ?_
   rw[hw3]
   symm
   have dsp:=A9 hr fun r h=>⟨(C.ok r h).1,(C.ok r h).2.1.1,fun p B=>⟨((C.ok r h).2.2.2 p B).1,((C.ok r h).2.2.2 p B).2.h0⟩⟩
   have hrl:=C.l
   refine⟨_,"; ",rfl,rfl,nofun,by omega,by rw[dsp,QR];omega,fun l9 hl9=>?_⟩
   rw[dsp]
   have s9:ah H8 (upd H8 l9 (.lst ((D.map bQ).map V.str))):=ah.updN hl9
   have h9:upd H8 l9 (.lst ((D.map bQ).map V.str)) l9=ψ (.lst ((D.map bQ).map V.str)):=ak
   generalize upd H8 l9 (.lst ((D.map bQ).map V.str))=H9 at *
   symm
   have s58:=s5.trans (s6.trans (s7.trans s8))
   refine hF _ _ ⟨s58.trans s9,l9,ψ (.ref l6),s58.free hl9,h9,by rw[ex];rfl⟩
 clear h5 s5 f5
 rintro S H5 ⟨s5,Z,v7,fq,hq5,rfl⟩
 generalize d6 s=cx
 nofun
 symm
 refine Dy fun ld H6 f6 s6 h6=>?_
 have o:=s5.free f6
 have N:=s5.trans s6
 have fld:H ld=none:=b04.2.2 _ o
 have nld4:ld∉A:=fun m=>D4.there ld m o
 have δ:ld≠f:=fun e=>by rw[e,WL4.1]at o;cases o
 have ε:ld≠J:=fun e=>by rw[e,τ]at o;cases o
 have ζ:ld≠Y:=fun e=>by rw[e,h4]at o;cases o
 have η:ld≠Z:=fun e=>by rw[e,hq5]at f6;cases f6
 have nlqw:Z≠f:=fun e=>by rw[e,WL4.1]at fq;cases fq
 have O:((s.ps.map (·.1)).map V.str).length=s.ps.length:=⋯
 have hp6:=N _ _ τ
 have h6a:=N _ _ h4
 symm
 with_reducible refine kM (fun S H'=>bo [ld] H6 H'/\H' ld=ψ (.dK (cD (s.ps.map fun p=>(p.1,p.2*g))))/\∃v9 I,S=[ψ (.ref d),ψ (.ref J),ψ (.ref f),ψ (.ref Y),ψ (.str cx),ψ (.int g),ψ (.ref Z),v7,ψ (.ref ld),v9,I,none,none]) (fun F hF=>?_) ?_
 .have qp6:aD K H6 J ((s.ps.map (·.1)).map V.str):=aD.of hp6
  symm
  refine fH (mr (K:=K) (a:=J) (xs:=(s.ps.map (·.1)).map V.str) 9 10) (fun i S H'=>bo [ld] H6 H'/\H' ld=ψ (.dK (cD ((s.ps.take i).map fun p=>(p.1,p.2*g))))/\∃v9 I,S=[ψ (.ref d),ψ (.ref J),ψ (.ref f),ψ (.ref Y),ψ (.str cx),ψ (.int g),ψ (.ref Z),v7,ψ (.ref ld),v9,I,none,none]) ⟨bo.of (ah.refl _),h6,_,_,rfl⟩ (fun i S H' p=>aD.of (p.1.1 _ _ (by simpa using Rb ε) hp6)) ?_ ?_
  .rintro i S Ha Hb hi ⟨ba,α,v9,I,rfl⟩ sb
   rw[O]at hi
   have et:((s.ps.map (·.1)).map V.str).getD i .non=.str (s.ps[i]).1:=by simp[Q3,hi]
   have hmem:=R3 hi
   have pb:=G.d.g.p0 _ hmem
   have hnk:(s.ps[i]).1∉((s.ps.take i).map fun p=>(p.1,p.2*g)).map (·.1):=by
    have:=wC G.nd hi
    have e:s.ps.getD i ("",0)=s.ps[i]:=by simp[Q3,hi]
    rw[e]at this
    rw[QY];exact this
   have α:=sb _ _ α
   have qa:aD K Hb Y ((s.giv::s.spt::s.pot::s.ps.map (·.2)).map V.int):=aD.of (sb _ _ (ba.1 _ _ (by simpa using Rb ζ) h6a))
   have eat:((s.giv::s.spt::s.pot::s.ps.map (·.2)).map V.int)[3+i]?=ψ (.int (s.ps[i]).2):=by
    rw[show 3+i=i+1+1+1 by omega]
    simp[hi]
   rw[et,jF hi]
   have hil:(s.ps.take i).length<=20:=by rw[RJ];omega
   generalize s.ps[i]=p at *
   generalize s.ps.take i=don at *
   show vk _ _ _ _ _ _
   symm
   rw[show(3+(i:Int))=((3+i:Nat):Int) by omega]
   refine bq qa (ar eat) ?_
   symm
   refine zD α (by rw[cj,QR,hsz];omega) ?_
   rw[Ab hnk]
   refine⟨(ba.trans (bo.of sb)).trans (bo.upd α "~" ⋯),?_,_,_,rfl⟩
   rw[ak]
   simp
  .rintro S Hc ⟨bc,hdc,v9,I,rfl⟩
   rw[O,TX]at hdc
   exact hF _ _ ⟨bc,hdc,v9,I,rfl⟩
 rintro S H7 ⟨b7,hd7,v9,I,rfl⟩
 have hpg:((s.ps.map fun p=>(p.1,p.2*g)).map (·.1))=s.ps.map (·.1):=by rw[QY];rfl
 have φ:∀t∈ts,∀x y w,H4 t=ψ (.tup [x,y,.ref w])->w≠f/\w≠ld:=fun t u x y w e=>by
  refine⟨(own4 t u x y w e).1,fun e2=>?_⟩
  obtain⟨r',_,w',M,z2⟩:=WL4.tup t u
  rw[M]at e
  injection e with e
  injection e with e
  simp at e
  rw[e.2.2,e2,o]at z2
  cases z2
 have WL6:=WL4.same N
 have θ:∀t∈ts,∀x y w,H6 t=ψ (.tup [x,y,.ref w])->w≠f/\w≠ld:=fun t u x y w e=>by
  obtain⟨r',_,w',M,_⟩:=WL4.tup t u
  rw[N _ _ M]at e
  exact φ t u x y w (by rw[M];exact e)
 have WL7:bG H7 f ts (s.cs.map (bM s)):=WL6.but b7 (by simpa using Rb δ) fun t u x y w e=>by simpa using(θ t u x y w e).2
 have own7:∀t∈ts,∀x y w,H7 t=ψ (.tup [x,y,.ref w])->w≠f/\w≠ld:=fun t u x y w e=>by
  obtain⟨r',_,w',M,_⟩:=WL6.tup t u
  rw[b7.2.1 _ _ M]at e
  exact θ t u x y w (by rw[M];exact e)
 have hq7:=b7.1 _ _ (by simpa using Rb η) (s6 _ _ hq5)
 nofun
 symm
 refine⟨rfl,Z,f,ld,g,D,_,W',_,b,ts,rfl,hq7,nlqw,Rb η,Rb δ,WL7,G.d.wr,by rw[QY];exact G.nd2,own7,hd7,by rw[hpg];exact G.nd,by rw[QR];exact hv,C.l,fun r hr=>(C.ok r hr).2.2.2,C.clo,fun H8 ts8 b8 WL8 hd8=>?_⟩
 have β:bo [f,ld] H4 H8:=((bo.of N).trans (b7.mono ⋯)).trans b8
 have D8:cA K H8 d A (aC s):=D4.but β fun a ha m=>by
  rcases QW.mp m with e|m
  .exact nlw4 (by rw[<-e];exact ha)
  .exact nld4 (by rw[<-Rv.mp m];exact ha)
 have ω:=β.1 _ _ (by simp[nlpw,Rb ε]) τ
 have h8a:=β.1 _ _ (by simp[nlaw,Rb ζ]) h4
 rw[C.w]at WL8
 have b08:bo fp H H8:=b04.ext β (by simp[f2,fld])
 symm
 nofun
 symm
 refine⟨rfl,d,J,A,aC s,n,_,rfl,D8,G',ν,ω,fun z hz=>by rw[T];exact hz,by rw[QR];exact hv,fun lb H9 f9 s9 h9=>?_⟩
 have ev':(s.ps.map (·.1)).map (vP (aC s).ps)=(aC s).ps.map (·.2):=by
  rw[<-T,QY]
  exact RT fun p B=>nV G'.nd B
 rw[ev']at h9
 have qa9:aD K H9 Y ((s.giv::s.spt::s.pot::s.ps.map (·.2)).map V.int):=aD.of (s9 _ _ h8a)
 have qb9:aD K H9 lb (((aC s).giv::(aC s).spt::(aC s).pot::(aC s).ps.map (·.2)).map V.int):=aD.of h9
 symm
 nofun
 symm
 refine gW (by intro z;cases z) ?_
 symm
 refine bq qb9 (ar (j:=0) rfl) ?_
 symm
 refine bq qa9 (ar (j:=0) rfl) ?_
 symm
 refine gG C.giv ?_
 symm
 refine bq qb9 (ar (j:=1) rfl) ?_
 symm
 refine bq qa9 (ar (j:=1) rfl) ?_
 symm
 refine gG C.spt ?_
 symm
 nofun
 symm
 rename_i l10 H10 f10 s10 h10
 have e10:=Bk ((aC s).giv::(aC s).spt::(aC s).pot::(aC s).ps.map (·.2)) 3
 have h10:H10 l10=ψ (.lst (((aC s).ps.map (·.2)).map V.int)):=by
  rw[h10]
  exact congrArg (fun x=>some (HO.lst x)) e10
 have P:=s9.trans s10
 have hp10:=P _ _ ω
 have hd10:=P _ _ hd8
 have ι:aD K H10 J ((s.ps.map (·.1)).map V.str):=aD.of hp10
 have ndl:(b.map (·.1)).Nodup:=by rw[ρ];exact G.nd
 have g1:=C.g1
 have gH:g<j7:=Ug C.gn.h1 nofun
 try refine br ι ?_
 refine bx (bR (K:=K) (xs:=(s.ps.map (·.1)).map V.str) 0) (fun j=>[ψ (((s.ps.map (·.1)).map V.str).getD j .non),ψ (.ref ld),ψ (.int g)]) (by rintro j σ' (rfl|⟨k,rfl⟩)<;>rfl) (fun H' s'=>s'.seq ι) (by rw[O];exact QV (show _<=1000 by omega) aO) (fun j=>.int (vP b (s.ps.getD j ("",0)).1/g)) ?_ ?_
 .intro j hj H' F s' kk
  rw[O]at hj
  have es:((s.ps.map (·.1)).map V.str).getD j .non=.str (s.ps.getD j ("",0)).1:=by simp[Q3,hj]
  rw[es]
  have hm:(s.ps.getD j ("",0)).1∈b.map (·.1):=by rw[ρ];exact QO.mpr ⟨_,getD_mem _ hj,rfl⟩
  symm
  refine wK (s' _ _ hd10) (DS ndl hm) ?_
  symm
  try refine DP "`" gH ?_
  exact kk H' (ah.refl _)
 intro l11 H11 f11 s11 h11
 have e11:(Q1 s.ps.length).map (fun j=>V.int (vP b (s.ps.getD j ("",0)).1/g))=((aC s).ps.map (·.2)).map V.int:=by
  rw[aM (fun p:QH×Int=>V.int (vP b p.1/g)) ("",0) s.ps]
  have:(aC s).ps.map (·.2)=(s.ps.map (·.1)).map fun z=>vP b z/g:=by
   rw[<-ρ,QY,<-C.p,QY]
   refine RT fun p B=>?_
   show p.2/g=vP b p.1/g
   rw[nV ndl B]
  rw[this,QY,QY]
  rfl
 rw[O,e11]at h11
 refine DB (aD.of (s11 _ _ h10)) (aD.of h11) ?_
 symm
 refine gG rfl ?_
 symm
 have κ:=P.trans s11
 have D11:=D8.same κ
 obtain⟨dx',c',fpc',hd',ch',ndc',efp'⟩:=id D11
 refine bC hd' (lk _) ?_
 symm
 obtain⟨e,tx⟩:=d8 (s:=aC s) (w:="works") nofun
 exists rfl,d,_,A,aC s,rfl,D11,G'.d,tx
 rw[e.trans (pY (aC s)).2.1]
 intro H12 s12
 symm
 refine⟨rfl,_,rfl,G'.d.wr,fun lw2 ts2 H13 f13 s13 WL13 _=>?_⟩
 have R:=κ.trans (s12.trans s13)
 have WL8':=WL8.same R
 symm
 refine L2.IT WL13.dat WL8'.dat (vg G'.d.wr.asc) "^" ?_
 have qb13:=(s10.trans (s11.trans (s12.trans s13))).seq qb9
 symm
 rename_i l14 H14 f14 s14 h14
 have h14:H14 l14=ψ (.lst (((aC s).ps.map (·.2)).map V.int)):=by
  rw[h14]
  exact congrArg (fun x=>some (HO.lst x)) e10
 refine⟨rfl,f,J,l14,ts8,aC s,rfl,WL8'.same s14,by rw[T];exact s14 _ _ (R _ _ ω),h14,hv',C.td,fun H15 s15=>?_⟩
 have μ:=R.trans (s14.trans s15)
 exact q H15 A (D8.same μ) (b08.trans (bo.of μ)) w04
theorem Ac:∀vs H Q E,fY K vs H Q E->pC K {nx:=fun _ H'=>Q .non H',rt:=Q} (start ["desk","people","given","numbers"] vs) H:=by
 rintro vs H Q E ⟨_,d,w,y,s,n,rfl,DA,G,c,e,q⟩
 have A:=size_eq
 have B:=G.d.g.v20
 have f:=G.co
 unfold pC
 nofun
 symm
 refine⟨rfl,d,w,y,s,n,_,rfl,DA,G,c,e,fun z C=>C,by rw[QR];exact B,fun D I X J l=>?_⟩
 have L:(s.ps.map (·.1)).map (vP s.ps)=s.ps.map (·.2):=by
  rw[QY]
  exact RT fun p e=>nV G.nd e
 rw[L]at l
 have M:(s.giv::s.spt::s.pot::s.ps.map (·.2)).length<=23:=by simp;omega
 have a:(s.spt::s.pot::s.ps.map (·.2)).sum=s.giv:=by
  rw[<-f]
  simp[d0]
  omega
 have h:aD K I D ((s.giv::s.spt::s.pot::s.ps.map (·.2)).map V.int):=aD.of l
 symm
 nofun
 symm
 try refine br h ?_
 refine cG (bR (K:=K) (xs:=(s.giv::s.spt::s.pot::s.ps.map (·.2)).map V.int) 0) (fun j=>[ψ (((s.giv::s.spt::s.pot::s.ps.map (·.2)).map V.int).getD j .non)]) (by rintro j N (rfl|⟨k,rfl⟩)<;>rfl) (fun H' m=>m.seq h) (by rw[QR];exact QV (show _<=1000 by omega) aO) (fun j=>false) (fun j=>.non) ?_ ?_ ?_
 .intro j b H' F m O
  have b:j<(s.giv::s.spt::s.pot::s.ps.map (·.2)).length:=by simpa using b
  have es:((s.giv::s.spt::s.pot::s.ps.map (·.2)).map V.int).getD j .non=.int ((s.giv::s.spt::s.pot::s.ps.map (·.2)).getD j 0):=by
   rw[Rl,RU,QZ b,Rl,QZ b]
   rfl
  rw[es]
  symm
  exact O H' (ah.refl _)
 .intro j b P
  cases P
 intro R S Y o r
 have r:S R=ψ (.lst (([]:⇑Int).map V.int)):=by rw[r];simp
 symm
 rename_i Z H3 f3 t h3
 refine gG rfl ?_
 symm
 have T:=(o.trans t).seq h
 refine bq T (ar (j:=0) rfl) ?_
 symm
 refine wL rfl ?_
 symm
 rename_i u v f4 U i
 have W:=Bk (s.giv::s.spt::s.pot::s.ps.map (·.2)) 1
 have i:v u=ψ (.lst ((s.spt::s.pot::s.ps.map (·.2)).map V.int)):=by
  rw[i]
  exact congrArg (fun x=>some (HO.lst x)) W
 exists u,_,rfl,aD.of i
 rw[a]
 symm
 rw[decide_eq_true rfl]
 exact q v (J.trans (o.trans (t.trans U)))
theorem join_ones:∀(cs:⇑Nat),(Q7 ("":QH) (cs.map fun c=>⟨#[c]⟩)).cps.toList=cs:=by
 rw[Ka]
 intro cs
 induction cs with
 |nil=>rfl
 |cons a r d=>
  cases r with
  |nil=>rfl
  |cons b t=>
   show(((⟨#[a]⟩:QH)++(⟨#[]⟩:QH)++Q7 ⟨#[]⟩ ((b::t).map fun c=>(⟨#[c]⟩:QH))).cps).toList=_
   rw[TN,TN,VC,VC,d]
   simp
theorem zX:∀vs H Q E,cq K vs H Q E->qP K {nx:=fun _ H'=>Q .non H',rt:=Q} (start ["cell","k","letters","xs","word","at"] vs) H:=by
 rintro vs H Q E ⟨_,c,k,rfl,hk,q⟩
 have hL:("abcdefghijklmnopqrstuvwxyz":QH).length=26:=nofun
 have D:=NC
 unfold qP
 nofun
 symm
 generalize ("abcdefghijklmnopqrstuvwxyz":QH)=d at *
 have h:∀(x:Int)(H':Hp)(G:VK),G (.str ⟨#[j8 x]⟩) H'->Dt (.str d) (.int (x%26)) H' G:=fun x H' G z=>⟨d,_,j8 x,rfl,rfl,by rw[size_eq];omega,D x,z⟩
 nofun
 symm
 refine⟨rfl,c,9,rfl,by decide,fun l Y f1 Z h1=>?_⟩
 have q1:aD K Y l ((dX c 9).map V.int):=aD.of h1
 symm
 nofun
 symm
 rename_i p2 H2 f2 s2 U
 have e2:kX ((dX c 9).map V.int) none (ψ 7)=((Q1 7).map (cp c)).map V.int:=by
  have:kX ((dX c 9).map V.int) none (ψ ((7:Nat):Int))=((dX c 9).take 7).map V.int:=IM _ _
  refine Ux this ?_
  congr 1
 rw[e2]at U
 have q2:aD K H2 p2 (((Q1 7).map (cp c)).map V.int):=aD.of U
 refine bx (bR (K:=K) (xs:=((Q1 7).map (cp c)).map V.int) 0) (fun j=>[ψ ((((Q1 7).map (cp c)).map V.int).getD j .non),ψ (.str d)]) (by rintro j α (rfl|⟨k,rfl⟩)<;>rfl) (fun H' s=>s.seq q2) (by exact QV (show 7<=1000 by decide) aO) (fun j=>.str ⟨#[j8 (cp c j)]⟩) ?_ ?_
 .intro j I H' F s kk
  have I:j<7:=by simpa using I
  have et:(((Q1 7).map (cp c)).map V.int).getD j .non=.int (cp c j):=by simp[Q3,I]
  rw[et]
  symm
  exact h _ _ _ (kk H' (ah.refl _))
 intro l3 J f3 s3 W
 have A:(Q1 (((Q1 7).map (cp c)).map V.int).length).map (fun j=>V.str ⟨#[j8 (cp c j)]⟩)=((wl c).map fun c=>(⟨#[c]⟩:QH)).map V.str:=by
  rw[QR,QR,Vf]
  unfold wl
  rw[QY,QY]
  rfl
 rw[A]at W
 have u:=s2.trans s3
 have o:aD K J l ((dX c 9).map V.int):=u.seq q1
 symm
 have v:∀x∈(wl c).map fun c=>(⟨#[c]⟩:QH),x.length<=1:=fun x hx=>by
  obtain⟨j,_,rfl⟩:=QO.mp hx
  exact Q2 1
 have L:("":QH).length=0:=nofun
 refine rj 1 (aD.of W) v (by rw[QR,jo,L];decide) ?_
 have hw:=join_ones (wl c)
 have M:=bw (Q7 ("":QH) ((wl c).map fun c=>(⟨#[c]⟩:QH)))
 rw[hw,jo]at M
 generalize Q7 ("":QH) ((wl c).map fun c=>(⟨#[c]⟩:QH))=e at *
 have N:ux ((dX c 9).map V.int) 7=ψ (.int (cp c 7)):=ar (j:=7) (gB "^")
 have B:ux ((dX c 9).map V.int) 8=ψ (.int (cp c 8)):=ar (j:=8) (gB "^")
 have O:=Z.trans u
 have p:∀z:QH,z.cps.toList=iO c k->Q (.str z) J:=fun z L=>by
  have:z=cX c k:=ju.mpr (by rw[L,gQ])
  rw[this]
  exact q J O
 have P:(k:Int)%8=((k%8:Nat):Int):=by omega
 have w:(k:Int)/8=((k/8:Nat):Int):=by omega
 symm
 nofun
 symm
 refine bq o B ?_
 symm
 refine cC (fun C=>?_) (fun C=>?_)
 .symm
  refine bq o N ?_
  symm
  refine h _ _ _ ?_
  symm
  rw[P,w]
  have g:=vp (z:=e) (b:=k%8) "`"
  have f:=bw (RP e none (ψ ((k%8:Nat):Int)))
  rw[g,RJ,hw,jo]at f
  refine gp (by rw[AA];omega) ?_
  refine p _ ?_
  rw[c8,g,hw]
  unfold iO
  rw[if_pos C]
  rfl
 symm
 nofun
 symm
 refine bq o B ?_
 symm
 refine cC (fun r=>?_) (fun r=>?_)
 .symm
  refine bq o N ?_
  symm
  refine h _ _ _ ?_
  have e7:(7:Int)-(k:Int)%8=((7-k%8:Nat):Int):=by omega
  rw[e7,w]
  have g:=vi (z:=e) (a:=7-k%8) "`"
  have f:=bw (RP e (ψ ((7-k%8:Nat):Int)) none)
  rw[g,SX,hw,jo]at f
  refine gp (by rw[AA];omega) ?_
  refine p _ ?_
  rw[c8,g,hw]
  unfold iO
  rw[if_neg C,if_pos r]
 symm
 nofun
 symm
 refine bq o B ?_
 symm
 obtain⟨n,hn,β⟩:∃n:Nat,cp c 8/4%8=(n:Int)/\n<8:=⟨(cp c 8/4%8).toNat,by omega,by omega⟩
 have A:Ls c=(wl c).take n:=by unfold Ls;rw[hn];rfl
 rw[hn]
 have g:=vp (z:=e) (b:=n) "`"
 have f:=bw (RP e none (ψ (n:Int)))
 rw[g,hw,<-A]at f
 rw[hw,<-A]at g
 generalize RP e none (ψ (n:Int))=i at *
 have γ:=D9 c
 nofun
 symm
 refine bq o B ?_
 symm
 have R:cp c 8/32%((i.length:Int)+1)=(Jm c:Int):=by
  unfold Jm
  rw[f]
  have:=VX (cp c 8/32) (show((i.length:Int)+1)≠0 by omega)
  omega
 have m:Jm c<=i.length:=by
  have:=WT (cp c 8/32) (show 0<(i.length:Int)+1 by omega)
  omega
 rw[R]
 symm
 refine bq o N ?_
 symm
 refine h _ _ _ ?_
 have ha:=vp (z:=i) (b:=Jm c) m
 have X:=vi (z:=i) (a:=Jm c) m
 have S:=bw (RP i none (ψ (Jm c:Int)))
 have T:=bw (RP i (ψ (Jm c:Int)) none)
 rw[ha,RJ,g]at S
 rw[X,SX,g]at T
 refine gp (by rw[AA];omega) ?_
 have t:=bw (RP i none (ψ (Jm c:Int))++⟨#[j8 (cp c 7+(k:Int))]⟩)
 rw[c8,RN,ha,g,RJ]at t
 have y:(⟨#[j8 (cp c 7+(k:Int))]⟩:QH).cps.toList=[j8 (cp c 7+(k:Int))]:=rfl
 rw[y]at t
 simp only[TH]at t
 symm
 refine p _ ?_
 rw[c8,c8,ha,X,g,y]
 unfold iO
 rw[if_neg C,if_neg r]
 simp
theorem uL:∀vs H Q E,eE K vs H Q E->kl K {nx:=fun _ H'=>Q .non H',rt:=Q} (start ["x","given"] vs) H:=by
 rintro vs H Q E ⟨_,x,g,rfl,b,a,q⟩
 unfold kl
 nofun
 symm
 refine cC (fun _=>?_) fun _=>?_
 .symm
  refine q _ _ ?_ (ah.refl _)
  have:0<=g*(x/3%40):=UL a "`"
  omega
 symm
 nofun
 symm
 refine cC (fun _=>?_) fun _=>?_
 .symm
  exact q _ _ "`" (ah.refl _)
 symm
 refine q _ _ ?_ (ah.refl _)
 rw[show((10:Int) ^ VO 9)=1000000000 by decide]
 omega
theorem fresh_ne{c:Int}{ps:⇑QH}(h:ps.length<9):((Q1 9).map (cX c)).filter (fun z=>!decide (z∈ps))≠[]:=fun e=>by
 have d:∀z∈(Q1 9).map (cX c),z∈ps:=fun z f=>by
  cases hd:decide (z∈ps)with
  |true=>exact of_decide_eq_true hd
  |false=>
   have:z∈((Q1 9).map (cX c)).filter (fun z=>!decide (z∈ps)):=Ra.mpr ⟨f,by simp only[hd];rfl⟩
   rw[e]at this
   cases this
 have g:((Q1 9).map (cX c)).Nodup:=by
  have h:(Q1 9).Pairwise (fun a b=>cX c a≠cX c b):=acy (fun {a b} ha hb hab h=>hab (FX (Uy (R1.mp ha) "^") (Uy (R1.mp hb) "^") h)) (ZS (n:=9))
  exact Xh _ (fun a b h=>h) h
 have:=gq g d
 simp at this
 omega
theorem F2(xs:⇑QH)(f:QH->Bool):((Q1 (xs.map V.str).length).filter fun j=>f (xs.getD j "")).map (fun j=>V.str (xs.getD j ""))=(xs.filter f).map V.str:=by
 rw[QR,<-de f "" xs,QY]
 rfl
theorem HB{zs:⇑QH}{m x:Int}(a:0<m)(hm:m<=zs.length):∃z,ux (zs.map V.str) (x%m)=ψ (.str z)/\z∈zs.take m.toNat:=by
 have d:=VX x (show m≠0 by omega)
 have e:=WT x a
 obtain⟨j,b⟩:∃j:Nat,x%m=(j:Int):=⟨(x%m).toNat,by omega⟩
 have c:j<zs.length:=by omega
 exact⟨zs[j],by rw[b];exact ar (by rw[RU,QZ c];rfl),List.mem_take_iff_getElem.mpr ⟨j,by omega,rfl⟩⟩
theorem Hy{zs:⇑QH}{x:Int}(h:zs≠[]):∃z,ux (zs.map V.str) (x%(zs.length:Int))=ψ (.str z)/\z∈zs:=by
 have:=SF.mpr h
 obtain⟨z,a,b⟩:=HB (zs:=zs) (m:=zs.length) (x:=x) "`" (Sl _)
 exact⟨z,a,UA b⟩
theorem Lg{f:St}{H:Hp}{j:Bool->Hp->Prop}{lp:QI}{zs:⇑QH}{l n:Int}{i:Nat}(s:f[7]?=ψ (ψ (.int l)))(m:f[i]?=ψ (ψ (.ref lp)))(o:H lp=ψ (.lst (zs.map V.str)))(t:∀z∈zs,aU z)(k:∀b H',ah H H'->(b=ω->zs.length<6)/\(b=ξ->zs≠[])->j b H'):kr (tE (ay (az oLt (aa 7) (tC (.int n)))) (ay (az (qL K false) (aa i) (dy ao)))) (ay (az oLt (dB (c9 K) (ae (aa i) ao)) (tC (.int 6)))) f H j:=by
 have c:∀H',ah H H'->ay (az oLt (dB (c9 K) (ae (aa i) ao)) (tC (.int 6))) f H' j:=fun H' u=>by
  symm
  refine HQ m ?_
  symm
  rw[QR]
  refine k _ H' u ⟨fun h=>?_,fun h e=>?_⟩
  .have:=of_decide_eq_true h
   omega
  .have:=of_decide_eq_false h
   rw[e]at this
   simp at this
 symm
 refine HQ s ?_
 symm
 refine cC (fun _=>xk (c H (ah.refl _))) fun _=>?_
 symm
 refine HQ m ?_
 symm
 rename_i v p w g q
 by_cases e:zs=[]
 .refine Ln (d:=.list []) (.lst (aD.of (by rw[g _ _ o,e];rfl)) .nil) (.lst (aD.of q) .nil) "^" ?_
  exact⟨_,rfl,xk (c p g)⟩
 .refine NP (d:=.list (zs.map Uc)) (e:=.list []) (n:=1) (.lst (g.seq (aD.of o)) (i3 _)) (.lst (aD.of q) .nil) (ug _ t) (ue fun d hd=>nomatch hd) "^" ?_
  rw[show Vu (.list (zs.map Uc)) (.list [])=ξ by
   cases zs with
   |nil=>exact absurd rfl e
   |cons a r=>simp[Vu,Spec.sameAll]]
  symm
  exact k _ p g ⟨(fun h=>by cases h),fun _=>e⟩
theorem Eh{f:St}{H:Hp}{Q:VK}{lp:QI}{cell c:Int}{zs:⇑QH}{m:Nat}{r:TE}(A:cE [none,ψ 1] f=[none,ψ (.int cell)])(B:cE [none,ψ m] f=[none,ψ (.ref lp)])(g:∀(x:V)(H':Hp)(s:VK),s (.int c) H'->r [ψ x,ψ (.int cell)] H' s)(C:aD K H lp (zs.map V.str))(D:zs.length<9)
  (k:∀(h:⇑QH) l H',ah H H'->h≠[]->(∀z∈h,bE z=ω/\z∉zs)->H' l=ψ (.lst (h.map V.str))->Q (.ref l) H'):
  bp [none,ψ m] (bL K (bp [none,ψ 1] (sN (ae (tC (.int 9)) ao)) (af 0) cM (aJ (cq K) [] E0 (ae r (ae (aa 0) ao))))) (af 0) (ay (az (tV K true) (aa 0) (aa 1))) (aa 0) f H Q:=by
 symm
 refine bx (AZ (lo:=0) (n:=9) 0) (fun j=>[ψ (.int (0+(j:Int))),ψ (.int cell)]) (by rintro j i (rfl|⟨k,rfl⟩);(· rw[A];rfl);rfl) (fun _ _=>trivial) (QV (show 9<=1000 by decide) aO) (fun j=>.str (cX c j)) ?_ ?_
 .intro j a H' F b d
  rw[V9]
  symm
  refine g _ _ _ ?_
  symm
  exact⟨rfl,c,j,rfl,by omega,d⟩
 intro t u N v o
 have o:u t=ψ (.lst (((Q1 9).map (cX c)).map V.str)):=by rw[o,QY];rfl
 have p:=fresh_ne (c:=c) D
 have e:∀z∈((Q1 9).map (cX c)).filter (fun z=>!decide (z∈zs)),bE z=ω/\z∉zs:=fun z E=>by
  obtain⟨G,I⟩:=Ra.mp E
  obtain⟨j,_,rfl⟩:=QO.mp G
  exact⟨vW _ _,by simpa using I⟩
 have q:((Q1 9).map (cX c)).length=9:=⋯
 generalize (Q1 9).map (cX c)=ns at *
 have w:aD K u t (ns.map V.str):=aD.of o
 have es:∀{j},j<(ns.map V.str).length->(ns.map V.str).getD j .non=.str (ns.getD j ""):=fun a=>map_getD V.str "" .non (by simpa using a)
 symm
 try refine br w ?_
 refine cG (bR (K:=K) (xs:=ns.map V.str) 0) (fun j=>[ψ ((ns.map V.str).getD j .non),ψ (.ref lp)]) (by rintro j i (rfl|⟨k,rfl⟩);(· rw[B];rfl);rfl) (fun H' b=>b.seq w) (by rw[QR,q];exact QV (show 9<=1000 by decide) aO) (fun j=>!decide (ns.getD j ""∈zs)) (fun j=>.str (ns.getD j "")) ?_ ?_ ?_
 .intro j a H' F b d
  rw[es a]
  symm
  refine zd ((v.trans b).seq C) ?_
  symm
  exact d H' (ah.refl _)
 .intro j a O H' F b d
  rw[es a]
  symm
  exact d H' (ah.refl _)
 intro J L P M y
 rw[F2 ns fun z=>!decide (z∈zs)]at y
 exact k _ J L (v.trans M) p e y
theorem A3:∀vs H Q E,lA K vs H Q E->sv K {nx:=fun _ H'=>Q .non H',rt:=Q} (start ["xs","cell","people","plans","given","name","work","way","fresh"] vs) H:=by
 rintro vs H Q E ⟨_,lx,lp,lq,cell,one,s,n,rfl,hx,hp,hq,G,q⟩
 have α:=size_eq
 have hv:=G.d.g.v20
 have hn:=G.d.g.n12
 have β:=G.d.giv.1
 have γ:((s.ps.map (·.1)).map V.str).length=s.ps.length:=⋯
 have δ:((s.cs.map (·.1)).map V.str).length=s.cs.length:=⋯
 have L:∀j,j<5->ux ((dX one 5).map V.int) ((j:Nat):Int)=ψ (.int (cp one j)):=fun j hj=>ar (gB hj)
 have gb:∀j,0<=cp one j:=fun j=>(DG one j).1
 have b0:=gb 0
 have b1:=gb 1
 have b2:=gb 2
 have b3:=gb 3
 have qx:aD K H lx ((dX one 5).map V.int):=aD.of hx
 have qp:aD K H lp ((s.ps.map (·.1)).map V.str):=aD.of hp
 have qq:aD K H lq ((s.cs.map (·.1)).map V.str):=aD.of hq
 have M:∀{zs:⇑QH}{y:QH}{m x:Int},m=max 1 (zs.length:Int)->∃z,ux ((zs++[y]).map V.str) (x%m)=ψ (.str z)/\(zs≠[]->z∈zs):=fun {zs y m x} em=>by
  obtain⟨z,h1,h2⟩:=HB (zs:=zs++[y]) (m:=m) (x:=x) "`" "%"
  refine⟨z,h1,fun N=>?_⟩
  have:0<zs.length:=SF.mpr N
  rwa [show m.toNat=zs.length by omega,List.take_left]at h2
 unfold sv
 nofun
 symm
 refine⟨rfl,cell,0,rfl,by decide,fun H1 s1=>?_⟩
 symm
 rename_i l2 H2 f2 s2 h2
 have O:=s1.trans s2
 refine C8 (O _ _ hp) h2 (by rw[γ,α];simp;omega) fun l3 H3 f3 s3 h3=>?_
 have h3:H3 l3=ψ (.lst ((s.ps.map (·.1)++[cX cell 0]).map V.str)):=by rw[h3];simp
 have A:=O.trans s3
 symm
 refine bq (A.seq qx) (L 1 "^") ?_
 have η:=A.seq qp
 symm
 rw[γ]
 obtain⟨z,ez,mz⟩:=M (zs:=s.ps.map (·.1)) (y:=cX cell 0) (x:=cp one 1) (m:=max 1 (s.ps.length:Int)) ⋯
 refine bq (aD.of h3) ez ?_
 symm
 nofun
 symm
 refine⟨rfl,cell/3,0,rfl,by decide,fun H4 s4=>?_⟩
 symm
 rename_i l5 H5 f5 s5 h5
 have P:=A.trans (s4.trans s5)
 refine C8 (P _ _ hq) h5 (by rw[δ,α];simp;omega) fun l6 H6 f6 s6 h6=>?_
 have h6:H6 l6=ψ (.lst ((s.cs.map (·.1)++[cX (cell/3) 0]).map V.str)):=by rw[h6];simp
 have B:=P.trans s6
 symm
 refine bq (B.seq qx) (L 2 "^") ?_
 have θ:=B.seq qq
 symm
 rw[δ]
 obtain⟨w,ew,mw⟩:=M (zs:=s.cs.map (·.1)) (y:=cX (cell/3) 0) (x:=cp one 2) (m:=max 1 (s.cs.length:Int)) ⋯
 refine bq (aD.of h6) ew ?_
 symm
 have a:=B
 have f:=a.seq qx
 have R:=a.seq qp
 have S:=a.seq qq
 clear h2 h3 h5 h6 s4 s5 s6 P B s1 s2 s3 O A η θ
 generalize H6=H7 at *
 nofun
 symm
 refine bq f (L 0 "^") ?_
 symm
 have y0:0<=cp one 0%12:=by omega
 generalize cp one 0%12=way at *
 nofun
 refine Iw _ (fun QB k=>Lg rfl rfl (a _ _ hp) (fun x hx=>?_) k) ?_
 .obtain⟨p,i,rfl⟩:=QO.mp hx
  exact fi (G.d.nv p i)
 rw[QR]
 intro b Hb r ⟨T,U⟩
 cases b with
 |true=>
  refine xk ?_
  have ι:=T rfl
  nofun
  with_reducible refine yi ?_
  refine Eh (cell:=cell) (c:=cell) (zs:=s.ps.map (·.1)) rfl rfl (fun _ _ _ k=>by symm;exact k) (r.seq R) "%" fun W l o C t u F=>?_
  have q9:aD K o l (W.map V.str):=aD.of F
  have h:=r.trans C
  have κ:=SF.mpr t
  have X:(W.map V.str).length=W.length:=⋯
  symm
  refine bq (h.seq f) (L 1 "^") ?_
  symm
  rw[X]
  obtain⟨y,ey,my⟩:=Hy (x:=cp one 1) t
  refine bq q9 ey ?_
  symm
  rename_i μ ε ν I ξ
  obtain⟨y1,y2⟩:=u _ my
  exact q (.enrol y) μ ε ((a.trans h).free ν) (a.trans (h.trans I)) (iy y1) (by rw[aL.due,if_neg (by rw[y1];simp),if_neg y2,if_neg "`"]) ξ
 |false=>
  have N:=U rfl
  have hz:=mz N
  have nz:bE z=ω:=by
   obtain⟨p,i,e⟩:=QO.mp hz
   rw[<-e];exact G.d.nv p i
  refine Cg ?_
  have a:=a.trans r
  have f:=r.seq f
  have R:=r.seq R
  have S:=r.seq S
  have ρ:=a _ _ hq
  clear r
  generalize Hb=H7 at *
  symm
  nofun
  symm
  refine cC (fun _=>?_) fun _=>?_
  .symm
   rename_i l8 Y f8 J h8
   exact q (.leave z) l8 Y (a.free f8) (a.trans J) (iy nz) (by rw[aL.due,if_pos hz]) h8
  symm
  nofun
  symm
  refine cC (fun _=>?_) fun _=>?_
  .symm
   refine bq f (L 3 "^") ?_
   symm
   refine⟨rfl,_,_,rfl,b3,β,fun m Y m0 J=>?_⟩
   symm
   rw[show((10:Int) ^ VO 9)=1000000000 by decide]
   obtain⟨x,ex,x0,x1⟩:∃x,min 1000000000 m=x/\0<=x/\x<=1000000000:=⟨_,rfl,by omega,by omega⟩
   try rw[ex]
   refine Ob "`" "`" ?_
   symm
   rename_i l o f9 C F
   exact q (.give x) l o ((a.trans J).free f9) (a.trans (J.trans C)) ⟨by omega,by omega⟩ (by rw[aL.due,if_neg "`"]) F
  symm
  nofun
  refine Iw _ (fun QB k=>Lg rfl rfl ρ (fun x hx=>?_) k) ?_
  .obtain⟨p,i,rfl⟩:=QO.mp hx
   exact fi (G.d.nc p i)
  rw[QR]
  intro b Hb r ⟨T,U⟩
  cases b with
  |true=>
   refine xk ?_
   have ι:=T rfl
   nofun
   with_reducible refine yi ?_
   refine Eh (cell:=cell) (c:=cell/3) (zs:=s.cs.map (·.1)) rfl rfl (fun _ _ _ k=>by symm;exact k) (r.seq S) "%" fun W l o C t u F=>?_
   have q9:aD K o l (W.map V.str):=aD.of F
   have h:=r.trans C
   have κ:=SF.mpr t
   have X:(W.map V.str).length=W.length:=⋯
   symm
   refine bq (h.seq f) (L 2 "^") ?_
   symm
   rw[X]
   obtain⟨y,ey,my⟩:=Hy (x:=cp one 2) t
   refine bq q9 ey ?_
   symm
   obtain⟨y1,y2⟩:=u _ my
   refine bq (h.seq f) (L 3 "^") ?_
   symm
   refine⟨rfl,_,_,rfl,b3,β,fun m ε m0 I=>?_⟩
   symm
   rw[show((10:Int) ^ VO 9)=1000000000 by decide]
   obtain⟨x,ex,x0,x1⟩:∃x,1+min (1000000000-1) m=x/\1<=x/\x<=1000000000:=⟨_,rfl,by omega,by omega⟩
   try rw[ex]
   refine Ob "`" "`" ?_
   symm
   rename_i σ τ φ s11 h11
   exact q (.propose y x) σ τ ((a.trans (h.trans I)).free φ) (a.trans (h.trans (I.trans s11))) ⟨iy y1,by omega,by omega⟩ (by rw[aL.due,if_neg (by rw[y1];simp),if_neg y2,if_neg "`",if_neg "`"]) h11
  |false=>
   have Z:=mw (U rfl)
   have nw:bE w=ω:=by
    obtain⟨p,i,e⟩:=QO.mp Z
    rw[<-e];exact G.d.nc p i
   refine Cg ?_
   have a:=a.trans r
   have f:=r.seq f
   symm
   nofun
   symm
   refine cC (fun _=>?_) fun _=>?_
   .symm
    rename_i l8 Y f8 J h8
    exact q (.withdraw w) l8 Y (a.free f8) (a.trans J) (iy nw) (by rw[aL.due,if_pos Z]) h8
   symm
   rename_i l8 Y f8 J h8
   refine bq (J.seq f) (L 3 "^") ?_
   symm
   have hc4:cp one 3%4=((0:Nat):Int)\/cp one 3%4=((1:Nat):Int)\/cp one 3%4=((2:Nat):Int)\/cp one 3%4=((3:Nat):Int):=by omega
   have ζ:=a.trans J
   have dw:∀D:aL,D=.want z w\/D=.unwant z w->∀l o,Y l=χ->ah Y o->o l=ψ (.lst (D.row.map V.str))->Q (.ref l) o:=fun D hD l o f9 C F=>q D l o (ζ.free f9) (ζ.trans C) (by rcases hD with rfl|rfl<;>exact⟨iy nz,iy nw⟩) (by rcases hD with rfl|rfl<;>rw[aL.due,if_pos hz,if_pos Z]) F
   obtain⟨D,hD,v,ev,er⟩:∃D:aL,(D=.want z w\/D=.unwant z w)/\∃v,ux ((["want","want","want","unwant"]:⇑QH).map V.str) (cp one 3%4)=ψ (.str v)/\D.row=[v,z,w]:=by
    rcases hc4 with e|e|e|e<;>rw[e]
    .exact⟨_,.inl rfl,_,rfl,rfl⟩
    .exact⟨_,.inl rfl,_,rfl,rfl⟩
    .exact⟨_,.inl rfl,_,rfl,rfl⟩
    .exact⟨_,.inr rfl,_,rfl,rfl⟩
   refine bq (aD.of h8) ev ?_
   symm
   rename_i l o f9 C F
   exact dw D hD l o f9 C (by rw[er];exact F)
structure QE(K:QK)(cl:QH):Prop where
 m:SH K (.ref (aF K cl)) (.ref (aF K "PurseError"))=ψ true
theorem fR.fm(F:fR K){cl:QH}(h:cl="NoName"\/cl="Twice"\/cl="NoVoter"\/cl="NoWork"\/cl="TooMuch"\/cl="Full"\/cl="NoRow"):QE K cl:=by
 rcases h with rfl|rfl|rfl|rfl|rfl|rfl|rfl
 .exact⟨F.mD⟩
 .exact⟨F.oj⟩
 .exact⟨F.mi⟩
 .exact⟨F.mF⟩
 .exact⟨F.kf⟩
 .exact⟨F.oZ⟩
 .exact⟨F.oF⟩
theorem tQ(F:fR K):∀vs H Q E,fB K vs H Q E->j5 K {nx:=fun _ H'=>Q .non H',rt:=Q} (start ["desk","xs","cell","people","works","name","work","row","caught","e"] vs) H:=by
 rintro vs H Q E ⟨_,d,B,T,C,U,s,rows,cell,one,n,rfl,DA,G,W,X,q⟩
 have Y:=size_eq
 have Z:=G.d.g.n12
 have α:=X.rl
 have I:aD K H B ((dX one 5).map V.int):=aD.of W
 have b1:=DG one 1
 have b2:=DG one 2
 unfold j5
 nofun
 symm
 refine bq I (ar (gB (show 1<5 by decide))) ?_
 symm
 generalize cp one 1=p at *
 refine⟨rfl,cell,(p/7%9).toNat,by rw[V3 "`"],by omega,fun H1 J=>?_⟩
 symm
 nofun
 symm
 refine bq (J.seq I) (ar (gB (show 2<5 by decide))) ?_
 symm
 generalize cp one 2=u at *
 refine⟨rfl,cell/3,(u/7%9).toNat,by rw[V3 "`"],by omega,fun L s2=>?_⟩
 symm
 have l:=vW cell (p/7%9).toNat
 have N:=vW (cell/3) (u/7%9).toNat
 generalize cX cell (p/7%9).toNat=z at *
 generalize cX (cell/3) (u/7%9).toNat=w at *
 have lz:=(cy l).2
 have β:=(cy N).2
 have e5:("want ":QH).length=5/\("enrol ":QH).length=6:=nofun
 have f:=J.trans s2
 nofun
 symm
 try refine gp "`" ?_
 symm
 try refine gp (by rw[Ru,ck.2.2.1];omega) ?_
 symm
 try refine gp (by rw[Ru,Ru,ck.2.2.1];omega) ?_
 symm
 have i:∀{D:aL},D.ok->kD s (Q7 " " D.row)=.deed D/\Tx (Q7 " " D.row):=fun {D} ok=>by
  obtain⟨ra,rb,rc,rd⟩:=aL.rowWd ok
  exact⟨aL.acts ok s,iH "`" ra⟩
 have a:=i (D:=.want z w) ⟨iy l,iy N⟩
 rw[show Q7 " " (aL.want z w).row=("want ":QH)++z++" "++w from(Qm (w:="want") nofun).symm]at a
 have b:=i (D:=.enrol z) (iy l)
 rw[show Q7 " " (aL.enrol z).row=("enrol ":QH)++z from(Kf (w:="enrol") nofun).symm]at b
 have X2:=X.same f
 have D2:=DA.same f
 with_reducible refine kM (fun O H'=>ah L H'/\∃row D cl,kD s row=.deed D/\Tx row/\D.due s=ψ cl/\O=[ψ (.ref d),ψ (.ref B),ψ (.int cell),ψ (.ref T),ψ (.ref C),ψ (.str z),ψ (.str w),ψ (.str row),none,none]) (fun G' v=>?_) ?_
 .symm
  refine ko (aD.of X2.hp) ?_
  symm
  refine cC (fun o=>?_) fun o=>?_
  .have qw:aD K L C (rows.map fun r=>V.ref r.t):=aD.of X2.hw
   symm
   try refine br qw ?_
   refine zg X2.hw (fun r hr=>(X2.hr r hr).1) "`" X2.nms fun l3 H3 f3 j P=>?_
   symm
   refine ko (aD.of P) ?_
   symm
   refine cC (fun hw=>?_) fun hw=>?_
   .symm
    try refine gp "`" ?_
    symm
    refine v _ _ ⟨j,_,_,"Twice",b.1,b.2,?_,rfl⟩
    rw[aL.due,if_neg (by rw[l];simp),if_pos o]
   .symm
    refine v _ _ ⟨j,_,_,"NoWork",a.1,a.2,?_,rfl⟩
    rw[aL.due,if_pos o,if_neg hw]
  .symm
   refine v _ _ ⟨ah.refl _,_,_,"NoVoter",a.1,a.2,?_,rfl⟩
   rw[aL.due,if_neg o]
 clear a b
 rintro O H3 ⟨j,row,D,cl,e,tx,k,rfl⟩
 have R:=D2.same j
 obtain⟨dx,c,γ,hd,ch,nd,δ⟩:=id R
 nofun
 symm
 nofun
 show bH (aF K "Desk") "say" (bT K) [] _ _ _ _ _ _
 symm
 refine bC hd (by rw[RQ,show(("say":QH)=="chest")=ξ by decide +kernel];rfl) ?_
 symm
 exists rfl,d,row,U,s,rfl,R,G.d,tx
 rw[e]
 refine⟨(fun h=>by rw[k]at h;cases h),fun y hc A s4=>?_⟩
 have M:=(F.fm (Kt (s:=s) (row:=row) (cl:=y) (by rw[e,NI,hc])))
 refine⟨M.m,fun x S he h1 h2 P=>?_⟩
 have sx:ah A (upd A x (.frz S (.own x))):=ah.updN he
 generalize upd A x (.frz S (.own x))=H5 at *
 symm
 exact q H5 (f.trans (j.trans (s4.trans sx)))
theorem An{c:Prop}[Decidable c]{a:Option QH}{z:QH}(h:(if c then a else some z)=χ):c:=by
 by_cases e:c
 .exact e
 .rw[if_neg e]at h;cases h
def gd:aL->js->⇑QH
 |.leave z,r=>r.zs.filter fun y=>!decide (y=z)
 |.want v n,r=>if r.n=n/\v∉r.zs then r.zs++[v]else r.zs
 |.unwant v n,r=>if r.n=n then r.zs.filter fun y=>!decide (y=v)else r.zs
 |_,r=>r.zs
theorem Py{v m:QH}{r:js}:gd (.want v m) r=if r.n=m/\v∉r.zs then r.zs++[v]else r.zs:=rfl
theorem Qn{v m:QH}{r:js}:gd (.unwant v m) r=if r.n=m then r.zs.filter (fun y=>!decide (y=v))else r.zs:=rfl
def vR(D:aL)(r:js):js:={r with zs:=gd D r}
theorem El{zs:⇑QH}{v:QH}(h:v∉zs):(zs.filter fun y=>!decide (y=v))=zs:=Sd.mpr fun y a=>by
 have:y≠v:=fun e=>h (by rw[<-e];exact a)
 simpa using this
theorem M4{H:Hp}{Q:VK}{l:QI}{zs:⇑QH}{v:QH}(hw:H l=ψ (.lst (zs.map V.str)))(a:zs.Nodup)(b:∀y∈zs,aU y)(hz:v∈zs)(q:Q .non (L2.upd H l (.lst ((zs.filter fun y=>!decide (y=v)).map V.str)))):mB K (.ref l) [.str v] H Q:=by
 obtain⟨h,c,g,d⟩:=sC a hz
 exists l,_,.str v,zs.map Uc,.str v,h,rfl,rfl,hw,i3 _,.str _,(ug _ b).mono "^",vy (b v hz),by rw[RU,c];rfl,fun m hm e=>?_
 .rw[RU]at e
  cases f:zs[m]? with
  |none=>rw[f]at e;cases e
  |some y=>
   rw[f]at e
   have e:Uc y=.str v:=RE e
   injection e with e
   exact d m hm (by rw[f,e])
 .rw[<-eX,erase_filter a c]
  exact q
section
variable {lt:QI}{w0 w:QH}{r:⇑V}{t rest:TS}{c:TT}{D:Ends}{σ:St}{H:Hp}
theorem EG(q:aD K H lt (.str w0::r))(a:w0≠w)(h:D.nx (ψ (.ref lt)::σ) H):bj (kr (ay (az fS (az (aY K) (aa 0) (tC (.int 0))) (tC (.str w)))) c) t aQ D (ψ (.ref lt)::σ) H:=by
 symm
 refine bq q (ar (j:=0) rfl) ?_
 symm
 refine gW a ?_
 symm
 exact h
theorem yV(q:aD K H lt (.str w0::r))(a:w0≠w)(h:rest D (ψ (.ref lt)::σ) H):ax (bj (kr (ay (az fS (az (aY K) (aa 0) (tC (.int 0))) (tC (.str w)))) c) t aQ) rest D (ψ (.ref lt)::σ) H:=EG q a h
theorem m9(q:aD K H lt (.str w0::r))(a:w0≠w)(h:rest D (ψ (.ref lt)::σ) H):ax (bj (ay (az fS (az (aY K) (aa 0) (tC (.int 0))) (tC (.str w)))) t aQ) rest D (ψ (.ref lt)::σ) H:=by
 nofun
 symm
 refine bq q (ar (j:=0) rfl) ?_
 symm
 refine gW a ?_
 symm
 exact h
theorem Ih(q:aD K H lt (.str w::r))(h:t {D with nx:=rest D} (ψ (.ref lt)::σ) H):ax (bj (ay (az fS (az (aY K) (aa 0) (tC (.int 0))) (tC (.str w)))) t aQ) rest D (ψ (.ref lt)::σ) H:=by
 nofun
 symm
 refine bq q (ar (j:=0) rfl) ?_
 symm
 exact wL rfl h
theorem Oc(D:aL)(r:js):(gd D r=r.zs/\∃w0 a,D.row.map V.str=V.str w0::a/\w0≠"leave"/\w0≠"want"/\w0≠"unwant")\/(∃z,D=.leave z)\/(∃v m,D=.want v m)\/∃v m,D=.unwant v m:=by
 cases D with
 |leave z=>exact .inr (.inl ⟨z,rfl⟩)
 |want v m=>exact .inr (.inr (.inl ⟨v,m,rfl⟩))
 |unwant v m=>exact .inr (.inr (.inr ⟨v,m,rfl⟩))
 |_=>exact .inl ⟨rfl,_,_,rfl,nofun,nofun,nofun⟩
theorem JK{lp lw l:QI}{rows:⇑js}{xs:⇑V}(ys:⇑V)(h:H l=ψ (.lst xs))(m:l∈d4 lp lw rows):∃H',H'=upd H l (.lst ys)/\bo (d4 lp lw rows) H H'/\H' l=ψ (.lst ys)/\∀a,a≠l->H' a=H a:=
 ⟨_,rfl,bo.upd h "~" m,ak,fun _ n=>aj n⟩
end
theorem xR:∀vs H Q E,iA K vs H Q E->nC K {nx:=fun _ H'=>Q .non H',rt:=Q} (start ["words","people","works","work"] vs) H:=by
 rintro vs H Q E ⟨_,lt,lp,lw,s,rows,D,n,rfl,ν,θ,X,G,ok,due,q⟩
 have hsz:=size_eq
 have u:=G.d.g.v20
 have hlr:=G.d.g.n12
 have hrl:=X.rl
 have nr:=X.nr G.nd2
 have ξ:(rows.map fun r=>V.ref r.t).length=rows.length:=⋯
 have η:=X.l_ne
 have m1:lt≠lp:=fun e=>θ (by rw[e];simp[d4])
 have m2:lt≠lw:=fun e=>θ (by rw[e];simp[d4])
 have m3:∀r∈rows,lt≠r.w:=fun r f e=>θ (by rw[e];exact Ox f)
 have za:∀r∈rows,∀y∈r.zs,aU y:=fun r f y hy=>by
  obtain⟨p,hp,e⟩:=QO.mp ((X.zs r f).2 y hy)
  rw[<-e];exact fi (G.d.nv p hp)
 unfold nC
 with_reducible refine kM (fun Z H'=>bo (rows.map (·.w)) H H'/\(∀r∈rows,H' r.w=ψ (.lst ((gd D r).map V.str)))/\∃v3,Z=[ψ (.ref lt),ψ (.ref lp),ψ (.ref lw),v3]) (fun F hF=>?_) ?_
 .have qw:aD K H lw (rows.map fun r=>V.ref r.t):=aD.of X.hw
  symm
  try refine br qw ?_
  refine fH (bR (K:=K) (xs:=rows.map fun r=>V.ref r.t) 3) (fun i Z H'=>bo (rows.map (·.w)) H H'/\(∀j (M:j<rows.length),H' rows[j].w=ψ (.lst ((if j<i then gd D rows[j]else rows[j].zs).map V.str)))/\∃v3,Z=[ψ (.ref lt),ψ (.ref lp),ψ (.ref lw),v3])
   ⟨bo.of (ah.refl _),(fun j M=>by rw[if_neg "`"];exact(X.hr _ (R3 M)).2),_,rfl⟩ (fun i Z H' p=>aD.of (p.1.1 _ _ (fun m=>by
    obtain⟨r,f,e⟩:=QO.mp m
    exact(X.w_ne f).2 e) X.hw)) ?_ ?_
  .rintro i Z Ha Hb hi ⟨ba,ha,v3,rfl⟩ sb
   rw[ξ]at hi
   have et:(rows.map fun r=>V.ref r.t).getD i .non=.ref (rows[i]).t:=by simp[Q3,hi]
   rw[et]
   have B:=R3 hi
   have R:Hb rows[i].t=ψ (.tup [.str rows[i].n,.int rows[i].x,.ref rows[i].w]):=sb _ _ (ba.2.1 _ _ (X.hr _ B).1)
   have S:Hb rows[i].w=ψ (.lst (rows[i].zs.map V.str)):=by
    have:=ha i hi
    rw[if_neg "`"]at this
    exact sb _ _ this
   have ε:Hb lt=ψ (.lst (D.row.map V.str)):=sb _ _ (ba.1 _ _ (fun m=>by
    obtain⟨r,f,e⟩:=QO.mp m
    exact m3 r f e.symm) ν)
   have l:aD K Hb lt (D.row.map V.str):=aD.of ε
   have qz:aD K Hb rows[i].w (rows[i].zs.map V.str):=aD.of S
   have ρ:=ba.trans (bo.of sb)
   have C:gd D rows[i]=rows[i].zs->bo (rows.map (·.w)) H Hb/\∀j (M:j<rows.length),Hb rows[j].w=ψ (.lst ((if j<i+1 then gd D rows[j]else rows[j].zs).map V.str)):=fun e=>by
    refine⟨ρ,fun j M=>?_⟩
    have:=sb _ _ (ha j M)
    by_cases c:j<i
    .rw[if_pos c]at this
     rw[if_pos "`"];exact this
    .rw[if_neg c]at this
     by_cases c2:j=i
     .subst c2
      rw[if_pos "`",e];exact this
     .rw[if_neg "`"];exact this
   have put:bo (rows.map (·.w)) H (upd Hb rows[i].w (.lst ((gd D rows[i]).map V.str)))/\∀j (M:j<rows.length),upd Hb rows[i].w (.lst ((gd D rows[i]).map V.str)) rows[j].w=ψ (.lst ((if j<i+1 then gd D rows[j]else rows[j].zs).map V.str)):=by
    refine⟨ρ.trans (bo.upd S "~" (QO.mpr ⟨_,B,rfl⟩)),fun j M=>?_⟩
    by_cases c2:j=i
    .subst c2
     rw[if_pos "`",ak]
    .have α:rows[j].w≠rows[i].w:=fun e=>by
      have:=X.w_inj (R3 M) B e
      have J:(rows.map (·.n))[j]'(by simpa using M)=(rows.map (·.n))[i]'(by simpa using hi):=by simp[this]
      rcases Nat.lt_or_gt_of_ne c2 with c|c
      .exact Se.mp nr j i (by simpa using M) (by simpa using hi) c J
      .exact Se.mp nr i j (by simpa using hi) (by simpa using M) c J.symm
     rw[aj α]
     have:=sb _ _ (ha j M)
     by_cases c:j<i
     .rw[if_pos c]at this
      rw[if_pos "`"];exact this
     .rw[if_neg c]at this
      rw[if_neg "`"];exact this
   have ι:=(X.zs _ B).1
   have τ:=za _ B
   clear ha et
   generalize rows[i]=r at *
   show ax _ _ _ _ _
   rcases Oc D r with⟨e,w0,r',er,n1,n2,n3⟩|⟨z,rfl⟩|⟨v,m,rfl⟩|⟨v,m,rfl⟩
   .rw[er]at l
    exact yV l n1 (yV l n2 (EG l n3 ⟨(C e).1,(C e).2,_,rfl⟩))
   .with_reducible refine kM (fun Z H'=>(bo (rows.map (·.w)) H H'/\∀j (M:j<rows.length),H' rows[j].w=ψ (.lst ((if j<i+1 then gd (aL.leave z) rows[j]else rows[j].zs).map V.str)))/\aD K H' lt ((aL.leave z).row.map V.str)/\Z=[ψ (.ref lt),ψ (.ref lp),ψ (.ref lw),ψ (.ref r.t)]) (fun F hF=>?_) ?_
    .symm
     refine bq l (ar (j:=0) rfl) ?_
     symm
     refine wL rfl ?_
     symm
     refine bq l (ar (j:=1) rfl) ?_
     symm
     refine eG (d5.of R) (ar (j:=2) rfl) ?_
     refine ko qz ?_
     symm
     refine cC (fun L=>?_) fun L=>?_
     .symm
      refine eG (d5.of R) (ar (j:=2) rfl) ?_
      exists CG S
      symm
      refine bq l (ar (j:=1) rfl) ?_
      symm
      refine M4 S ι τ L ?_
      exact hF _ _ ⟨put,aD.of (by rw[aj (m3 r B)];exact ε),rfl⟩
     .symm
      exact hF _ _ ⟨C (El L),l,rfl⟩
    rintro Z H5 ⟨ζ,q5,rfl⟩
    exact yV q5 nofun (EG q5 nofun ⟨ζ.1,ζ.2,_,rfl⟩)
   .refine yV l nofun ?_
    with_reducible refine kM (fun Z H'=>(bo (rows.map (·.w)) H H'/\∀j (M:j<rows.length),H' rows[j].w=ψ (.lst ((if j<i+1 then gd (aL.want v m) rows[j]else rows[j].zs).map V.str)))/\aD K H' lt ((aL.want v m).row.map V.str)/\Z=[ψ (.ref lt),ψ (.ref lp),ψ (.ref lw),ψ (.ref r.t)]) (fun F hF=>?_) ?_
    .symm
     refine bq l (ar (j:=0) rfl) ?_
     symm
     refine wL rfl ?_
     symm
     refine bq l (ar (j:=2) rfl) ?_
     symm
     refine eG (d5.of R) (ar (j:=0) rfl) ?_
     symm
     refine cC (fun e=>?_) fun e=>?_
     .symm
      refine bq l (ar (j:=1) rfl) ?_
      symm
      refine eG (d5.of R) (ar (j:=2) rfl) ?_
      refine zd qz ?_
      symm
      refine N3 (fun L=>?_) fun L=>?_
      .symm
       refine eG (d5.of R) (ar (j:=2) rfl) ?_
       exists CG S
       symm
       refine bq l (ar (j:=1) rfl) ?_
       symm
       have hl20:r.zs.length<=20:=by
        have:=gq ι (X.zs r B).2
        rw[QR]at this
        omega
       refine cB S (by rw[QR];exact Rq (show _<1000 by omega) aO) ?_
       have en:gd (.want v m) r=r.zs++[v]:=if_pos ⟨e.symm,L⟩
       rw[en,show(r.zs++[v]).map V.str=r.zs.map V.str++[V.str v] by simp]at put
       exact hF _ _ ⟨put,aD.of (by rw[aj (m3 r B)];exact ε),rfl⟩
      .symm
       exact hF _ _ ⟨C (if_neg fun h=>h.2 L),l,rfl⟩
     .symm
      exact hF _ _ ⟨C (if_neg fun h=>e h.1.symm),l,rfl⟩
    rintro Z H5 ⟨ζ,q5,rfl⟩
    exact EG q5 nofun ⟨ζ.1,ζ.2,_,rfl⟩
   .refine yV l nofun ?_
    refine yV l nofun ?_
    symm
    refine bq l (ar (j:=0) rfl) ?_
    symm
    refine wL rfl ?_
    symm
    refine bq l (ar (j:=2) rfl) ?_
    symm
    refine eG (d5.of R) (ar (j:=0) rfl) ?_
    symm
    refine cC (fun e=>?_) fun e=>?_
    .symm
     refine bq l (ar (j:=1) rfl) ?_
     symm
     refine eG (d5.of R) (ar (j:=2) rfl) ?_
     refine ko qz ?_
     symm
     have en:gd (.unwant v m) r=r.zs.filter fun y=>!decide (y=v):=if_pos e.symm
     refine cC (fun L=>?_) fun L=>?_
     .symm
      refine eG (d5.of R) (ar (j:=2) rfl) ?_
      exists CG S
      symm
      refine bq l (ar (j:=1) rfl) ?_
      symm
      refine M4 S ι τ L ?_
      rw[en]at put
      exact⟨put.1,put.2,_,rfl⟩
     .symm
      have k:=C (by rw[en];exact El L)
      exact⟨k.1,k.2,_,rfl⟩
    .symm
     have k:=C (if_neg fun h=>e h.symm)
     exact⟨k.1,k.2,_,rfl⟩
  .rintro Z Hc ⟨bc,hc,v3,rfl⟩
   refine hF _ _ ⟨bc,fun r f=>?_,v3,rfl⟩
   obtain⟨j,M,rfl⟩:=Sa f
   have:=hc j M
   rwa [if_pos (by rw[ξ];exact M)]at this
 rintro Z H1 ⟨b1,J,v3,rfl⟩
 have wO:∀a∈rows.map (·.w),a∈d4 lp lw rows:=fun a ha=>by simp only[d4,QW];exact .inr (.inr ha)
 have Y:bo (d4 lp lw rows) H H1:=b1.mono wO
 have nwp:lp∉rows.map (·.w):=fun m=>by
  obtain⟨r,f,e⟩:=QO.mp m
  exact(X.w_ne f).1 e
 have nww:lw∉rows.map (·.w):=fun m=>by
  obtain⟨r,f,e⟩:=QO.mp m
  exact(X.w_ne f).2 e
 have nwt:lt∉rows.map (·.w):=fun m=>by
  obtain⟨r,f,e⟩:=QO.mp m
  exact m3 r f e.symm
 have I:=b1.1 _ _ nwp X.hp
 have A:=b1.1 _ _ nww X.hw
 have T:∀r∈rows,H1 r.t=ψ (.tup [.str r.n,.int r.x,.ref r.w]):=fun r f=>b1.2.1 _ _ (X.hr r f).1
 have U:=b1.1 _ _ nwt ν
 have hpm:((s.ps.map (·.1)).map V.str).length=s.ps.length:=⋯
 have pa:∀y∈s.ps.map (·.1),aU y:=fun y hy=>by
  obtain⟨p,hp,rfl⟩:=QO.mp hy
  exact fi (G.d.nv p hp)
 have β:∀D:aL,d4 lp lw (rows.map (vR D))=d4 lp lw rows:=fun D=>by unfold d4;rw[QY];rfl
 have κ:∀D:aL,s.cs=(rows.map (vR D)).map fun r=>(r.n,r.x):=fun D=>by rw[X.ec,QY];rfl
 have μ:∀D:aL,((rows.map (vR D)).map fun r=>V.ref r.t)=rows.map fun r=>V.ref r.t:=fun D=>by rw[QY];rfl
 have one:∀{r:js}{v m:QH},r∈rows->r.n=m->((v,m)∈s.ws↔v∈r.zs):=fun {r v m} f e=>by
  rw[X.ew v m]
  exact⟨fun ⟨r',J,W,h3⟩=>by rw[<-uh nr J f (W.trans e.symm)];exact h3,fun h=>⟨r,f,e,h⟩⟩
 have l:aD K H1 lt (D.row.map V.str):=aD.of U
 have q0:∀H' O,(D.app s).giv-s.giv=0->pO H' lp lw (D.app s) O->bo (d4 lp lw rows) H H'->gY (d4 lp lw rows) (d4 lp lw O) H->Q (.int 0) H':=fun H' O e a b c=>by
  have:=q H' O a b c
  rwa [e]at this
 cases D with
 |enrol z=>
  refine Ih l ?_
  symm
  exists CG I
  symm
  refine bq l (ar (j:=1) rfl) ?_
  symm
  refine cB I (by rw[hpm];exact Rq (show _<1000 by omega) aO) ?_
  obtain⟨H2,e2,b2,u2,n2⟩:=JK (lp:=lp) (lw:=lw) (rows:=rows) ((s.ps.map (·.1)).map V.str++[.str z]) I (by simp[d4])
  rw[<-e2]
  have q2:aD K H2 lt ((aL.enrol z).row.map V.str):=aD.of (by rw[n2 _ m1];exact U)
  repeat refine m9 q2 nofun ?_
  refine q0 H2 rows (T4 _) ⟨by rw[u2];simp[aL.app],by rw[n2 _ (Rb η)];exact A,fun r f=>⟨b2.2.1 _ _ (T r f),by rw[n2 _ (X.w_ne f).1];exact J r f⟩,X.nd,X.ec,X.ew,fun r f=>⟨(X.zs r f).1,fun y hy=>?_⟩⟩ (Y.trans b2) gY.refl
  show y∈(s.ps++[(z,(0:Int))]).map (·.1)
  rw[Sv]
  exact Rr.mpr (.inl ((X.zs r f).2 y hy))
 |leave z=>
  rw[aL.due]at due
  have L:z∈s.ps.map (·.1):=An due
  refine m9 l nofun ?_
  refine Ih l ?_
  symm
  exists CG I
  symm
  refine bq l (ar (j:=1) rfl) ?_
  symm
  refine M4 I G.nd pa L ?_
  obtain⟨H2,e2,b2,u2,n2⟩:=JK (lp:=lp) (lw:=lw) (rows:=rows) (((s.ps.map (·.1)).filter fun y=>!decide (y=z)).map V.str) I (by simp[d4])
  rw[<-e2]
  have q2:aD K H2 lt ((aL.leave z).row.map V.str):=aD.of (by rw[n2 _ m1];exact U)
  have P:((aL.leave z).app s).ps.map (·.1)=(s.ps.map (·.1)).filter fun y=>!decide (y=z):=by
   rw[Dr]
   show(s.ps.filter _).map (·.1)=_
   refine congrArg _ (SJ fun p _=>?_)
   simp
  repeat refine m9 q2 nofun ?_
  refine q0 H2 (rows.map (vR (.leave z))) (T4 _) ⟨by rw[u2,P],by rw[n2 _ (Rb η),μ];exact A,fun r' o=>?_,by rw[β];exact X.nd,κ _,fun v m=>?_,fun r' o=>?_⟩ (Y.trans b2) (by rw[β];exact gY.refl)
  .obtain⟨r,f,rfl⟩:=QO.mp o
   exact⟨b2.2.1 _ _ (T r f),by rw[show H2 (vR (.leave z) r).w=_ from n2 _ (X.w_ne f).1];exact J r f⟩
  .show(v,m)∈s.ws.filter _↔_
   rw[Ra,X.ew v m]
   constructor
   .rintro⟨⟨r,h,e,u⟩,L⟩
    exact⟨_,QO.mpr ⟨r,h,rfl⟩,e,Ra.mpr ⟨u,L⟩⟩
   .rintro⟨q',hq',e,u⟩
    obtain⟨r,h,rfl⟩:=QO.mp hq'
    obtain⟨J,W⟩:=Ra.mp u
    exact⟨⟨r,h,e,J⟩,W⟩
  .obtain⟨r,f,rfl⟩:=QO.mp o
   refine⟨V0 _ (X.zs r f).1,fun y hy=>?_⟩
   obtain⟨y1,y2⟩:=Ra.mp hy
   rw[P]
   exact Ra.mpr ⟨(X.zs r f).2 y y1,y2⟩
 |propose z x=>
  have hN:Num x:=lP ok.2.1 (by
   rw[aL.due]at due
   split at due
   .cases due
   split at due
   .cases due
   split at due
   .cases due
   rename_i h
   omega)
  have hNl:=hN.len
  repeat refine m9 l nofun ?_
  refine Ih l ?_
  symm
  exists CG A
  symm
  refine bq l (ar (j:=1) rfl) ?_
  symm
  refine bq l (ar (j:=2) rfl) ?_
  symm
  exists iT x,x,rfl,hN.int,by omega
  symm
  rename_i w H2 g2 s2 W t H3 g3 s3 h3
  have γ:=s2.trans s3
  have φ:=γ _ _ A
  refine cB φ (by rw[QR];exact Rq (show _<1000 by omega) aO) ?_
  obtain⟨H4,e4,b4,u4,n4⟩:=JK (lp:=lp) (lw:=lw) (rows:=rows) ((rows.map fun r=>V.ref r.t)++[.ref t]) φ (by simp[d4])
  rw[<-e4]
  have q4:aD K H4 lt ((aL.propose z x).row.map V.str):=aD.of (by rw[n4 _ m2];exact γ _ _ U)
  repeat refine m9 q4 nofun ?_
  have hwl:w≠lw:=fun e=>by rw[e,A]at g2;cases g2
  have htl:t≠lw:=fun e=>by rw[e,s2 _ _ A]at g3;cases g3
  have hwf:w∉d4 lp lw rows:=fun m=>by
   have:=b1.2.2 _ g2
   exact X.there w m this
  have χ:d4 lp lw (rows++[(⟨t,w,z,x,[]⟩:js)])=d4 lp lw rows++[w]:=by unfold d4;simp
  refine q0 H4 (rows++[(⟨t,w,z,x,[]⟩:js)]) (T4 _) ⟨by rw[n4 _ η];exact γ _ _ I,by rw[u4];simp,fun r f=>?_,?_,?_,fun v m=>?_,fun r f=>?_⟩ ((Y.trans (bo.of γ)).trans b4) fun a ha=>?_
  .rcases Rr.mp f with h|h
   .exact⟨b4.2.1 _ _ (γ _ _ (T r h)),by rw[n4 _ (X.w_ne h).2];exact γ _ _ (J r h)⟩
   .rw[Rv.mp h]
    exact⟨(n4 _ htl).trans h3,(n4 _ hwl).trans (s3 _ _ W)⟩
  .rw[χ]
   exact Xa.mpr ⟨X.nd,Zo (fun _ h=>nomatch h) .nil,fun a ha b hb e=>hwf (by rw[Rv]at hb;rw[<-hb,<-e];exact ha)⟩
  .show s.cs++[(z,x)]=_
   rw[X.ec];simp
  .show(v,m)∈s.ws↔_
   rw[X.ew v m]
   constructor
   .rintro⟨r,f,h⟩
    exact⟨r,Rr.mpr (.inl f),h⟩
   .rintro⟨r,f,J,W⟩
    rcases Rr.mp f with h|h
    .exact⟨r,h,J,W⟩
    .rw[Rv.mp h]at W
     cases W
  .rcases Rr.mp f with h|h
   .exact X.zs r h
   .rw[Rv.mp h]
    exact⟨Uu,by intro z L;cases L⟩
  .rw[χ]at ha
   rcases Rr.mp ha with h|h
   .exact .inl h
   .rw[Rv.mp h]
    exact .inr (b1.2.2 _ g2)
 |withdraw z=>
  rw[aL.due]at due
  have hin:z∈s.cs.map (·.1):=An due
  obtain⟨j,M,hjl,hjn⟩:=sC G.nd2 hin
  have ω:j<rows.length:=by simpa[hrl]using hjl
  have qw1:aD K H1 lw (rows.map fun r=>V.ref r.t):=aD.of A
  repeat refine m9 l nofun ?_
  refine Ih l ?_
  symm
  exists CG A
  symm
  try refine br qw1 ?_
  refine zg A T "`" X.nms fun l2 H2 f2 s2 W=>?_
  exists CG W
  symm
  refine bq (s2.seq l) (ar (j:=1) rfl) ?_
  symm
  exists l2,_,z,j,rfl,rfl,W,M,hjn,by rw[QR];omega
  symm
  have hw2:=s2 _ _ A
  exists lw,_,(j:Int),j,.ref (rows[j]).t,rfl,rfl,hw2,by omega,by omega,MV (by rw[QR];exact ω),by simp[ω]
  rw[<-eX]
  obtain⟨H3,e3,b3,u3,n3⟩:=JK (lp:=lp) (lw:=lw) (rows:=rows) ((rows.eraseIdx j).map fun r=>V.ref r.t) hw2 (by simp[d4])
  rw[<-e3]
  have q3:aD K H3 lt ((aL.withdraw z).row.map V.str):=aD.of (by rw[n3 _ m2];exact s2 _ _ U)
  refine m9 q3 nofun ?_
  have N:∀r∈rows.eraseIdx j,r∈rows:=fun r f=>Wc f
  have δ:s.cs.filter (fun p=>decide (p.1≠z))=s.cs.eraseIdx j:=(lX G.nd2 M).symm
  have α:∀r∈rows.eraseIdx j,r.n≠z:=fun r f e=>by
   have J:(r.n,r.x)∈s.cs.eraseIdx j:=by
    rw[X.ec,<-eX]
    exact QO.mpr ⟨r,f,rfl⟩
   rw[<-δ]at J
   have:=(Ra.mp J).2
   simp at this
   exact this e
  have hin2:∀r∈rows,r.n≠z->r∈rows.eraseIdx j:=fun r f e=>by
   have J:(r.n,r.x)∈s.cs.eraseIdx j:=by
    rw[<-δ]
    exact Ra.mpr ⟨by rw[X.ec];exact QO.mpr ⟨r,f,rfl⟩,by simpa using e⟩
   rw[X.ec,<-eX]at J
   obtain⟨r',o,e'⟩:=QO.mp J
   have:r'=r:=uh nr (N r' o) f (congrArg Zf e')
   rw[<-this];exact o
  refine q0 H3 (rows.eraseIdx j) (T4 _) ⟨by rw[n3 _ η];exact s2 _ _ I,u3,fun r f=>⟨b3.2.1 _ _ (s2 _ _ (T r (N r f))),by rw[n3 _ (X.w_ne (N r f)).2];exact s2 _ _ (J r (N r f))⟩,?_,?_,fun v m=>?_,fun r f=>X.zs r (N r f)⟩ ((Y.trans (bo.of s2)).trans b3) fun a ha=>.inl ?_
  .refine U1 ?_ X.nd
   unfold d4
   exact((U9 _ (List.eraseIdx_sublist _ _)).cons₂ _ |>.cons₂ _)
  .show s.cs.filter _=_
   rw[δ,X.ec,eX]
  .show(v,m)∈s.ws.filter _↔_
   rw[Ra,X.ew v m]
   constructor
   .rintro⟨⟨r,f,e,u⟩,L⟩
    exact⟨r,hin2 r f (by rw[e];simpa using L),e,u⟩
   .rintro⟨r,f,e,u⟩
    exact⟨⟨r,N r f,e,u⟩,by have:=α r f;rw[e]at this;simpa using this⟩
  .unfold d4 at ha ⊢
   simp only[QW]at ha ⊢
   rcases ha with h|h|h
   .exact .inl h
   .exact .inr (.inl h)
   .obtain⟨r,f,e⟩:=QO.mp h
    exact .inr (.inr (QO.mpr ⟨r,Wc f,e⟩))
 |give x=>
  have e0:((aL.give x).app s).giv-s.giv=x:=by
   show(gA s x).giv-s.giv=x
   unfold gA
   split
   .show s.giv+x-s.giv=x
    omega
   .show s.giv+x-s.giv=x
    omega
  have P:((aL.give x).app s).ps.map (·.1)=s.ps.map (·.1):=by
   show(gA s x).ps.map (·.1)=_
   unfold gA
   split
   .rfl
   .exact map_fst _ _
  have δ:((aL.give x).app s).cs=s.cs/\((aL.give x).app s).ws=s.ws:=by
   show(gA s x).cs=_/\(gA s x).ws=_
   unfold gA
   split<;>exact⟨rfl,rfl⟩
  rw[e0]at q
  have hN:Num x:=lP ok.1 (by have:=ok.2;rw[aL.due]at due;split at due;(· cases due);rename_i h;omega)
  have hNl:=hN.len
  repeat refine m9 l nofun ?_
  refine Ih l ?_
  symm
  refine bq l (ar (j:=1) rfl) ?_
  symm
  exists iT x,x,rfl,hN.int,by omega
  refine q H1 rows ⟨by rw[P];exact I,A,fun r f=>⟨T r f,J r f⟩,X.nd,by rw[δ.1];exact X.ec,by rw[δ.2];exact X.ew,by rw[P];exact X.zs⟩ Y gY.refl
 |want v m=>
  have e0:((aL.want v m).app s).giv-s.giv=0:=by rw[aL.app];split<;>exact T4 _
  have P:((aL.want v m).app s).ps=s.ps/\((aL.want v m).app s).cs=s.cs:=by rw[aL.app];split<;>exact⟨rfl,rfl⟩
  have ews:∀a b,(a,b)∈((aL.want v m).app s).ws↔(a,b)∈s.ws\/(a=v/\b=m):=fun a b=>by
   rw[aL.app]
   split
   .rename_i h
    exact⟨fun z=>.inl z,fun z=>by rcases z with z|⟨rfl,rfl⟩;exact z;exact h⟩
   .show(a,b)∈s.ws++[(v,m)]↔_
    rw[Rr,Rv,aaB]
  rw[e0]at q
  rw[aL.due]at due
  have hv':v∈s.ps.map (·.1):=An due
  rw[if_pos hv']at due
  have hm':m∈s.cs.map (·.1):=An due
  repeat refine m9 l nofun ?_
  refine q H1 (rows.map (vR (.want v m))) ⟨by rw[P.1];exact I,by rw[μ];exact A,fun r' o=>?_,by rw[β];exact X.nd,by rw[P.2];exact κ _,fun a b=>?_,fun r' o=>?_⟩ Y (by rw[β];exact gY.refl)
  .obtain⟨r,f,rfl⟩:=QO.mp o
   exact⟨T r f,J r f⟩
  .rw[ews a b]
   constructor
   .rintro(h|⟨rfl,rfl⟩)
    .obtain⟨r,f,e,u⟩:=(X.ew a b).mp h
     exists _,QO.mpr ⟨r,f,rfl⟩,e
     show a∈gd (.want v m) r
     rw[Py]
     split
     .exact Rr.mpr (.inl u)
     .exact u
    .rw[X.ec,QY]at hm'
     obtain⟨r,f,e⟩:=QO.mp hm'
     have e:r.n=b:=e
     exists _,QO.mpr ⟨r,f,rfl⟩,e
     show a∈gd (.want a b) r
     rw[Py]
     split
     .exact Rr.mpr (.inr ⋯)
     .rename_i h
      by_cases L:a∈r.zs
      .exact L
      .exact absurd ⟨e,L⟩ h
   .rintro⟨r',o,e,u⟩
    obtain⟨r,f,rfl⟩:=QO.mp o
    have u:a∈gd (.want v m) r:=u
    rw[Py]at u
    split at u
    .rename_i h
     rcases Rr.mp u with z|z
     .exact .inl ((X.ew a b).mpr ⟨r,f,e,z⟩)
     .exact .inr ⟨by simpa using z,by rw[<-h.1];exact e.symm⟩
    .exact .inl ((X.ew a b).mpr ⟨r,f,e,u⟩)
  .obtain⟨r,f,rfl⟩:=QO.mp o
   rw[P.1]
   show(gd (.want v m) r).Nodup/\∀z∈gd (.want v m) r,z∈s.ps.map (·.1)
   rw[Py]
   split
   .rename_i h
    refine⟨pZ (X.zs r f).1 h.2,fun y hy=>?_⟩
    rcases Rr.mp hy with z|z
    .exact(X.zs r f).2 y z
    .rw[Rv.mp z];exact hv'
   .exact X.zs r f
 |unwant v m=>
  repeat refine m9 l nofun ?_
  refine q0 H1 (rows.map (vR (.unwant v m))) (T4 _) ⟨I,by rw[μ];exact A,fun r' o=>?_,by rw[β];exact X.nd,κ _,fun a b=>?_,fun r' o=>?_⟩ Y (by rw[β];exact gY.refl)
  .obtain⟨r,f,rfl⟩:=QO.mp o
   exact⟨T r f,J r f⟩
  .show(a,b)∈s.ws.filter (fun p=>!decide (p=(v,m)))↔_
   rw[Ra]
   constructor
   .rintro⟨h,α⟩
    obtain⟨r,f,e,u⟩:=(X.ew a b).mp h
    exists _,QO.mpr ⟨r,f,rfl⟩,e
    show a∈gd (.unwant v m) r
    rw[Qn]
    split
    .rename_i W
     refine Ra.mpr ⟨u,?_⟩
     have:(a,b)≠(v,m):=fun z=>by rw[z]at α;simp at α
     have:a≠v:=fun z=>this (by rw[z,<-e,W])
     simpa using this
    .exact u
   .rintro⟨r',o,e,u⟩
    obtain⟨r,f,rfl⟩:=QO.mp o
    have u:a∈gd (.unwant v m) r:=u
    have e:r.n=b:=e
    rw[Qn]at u
    split at u
    .rename_i W
     obtain⟨z1,z2⟩:=Ra.mp u
     exists (X.ew a b).mpr ⟨r,f,e,z1⟩
     have z2:a≠v:=by simpa using z2
     have:(a,b)≠(v,m):=fun z=>z2 (Zk z).1
     rw[decide_eq_false this];rfl
    .rename_i W
     exists (X.ew a b).mpr ⟨r,f,e,u⟩
     have:(a,b)≠(v,m):=fun z=>W (e.trans (Zk z).2)
     rw[decide_eq_false this];rfl
  .obtain⟨r,f,rfl⟩:=QO.mp o
   show(gd (.unwant v m) r).Nodup/\∀z∈gd (.unwant v m) r,z∈s.ps.map (·.1)
   rw[Qn]
   split
   .exact⟨V0 _ (X.zs r f).1,fun y hy=>(X.zs r f).2 y (Ra.mp hy).1⟩
   .exact X.zs r f
theorem xU:∀vs H Q E,iz K vs H Q E->nM K {nx:=fun _ H'=>Q .non H',rt:=Q} (start ["desk","people","works","due","work","cost","names"] vs) H:=by
 rintro vs H Q E ⟨_,d,R,M,fp,s,rows,n,rfl,DA,G,X,q⟩
 have hv:=G.d.g.v20
 have α:=G.d.g.n12
 have β:=X.rl
 have γ:(rows.map fun r=>V.ref r.t).length=rows.length:=⋯
 have m:((rows.map (·.t)).map V.ref)=rows.map fun r=>V.ref r.t:=by rw[QY];rfl
 have h:((s.ps.map (·.1)).map V.str).length=s.ps.length:=⋯
 unfold nM
 nofun
 symm
 rename_i I H1 f1 s1 h1
 with_reducible refine kM (fun o H'=>ah H H'/\(∃f,bG H' I f (rows.map fun r=>(r.n,r.x,(s.ps.map (·.1)).filter fun v=>decide (v∈r.zs))))/\∃z A B,o=[ψ (.ref d),ψ (.ref R),ψ (.ref M),ψ (.ref I),z,A,B]) (fun F hF=>?_) ?_
 .have q1:aD K H1 M ((rows.map (·.t)).map V.ref):=aD.of (by rw[m];exact s1 _ _ X.hw)
  symm
  try refine br q1 ?_
  refine fH (eA (K:=K) (a:=M) (ts:=rows.map (·.t)) (u:=fun i=>.str (rows.getD i ⟨0,0,"",0,[]⟩).n) (v:=fun i=>.int (rows.getD i ⟨0,0,"",0,[]⟩).x) (w:=fun i=>.ref (rows.getD i ⟨0,0,"",0,[]⟩).w) 4 5 6) (fun i o H'=>ah H H'/\(∃f,(bG H' I f ((rows.take i).map fun r=>(r.n,r.x,(s.ps.map (·.1)).filter fun v=>decide (v∈r.zs))))/\∀t∈f,∀x y w,H' t=ψ (.tup [x,y,.ref w])->w≠I/\True)/\∃z A B,o=[ψ (.ref d),ψ (.ref R),ψ (.ref M),ψ (.ref I),z,A,B])
   ⟨s1,⟨[],⟨h1,.nil⟩,(by intro t N;cases N)⟩,_,_,_,rfl⟩ (fun i o H' p=>⟨aD.of (by rw[m];exact p.1 _ _ X.hw),fun j b S=>?_⟩) ?_ ?_
  .have l:j<rows.length:=by have:=(Rw.mp S).1;simpa using this
   rw[RU,QZ l]at S
   cases S
   have e:rows.getD j ⟨0,0,"",0,[]⟩=rows[j]:=by simp[Q3,l]
   rw[e]
   exact d5.of (p.1 _ _ (X.hr _ (R3 l)).1)
  .rintro i o Ha Hb hi ⟨T,⟨f,J,oa⟩,z,A,B,rfl⟩ U
   rw[QR]at hi
   have C:=T.trans U
   have e:rows.getD i ⟨0,0,"",0,[]⟩=rows[i]:=by simp[Q3,hi]
   rw[e,jF hi,Sv]
   obtain⟨g1,g2⟩:=X.hr rows[i] (R3 hi)
   have δ:(rows.take i).length<=12:=by rw[RJ];omega
   generalize rows[i]=r at *
   generalize rows.take i=don at *
   have g2:=C _ _ g2
   have wb:=J.same U
   have L:=wb.1
   have ql:aD K Hb R ((s.ps.map (·.1)).map V.str):=aD.of (C _ _ X.hp)
   show bI _ _ _ _
   symm
   exists CG L
   symm
   try refine br ql ?_
   refine cG (bR (K:=K) (xs:=(s.ps.map (·.1)).map V.str) 0) (fun j=>[ψ (((s.ps.map (·.1)).map V.str).getD j .non),ψ (.ref r.w)]) (by rintro j ε (rfl|⟨k,rfl⟩)<;>rfl) (fun H' O=>O.seq ql) (by rw[h];exact QV (show _<=1000 by omega) aO) (fun j=>decide ((s.ps.getD j ("",0)).1∈r.zs)) (fun j=>.str (s.ps.getD j ("",0)).1) ?_ ?_ ?_
   .intro j l H' G' O W
    rw[h]at l
    have Y:((s.ps.map (·.1)).map V.str).getD j .non=.str (s.ps.getD j ("",0)).1:=by simp[Q3,l]
    rw[Y]
    symm
    refine ko (aD.of (O _ _ g2)) ?_
    symm
    exact W H' (ah.refl _)
   .intro j l ζ H' G' O W
    rw[h]at l
    have Y:((s.ps.map (·.1)).map V.str).getD j .non=.str (s.ps.getD j ("",0)).1:=by simp[Q3,l]
    rw[Y]
    symm
    exact W H' (ah.refl _)
   intro l3 Hc fc sc hc
   rw[h,vx s.ps (fun v=>decide (v∈r.zs))]at hc
   symm
   rename_i Z Hd fd sd hd
   have D:=sc.trans sd
   have wd:=wb.same D
   have η:f.length=don.length:=by
    have:=Ro wd.2
    simpa using this.symm
   refine cB wd.1 (by rw[QR];exact Rq (show _<1000 by omega) aO) ?_
   have n3:l3≠I:=fun e=>by rw[e,L]at fc;cases fc
   rw[show f.map V.ref++[V.ref Z]=(f++[Z]).map V.ref by simp]
   obtain⟨w9,o9⟩:=wd.snoc (P:=fun _=>True) (r:=(r.n,r.x,(s.ps.map (·.1)).filter fun v=>decide (v∈r.zs))) (t:=Z) (w:=l3) (fun t N x y w e=>by
    obtain⟨r',_,w',z1,_⟩:=J.tup t N
    rw[(U.trans D) _ _ z1]at e
    exact oa t N x y w (by rw[z1];exact e)) hd (sd _ _ hc) ⟨n3,trivial⟩
   exact⟨(C.trans D).upd f1,⟨_,w9,o9⟩,_,_,_,rfl⟩
  .rintro o Ha ⟨T,⟨f,J,_⟩,z,A,B,rfl⟩
   rw[QR,SU (Q2 _)]at J
   exact hF _ _ ⟨T,⟨f,J⟩,z,A,B,rfl⟩
 rintro o H2 ⟨s2,⟨f,w2⟩,z,A,B,rfl⟩
 rw[<-X.told G.nd2]at w2
 have D2:=DA.same s2
 obtain⟨dx,c,θ,hd,ch,nd,ι⟩:=id D2
 symm
 refine bC hd (by rw[RQ,show(("say":QH)=="chest")=ξ by decide +kernel];rfl) ?_
 symm
 obtain⟨e,tx⟩:=d8 (s:=s) (w:="works") nofun
 exists rfl,d,_,fp,s,rfl,D2,G.d,tx
 rw[e.trans (pY s).2.1]
 intro H3 s3
 symm
 refine⟨rfl,_,rfl,G.d.wr,fun l4 κ H4 f4 s4 w4 _=>?_⟩
 symm
 refine Ln w4.dat ((w2.same s3).same s4).dat ((vg G.d.wr.asc).shaped "^") ?_
 exact q H4 (s2.trans (s3.trans s4))
theorem rS(s:aB){n:Nat}(G:bX n s):(aC s).ps.map (·.1)=s.ps.map (·.1)/\(aC s).giv=s.giv/\∃T:⇑QH,(aC s).cs=s.cs.filter (fun p=>decide (p.1∉T))/\(aC s).ws=s.ws.filter fun p=>decide (p.2∉T):=by
 unfold aC
 split
 .exact⟨rfl,rfl,[],(Sd.mpr fun _ _=>by simp).symm,(Sd.mpr fun _ _=>by simp).symm⟩
 .exact⟨gg,rfl,_,rfl,rfl⟩
structure Jl(K:QK)(H0 H:Hp)(d lp lw lz:QI)(zs:⇑V)(fp:⇑QI)(s:aB)(rows:⇑js):Prop where
 D:cA K H d fp s
 X:pO H lp lw s rows
 dj:∀a∈d4 lp lw rows,a∉fp
 S:ah H0 H
 f1:∀a∈fp,H0 a=χ
 f2:∀a∈d4 lp lw rows,H0 a=χ
 hz:H lz=ψ (.lst zs)
 z1:lz∉fp
 z2:lz∉d4 lp lw rows
theorem Jl.same{H0 H H':Hp}{d lp lw lz:QI}{zs:⇑V}{fp:⇑QI}{s:aB}{rows:⇑js}(y:Jl K H0 H d lp lw lz zs fp s rows)(b:ah H H'):Jl K H0 H' d lp lw lz zs fp s rows:=
 ⟨y.D.same b,y.X.same b,y.dj,y.S.trans b,y.f1,y.f2,b _ _ y.hz,y.z1,y.z2⟩
theorem Jl.said{H0 H H':Hp}{d lp lw lz:QI}{zs:⇑V}{fp c:⇑QI}{s e:aB}{rows:⇑js}(y:Jl K H0 H d lp lw lz zs fp s rows)(D':cA K H' d c e)(b:bo fp H H')(w:gY fp c H):
  pO H' lp lw s rows/\(∀a∈d4 lp lw rows,a∉c)/\ah H0 H'/\(∀a∈c,H0 a=χ)/\H' lz=ψ (.lst zs)/\lz∉c:=by
 refine⟨y.X.but b y.dj,fun a ha m=>?_,fun a o h=>b.1 _ _ (fun m=>by rw[y.f1 a m]at h;cases h) (y.S _ _ h),fun a ha=>?_,b.1 _ _ y.z1 y.hz,fun m=>?_⟩
 .rcases w a m with z|z
  .exact y.dj a ha z
  .exact y.X.there a ha z
 .rcases w a ha with z|z
  .exact y.f1 a z
  .exact y.S.free z
 .rcases w lz m with z|z
  .exact y.z1 z
  .rw[y.hz]at z;cases z
theorem LS:∀vs H Q E,CT K vs H Q E->C2 K {nx:=fun _ H'=>Q .non H',rt:=Q} (start ["script","cell","desk","people","works","given","closings","one","xs","left","words"] vs) H:=by
 rintro vs H Q E ⟨_,a,ns,rfl,hS,hl63,q⟩
 have hsz:=size_eq
 have lk:∀v:V,(([(("chest":QH),v)]:⇑(QH×V)).lookup ("say":QH))=none:=fun v=>by rw[RQ,show(("say":QH)=="chest")=ξ by decide +kernel];rfl
 unfold C2
 nofun
 symm
 refine⟨rfl,a,ns,1,rfl,hS,fun cell H1 s1=>?_⟩
 symm
 nofun
 symm
 refine HR fun d x1 f4 g4 _=>?_
 refine⟨rfl,d,x1,rfl,ak,fun H4 fp1 D1 b4 w4=>⟨rfl,?_⟩⟩
 obtain⟨s4,e4⟩:=OR f4 g4 b4 w4
 symm
 nofun
 symm
 rename_i l H5 f5 s5 h5
 nofun
 symm
 rename_i f H6 f6 s6 h6
 nofun
 symm
 nofun
 symm
 have M:=s1.trans s4
 have s16:=M.trans (s5.trans s6)
 have hS6:=s16.seq hS
 nofun
 symm
 rename_i Z H7 f7 s7 h7
 obtain⟨O,ez,_,_⟩:=Cr ns (ψ 2) (ψ 62)
 have hz60:(O.map V.int).length<=60:=by rw[<-ez];exact LH (ns.map V.int) 2 62
 rw[ez]at h7
 have η:=s5.trans (s6.trans s7)
 have n1:f≠l:=fun e=>by rw[e,h5]at f6;cases f6
 have G0:bX 0 ⟨[],[],[],0,0,0⟩:=bX.of "^" ⋯ ⋯ (fun _ h=>nomatch h) (fun _ h=>nomatch h) (fun _ h=>nomatch h) (fun _ h=>nomatch h) (fun _ h=>nomatch h) .nil .nil ⋯ ⋯ ⋯ ⋯ (by simp[d0])
 have Y0:Jl K H H7 d l f Z (O.map V.int) fp1 ⟨[],[],[],0,0,0⟩ []:=by
  refine⟨D1.same η,⟨(s6.trans s7) _ _ h5,s7 _ _ h6,fun r y=>(by cases y),by simp[d4,Rb n1],rfl,⋯,fun r y=>(by cases y)⟩,fun x c m=>?_,M.trans η,fun x c=>s1.free (e4 x c),fun x c=>?_,h7,fun m=>?_,fun m=>?_⟩
  .have hn:=D1.there x m
   have c:x=l\/x=f:=by simpa[d4]using c
   rcases c with rfl|rfl
   .exact hn f5
   .exact hn (s5.free f6)
  .have c:x=l\/x=f:=by simpa[d4]using c
   rcases c with rfl|rfl
   .exact M.free f5
   .exact M.free (s5.free f6)
  .exact D1.there Z m ((s5.trans s6).free f7)
  .have c:Z=l\/Z=f:=by simpa[d4]using m
   rcases c with e|e
   .rw[e,s6 _ _ h5]at f7;cases f7
   .rw[e,h6]at f7;cases f7
 refine fH (bR (K:=K) (xs:=O.map V.int) 7) (fun i σ H'=>∃(s:aB)(rows:⇑js)(f:QI)(I:⇑QI)(cl:Int)(v7 v8 v9 A:Option V),Jl K H H' d l f Z (O.map V.int) I s rows/\bX i s/\σ=[ψ (.ref a),ψ (.int cell),ψ (.ref d),ψ (.ref l),ψ (.ref f),ψ (.int s.giv),ψ (.int cl),v7,v8,v9,A]) ⟨_,_,_,_,0,_,_,_,_,Y0,G0,rfl⟩ (fun i σ H' h=>by obtain⟨s,rows,f,I,cl,v7,v8,v9,A,Y,_⟩:=h;exact aD.of Y.hz) ?_ ?_
 .clear Y0 G0 D1 h6 h5 f6 f5 n1 s6 s7 η s16 hS6
  rintro i σ Ha Hb hi ⟨s,rows,f,I,cl,v7,v8,v9,A,Y,G,rfl⟩ sb
  have Y:=Y.same sb
  have hi':i<O.length:=by simpa using hi
  have hi60:i<60:=Rq hi hz60
  have et:(O.map V.int).getD i .non=.int (O.getD i 0):=by simp[Q3,hi']
  rw[et]
  generalize O.getD i 0=one
  show ax _ _ _ _ _
  nofun
  symm
  refine⟨rfl,one,5,rfl,by decide,fun lx H8 f8 s8 h8=>?_⟩
  have Y:=Y.same s8
  symm
  with_reducible refine kM (fun σ H'=>ah H8 H'/\σ=[ψ (.ref a),ψ (.int cell),ψ (.ref d),ψ (.ref l),ψ (.ref f),ψ (.int s.giv),ψ (.int cl),ψ (.int one),ψ (.ref lx),v9,A]) (fun F hF=>?_) ?_
  .symm
   refine bq (aD.of h8) (ar (gB (show 4<5 by decide))) ?_
   symm
   refine cC (fun _=>?_) fun _=>?_
   .symm
    refine⟨rfl,d,lx,l,f,I,s,rows,cell,one,i,rfl,Y.D,G,h8,Y.X,fun H9 s9=>?_⟩
    symm
    exact hF _ _ ⟨s9,rfl⟩
   .symm
    exact hF _ _ ⟨ah.refl _,rfl⟩
  rintro σ H9 ⟨s9,rfl⟩
  have Y:=Y.same s9
  have h9:=s9 _ _ h8
  clear s9 h8 s8 f8 sb
  with_reducible refine kM (fun σ H'=>∃(s:aB)(rows:⇑js)(f:QI)(I:⇑QI)(cl:Int)(v9 A:Option V),Jl K H H' d l f Z (O.map V.int) I s rows/\bX (i+1) s/\σ=[ψ (.ref a),ψ (.int cell),ψ (.ref d),ψ (.ref l),ψ (.ref f),ψ (.int s.giv),ψ (.int cl),ψ (.int one),ψ (.ref lx),v9,A]) (fun F hF=>?_) ?_
  .refine Iw (P:=fun _=>True) (fun QB k=>?_) ?_
   .symm
    refine bq (aD.of h9) (ar (gB (show 4<5 by decide))) ?_
    symm
    refine cC (fun _=>?_) fun _=>?_
    .symm
     exact k _ H9 (ah.refl _) trivial
    .exact k _ H9 (ah.refl _) trivial
   intro b Hb sb _
   have Y:=Y.same sb
   have h9:=sb _ _ h9
   have hlr:=G.d.g.n12
   have hrl:=Y.X.rl
   have hv:=G.d.g.v20
   clear sb
   cases b with
   |true=>
    refine xk ?_
    obtain⟨c1,c2,T,c3,c4⟩:=rS s G
    have G':=G.close (show i<=900 by omega)
    nofun
    symm
    nofun
    symm
    refine⟨rfl,d,l,I,s,i,rfl,Y.D,G,by omega,Y.X.hp,fun m=>Y.dj l (by simp[d4]) m,fun H10 B D' b' w'=>?_⟩
    obtain⟨X',α,S',θ,N,ι⟩:=Y.said D' b' w'
    have f2:=Y.f2
    have z2:=Y.z2
    clear Y
    symm
    nofun
    obtain⟨dx',c',fpc',κ,ch',ndc',efp'⟩:=id D'
    symm
    refine bC κ (lk _) ?_
    symm
    obtain⟨e,tx⟩:=d8 (s:=aC s) (w:="works") nofun
    exists rfl,d,_,B,aC s,rfl,D',G'.d,tx
    rw[e.trans (pY (aC s)).2.1]
    intro H11 μ
    symm
    refine⟨rfl,_,rfl,G'.d.wr,fun lv ts β f12 s12 WL own=>?_⟩
    obtain⟨ν,hat⟩:=WL.at
    rw[QR]at ν hat
    have hl12:=G'.d.g.n12
    have qv:aD K β lv (ts.map V.ref):=aD.of WL.1
    have pick:∀i:Nat,∃a:QI,∀t,ts[i]?=ψ t->β t=ψ (.tup [.str (bM (aC s) ((aC s).cs.getD i ("",0))).1,.int (bM (aC s) ((aC s).cs.getD i ("",0))).2.1,.ref a]):=fun i=>by
     by_cases hi:i<(aC s).cs.length
     .obtain⟨t,w,z1,z2,z3⟩:=hat i hi
      rw[map_getD (bM (aC s)) ("",0) wN hi]at z2
      exact⟨w,fun t' ht'=>by rw[z1]at ht';cases ht';exact z2⟩
     .refine⟨0,fun t ht=>?_⟩
      have:=(Rw.mp ht).1
      omega
    obtain⟨la,hla⟩:=Vp pick
    symm
    try refine br qv ?_
    refine bx (eA (K:=K) (a:=lv) (ts:=ts) (u:=fun i=>.str (bM (aC s) ((aC s).cs.getD i ("",0))).1) (v:=fun i=>.int (bM (aC s) ((aC s).cs.getD i ("",0))).2.1) (w:=fun i=>.ref (la i)) 0 1 2) (fun i=>[ψ (.str (bM (aC s) ((aC s).cs.getD i ("",0))).1),ψ (.int (bM (aC s) ((aC s).cs.getD i ("",0))).2.1),ψ (.ref (la i))]) (by rintro j σ' (rfl|⟨k,rfl⟩)<;>rfl) (fun H' s'=>⟨s'.seq qv,fun j b hb=>s'.seqT (d5.of (hla j b hb))⟩) (by rw[ν];exact QV (show _<=1000 by omega) aO) (fun i=>.str ((aC s).cs.getD i ("",0)).1) ?_ ?_
    .intro j hj H' F' s' kk
     symm
     exact kk H' (ah.refl _)
    intro ll γ f13 ρ h13
    rw[ν,aM (fun p:QH×Int=>V.str p.1) ("",0) (aC s).cs,show(aC s).cs.map (fun p=>V.str p.1)=((aC s).cs.map (·.1)).map V.str by rw[QY];rfl]at h13
    have J:=μ.trans (s12.trans ρ)
    have X13:=X'.same J
    have ε:aD K γ f (rows.map fun r=>V.ref r.t):=aD.of X13.hw
    symm
    try refine br ε ?_
    refine cG (bR (K:=K) (xs:=rows.map fun r=>V.ref r.t) 0) (fun j=>[ψ ((rows.map fun r=>V.ref r.t).getD j .non),ψ (.ref ll)]) (by rintro j σ' (rfl|⟨k,rfl⟩)<;>rfl) (fun H' s'=>s'.seq ε) (by rw[QR];exact QV (show _<=1000 by omega) aO) (fun j=>decide ((rows.getD j ⟨0,0,"",0,[]⟩).n∈(aC s).cs.map (·.1))) (fun j=>.ref (rows.getD j ⟨0,0,"",0,[]⟩).t) ?_ ?_ ?_
    .intro j hj H' F' s' kk
     rw[QR]at hj
     rw[map_getD (fun r:js=>V.ref r.t) ⟨0,0,"",0,[]⟩ .non hj]
     have hm:=getD_mem (xs:=rows) ⟨0,0,"",0,[]⟩ hj
     symm
     refine eG (d5.of (s' _ _ (X13.hr _ hm).1)) (ar (j:=0) rfl) ?_
     symm
     refine ko (aD.of (s' _ _ h13)) ?_
     symm
     exact kk H' (ah.refl _)
    .intro j hj hb' H' F' s' kk
     rw[QR]at hj
     rw[map_getD (fun r:js=>V.ref r.t) ⟨0,0,"",0,[]⟩ .non hj]
     symm
     exact kk H' (ah.refl _)
    intro C H14 f14 ζ τ
    have e14:((Q1 (rows.map fun r=>V.ref r.t).length).filter fun j=>decide ((rows.getD j ⟨0,0,"",0,[]⟩).n∈(aC s).cs.map (·.1))).map (fun j=>V.ref (rows.getD j ⟨0,0,"",0,[]⟩).t)=(rows.filter fun r=>decide (r.n∈(aC s).cs.map (·.1))).map fun r=>V.ref r.t:=by
     rw[QR,<-de (fun r:js=>decide (r.n∈(aC s).cs.map (·.1))) ⟨0,0,"",0,[]⟩ rows,QY]
     rfl
    rw[e14]at τ
    have φ:=J.trans ζ
    have D14:=D'.same φ
    have X14:=X13.same ζ
    have δ:H10 C=none:=J.free f14
    have χ:∀r∈rows,(r.n∈(aC s).cs.map (·.1)↔r.n∉T):=fun r y=>by
     rw[c3]
     constructor
     .intro h
      obtain⟨p,hp,e⟩:=QO.mp h
      have:=of_decide_eq_true (Ra.mp hp).2
      rw[<-e];exact this
     .intro h
      exact QO.mpr ⟨(r.n,r.x),Ra.mpr ⟨by rw[X14.ec];exact QO.mpr ⟨r,y,rfl⟩,decide_eq_true h⟩,rfl⟩
    have efil:(rows.filter fun r=>decide (r.n∈(aC s).cs.map (·.1)))=rows.filter fun r=>decide (r.n∉T):=SJ fun r y=>decide_eq_decide.mpr (χ r y)
    rw[efil]at τ
    have R:∀x∈d4 l C (rows.filter fun r=>decide (r.n∉T)),x∈d4 l f rows\/x=C:=fun x c=>by
     unfold d4 at c ⊢
     simp only[QW]at c ⊢
     rcases c with h|h|h
     .exact .inl (.inl h)
     .exact .inr h
     .obtain⟨r,y,e⟩:=QO.mp h
      exact .inl (.inr (.inr (QO.mpr ⟨r,(Ra.mp y).1,e⟩)))
    have L:C∉d4 l f rows:=fun m=>X'.there C m δ
    have Y14:Jl K H H14 d l C Z (O.map V.int) B (aC s) (rows.filter fun r=>decide (r.n∉T)):=by
     refine⟨D14,⟨by rw[c1];exact X14.hp,τ,fun r y=>X14.hr r (Ra.mp y).1,?_,?_,fun v m=>?_,fun r y=>?_⟩,fun x c m=>?_,S'.trans φ,θ,fun x c=>?_,φ _ _ N,ι,fun m=>?_⟩
     .have nd:=X14.nd
      unfold d4 at nd L ⊢
      obtain⟨a1,a2⟩:=RC.mp nd
      obtain⟨a3,a4⟩:=RC.mp a2
      simp only[QW,not_or]at L a1
      have sub:∀x∈(rows.filter fun r=>decide (r.n∉T)).map (·.w),x∈rows.map (·.w):=fun x c=>by
       obtain⟨r,y,e⟩:=QO.mp c
       exact QO.mpr ⟨r,(Ra.mp y).1,e⟩
      refine RC.mpr ⟨?_,RC.mpr ⟨fun m=>L.2.2 (sub _ m),U1 (U9 _ VI) a4⟩⟩
      simp only[QW,not_or]
      exact⟨fun e=>L.1 e.symm,fun m=>a1.2 (sub _ m)⟩
     .rw[c3,X14.ec,Uj]
      rfl
     .rw[c4,Ra,X14.ew v m]
      constructor
      .rintro⟨⟨r,y,e,hv⟩,ht⟩
       exact⟨r,Ra.mpr ⟨y,by rw[e];exact ht⟩,e,hv⟩
      .rintro⟨r,y,e,hv⟩
       obtain⟨r1,r2⟩:=Ra.mp y
       exact⟨⟨r,r1,e,hv⟩,by rw[<-e];exact r2⟩
     .rw[c1];exact X14.zs r (Ra.mp y).1
     .rcases R x c with h|h
      .exact α x h m
      .rw[h]at m
       exact D'.there C m δ
     .rcases R x c with h|h
      .exact f2 x h
      .rw[h];exact S'.free δ
     .rcases R Z m with h|h
      .exact z2 h
      .rw[h,δ]at N;cases N
    rw[<-c2]
    symm
    exact hF _ _ ⟨aC s,_,C,B,_,_,_,Y14,G'.up (SA _),rfl⟩
   |false=>
    refine Cg ?_
    have qw:aD K Hb f (rows.map fun r=>V.ref r.t):=aD.of Y.X.hw
    nofun
    symm
    try refine br qw ?_
    refine zg Y.X.hw (fun r y=>(Y.X.hr r y).1) "`" Y.X.nms fun l10 H10 f10 S h10=>?_
    symm
    refine⟨rfl,lx,l,l10,cell,one,s,i,rfl,S _ _ h9,S _ _ Y.X.hp,h10,G,fun D U H11 f11 μ ok due h11=>?_⟩
    have D10:=Y.D.same S
    have X10:=Y.X.same S
    have nl1:U∉I:=fun m=>D10.there U m f11
    have nl2:U∉d4 l f rows:=fun m=>X10.there U m f11
    have Y:=Y.same (S.trans μ)
    obtain⟨ra,rb,rc,rd⟩:=aL.rowWd ok
    obtain⟨dx',c',fpc',κ,ch',ndc',efp'⟩:=id Y.D
    symm
    nofun
    symm
    refine bC κ (lk _) ?_
    symm
    refine rj 40 (aD.of h11) (fun x c=>(ra x c).1) (by rw[ck.2.2.1];omega) ?_
    symm
    exists rfl,d,_,I,s,rfl,Y.D,G.d,iH "`" ra
    rw[aL.acts ok s]
    refine⟨fun _ β B D' b' w'=>?_,(fun cl h=>by rw[due]at h;cases h)⟩
    symm
    refine gG rfl ?_
    obtain⟨X',α,S',θ,N,ι⟩:=Y.said D' b' w'
    symm
    refine⟨rfl,U,l,f,s,rows,D,i,rfl,b'.1 _ _ nl1 h11,nl2,X',G,ok,due,fun γ W X'' ω w''=>?_⟩
    symm
    have Y13:Jl K H γ d l f Z (O.map V.int) B (D.app s) W:=by
     refine⟨D'.but ω (fun x c m=>α x m c),X'',fun x c m=>?_,fun x o h=>ω.1 _ _ (fun m=>by rw[Y.f2 x m]at h;cases h) (S' _ _ h),θ,fun x c=>?_,ω.1 _ _ Y.z2 N,ι,fun m=>?_⟩
     .rcases w'' x c with z|z
      .exact α x z m
      .exact D'.there x m z
     .rcases w'' x c with z|z
      .exact Y.f2 x z
      .exact S'.free z
     .rcases w'' Z m with z|z
      .exact Y.z2 z
      .rw[N]at z;cases z
    rw[show s.giv+((D.app s).giv-s.giv)=(D.app s).giv by omega]
    exact hF _ _ ⟨D.app s,W,f,B,cl,_,_,Y13,G.app "`" due,rfl⟩
  rintro σ β ⟨s,rows,f,I,cl,v9,A,Y,G,rfl⟩
  symm
  refine⟨rfl,d,l,I,s,i+1,rfl,Y.D,G,by omega,Y.X.hp,fun γ ρ=>?_⟩
  symm
  have Y:=Y.same ρ
  refine⟨rfl,d,l,f,I,s,rows,i+1,rfl,Y.D,G,Y.X,fun H14 M=>?_⟩
  symm
  exact⟨s,rows,f,I,cl,_,_,_,_,Y.same M,G,rfl⟩
 clear Y0 G0
 rintro σ H15 ⟨s,rows,f,I,cl,v7,v8,v9,A,Y,G,rfl⟩
 have hn9:(O.map V.int).length<=900:=by omega
 obtain⟨c1,c2,_⟩:=rS s G
 symm
 refine⟨rfl,d,l,I,s,_,rfl,Y.D,G,hn9,Y.X.hp,fun m=>Y.dj l (by simp[d4]) m,fun H16 B D' b' w'=>?_⟩
 obtain⟨X',_⟩:=Y.said D' b' w'
 symm
 refine⟨rfl,d,l,B,aC s,_,by rw[c2],D',G.close hn9,hn9,by rw[c1];exact X'.hp,fun H17 s17=>?_⟩
 exact q _
end
structure Txt(K:QK)(mg:QH->Option QJ):Prop where
 Dh:bf K mg "_law_nth" vD ["script","k"]
 rJ:bU K "Chest" "__init__" "Chest.__init__" iU ["self"]
 tm:bU K "Desk" "__init__" "Desk.__init__" jV ["self"]
 zJ:bf K mg "_law_spins" pG ["cell","many"]
 xV:bf K mg "_law_number" mT ["word"]
 Ar:bf K mg "_law_works" qy ["answer"]
 Ae:bf K mg "read_words" qj ["row"]
 rA:bf K mg "least_multiple" i5 ["step","number"]
 D5:bf K mg "together" vm ["n"]
 BC:bf K mg "grains_of" sR ["voters","works"]
 EW:bf K mg "paid_by" yE ["steps","voter"]
 Gd:bf K mg "left_of" yd ["purses","steps"]
 AV:bf K mg "prices_of" sI ["costs","wishes"]
 AN:bf K mg "rounded_up" qi ["amount","shares"]
 Bl:bf K mg "level_for" sg ["purses","price"]
 BO:bf K mg "wants_all" sq ["wanted","works"]
 B1:bf K mg "common_of" rQ ["wishes","works"]
 zy:bf K mg "wanters_of" oU ["wishes","work"]
 Dl:bf K mg "offer_of" vQ ["purses","wishes","work","price"]
 Bx:bf K mg "offers_of" sV ["purses","costs","wishes","done"]
 F5:bf K mg "next_of" yN ["offers"]
 Du:bf K mg "works_of" wy ["steps"]
 E7:bf K mg "paid_at" yf ["purses","level"]
 xn:bf K mg "payments_of" nk ["purses","wishes","work","level"]
 wV:bf K mg "step_behind" mS ["purses","costs","wishes","steps"]
 Ig:bf K mg "choose" CB ["purses","costs","wishes"]
 om:bU K "Chest" "keep_coins" "Chest.keep_coins" gr ["self","left","grains"]
 j9:bU K "Chest" "wanted_places" "Chest.wanted_places" eP ["self","voter"]
 oQ:bU K "Chest" "told_step" "Chest.told_step" g9 ["self","place","paid"]
 oz:bU K "Chest" "check_work" "Chest.check_work" gM ["self","work"]
 rf:bU K "Chest" "withdraw" "Chest.withdraw" i7 ["self","work"]
 xG:bU K "Chest" "close" "Chest.close" nX ["self"]
 A4:bf K mg "paid_text" se ["rows"]
 Bt:bf K mg "done_text" sf ["work","cost","rows"]
 uH:bf K mg "closing_text" ki ["done","grains"]
 xc:bf K mg "close_chest" nF ["chest"]
 BL:bf K mg "work_text" sk ["work","cost","wanters"]
 Ax:bf K mg "works_text" qB ["works"]
 tS:bU K "Chest" "wanters" "Chest.wanters" j4 ["self","work"]
 xf:bU K "Chest" "works" "Chest.works" nA ["self"]
 Cf:bU K "Chest" "pot" "Chest.pot" sE ["self"]
 xp:bU K "Chest" "given" "Chest.given" mO ["self"]
 xt:bU K "Chest" "spent" "Chest.spent" nI ["self"]
 ET:bf K mg "say_one" ye ["chest","deed"]
 FV:bf K mg "is_name" yc ["name"]
 qX:bf K mg "check_new_name" i4 ["name","names"]
 x6:bf K mg "check_place" nR ["names","most"]
 xZ:bU K "Chest" "enrol" "Chest.enrol" nY ["self","name"]
 mK:bU K "Chest" "check_voter" "Chest.check_voter" fU ["self","voter"]
 rL:bU K "Chest" "purse_of" "Chest.purse_of" iY ["self","voter"]
 x9:bU K "Chest" "leave" "Chest.leave" m6 ["self","name"]
 xM:bf K mg "check_coins" nD ["coins","least"]
 xX:bU K "Chest" "share" "Chest.share" nN ["self","part"]
 zq:bU K "Chest" "give" "Chest.give" qk ["self","coins"]
 BG:bf K mg "is_number" rP ["word"]
 xJ:bf K mg "read_number" mW ["word"]
 ER:bf K mg "say_two" yY ["chest","deed","word"]
 sZ:bU K "Chest" "propose" "Chest.propose" jT ["self","work","cost"]
 Aw:bU K "Chest" "want" "Chest.want" o6 ["self","voter","work"]
 vH:bU K "Chest" "unwant" "Chest.unwant" lE ["self","voter","work"]
 B7:bf K mg "say_three" rM ["chest","deed","word","last"]
 DV:bU K "Desk" "say" "Desk.say" uV ["self","row"]
 zm:bf K mg "_law_asked" qF ["desk","people"]
 Cd:bf K mg "_law_paid" sm ["text","names","left"]
 oh:bf K mg "_law_parts_right" gJ ["parts","grains","works","left"]
 tN:bf K mg "_law_too_dear" jX ["works","people","purses"]
 xP:bf K mg "_law_closed" nZ ["desk","people"]
 Bw:bf K mg "_law_sums" so ["desk","people","given"]
 Br:bf K mg "_law_name" rW ["cell","k"]
 xK:bf K mg "_law_amount" nP ["x","given"]
 CK:bf K mg "_law_row" vY ["xs","cell","people","plans","given"]
 wQ:bf K mg "_law_refused" kF ["desk","xs","cell","people","works"]
 zw:bf K mg "_law_noted" pR ["words","people","works"]
 zo:bf K mg "_law_shown" qM ["desk","people","works"]
 f_law:bf K mg "law" Cv ["script"]
 ic:me K mg "Chest"
 jh:me K mg "Desk"
 qI:dR K mg "NoRow"
 kG:dR K mg "NoWork"
 kL:dR K mg "NoName"
 qE:dR K mg "Twice"
 vd:dR K mg "Full"
 iQ:dR K mg "NoVoter"
 iK:dR K mg "TooMuch"
 jG:dR K mg "PurseError"
 cls:fR K
 z_all:mg "all"=χ
 Ho:mg "dict"=χ
 rO:mg "enumerate"=χ
 z_int:mg "int"=χ
 zu:mg "isinstance"=χ
 z_len:mg "len"=χ
 HV:mg "list"=χ
 z_max:mg "max"=χ
 z_min:mg "min"=χ
 Eu:mg "range"=χ
 BZ:mg "sorted"=χ
 z_str:mg "str"=χ
 z_sum:mg "sum"=χ
 z_zip:mg "zip"=χ
 Fv:GU mg "FIGURES" "0123456789"
 F3:GU mg "LETTERS" "abcdefghijklmnopqrstuvwxyz"
 uw:sH mg "MOST_AT_ONCE" 1000000000
 vZ:sH mg "MOST_FIGURES" 13
 uK:sH mg "MOST_LETTERS" 8
 xC:sH mg "MOST_VOTERS" 20
 Aq:sH mg "MOST_WORKS" 12
section
seal vt PS PE PA PT PC PI L2.PG PW DR PO NV Sj Rz unaryOp fA NQ az aa tC dB aJ ax aV aS bj sy CM
variable {P:Q0}{w:QX}{K:QK}{mg:QH->Option QJ}{base:QS}
theorem Qy{X:Cx}{N:⇑QH}{scope:RG}{C cl s H fp a}(h:N.Nodup):(dY X N scope C cl s H fp a).N.Nodup:=h
variable (T:Txt K mg)
include T
local macro_rules | `(tactic| infer_instance) => `(tactic| first | (show gT P w K mg base _ _ _ _; with_reducible walk_at "9As vo tH vc oK Aj xv BD Bj w6 vq xl xx xT vA zR xS CA AO Cm tF tK Di wW xD qZ tG wY vw B2 wX uN xw kJ qd tP xW ya sY AI rE vL vb") | (show vz P w K mg base _ _ _ _; with_reducible walk_at "9wG BX oo tI tJ tp Cq wZ") | (show dm qR P w K mg base _ _ _ _ _; with_reducible walk_at "9ox qC lH iJ mH tq p5 tM xh tU tf tT") | (show dm (dk P w base) P w K mg base _ _ _ _ _; with_reducible walk_at "9md oy tu kc oO tR u5 p4 vM rH pq"))
local macro_rules | `(tactic| ac_rfl) => `(tactic| repeat' first
 |(refine(?_:PE _ _ _);first|exact pv _|(refine(?_:PE _ (.Subscript _ _ _) _);first|walk_at "4OI G7"|refine K7 (Bf hr) ?_ ?_ ?_)|walk_at "0Mi Ni MG O0 Iz"|walk_at "3OM HD"|walk_at "2LO Nj Po"|walk_at "1NL MW K4 KZ KP Ny Kb Mq"|walk_at "4JN"|walk_at "5HW"|exact T.uw.pe (by rfl)|exact T.uK.pe (by rfl)|exact T.F3.pe (by rfl)|exact T.xC.pe (by rfl)|exact T.vZ.pe (by rfl)|exact T.Fv.pe (by rfl)|exact T.Aq.pe (by rfl)|(refine(?_:PE _ (.Call (.Name _ _) _ _ _) _);first|refine df zk ?_ T.z_len Wh ?_|refine ja FE ?_ T.z_str ZN ?_|refine df Fu ?_ T.z_len Wh ?_|refine df (Ja rfl) ?_ T.z_sum abE ?_|refine df CN ?_ T.z_len Wh ?_|refine ja EM ?_ T.z_int aaC ?_|refine df (IX rfl) ?_ T.z_all abZ ?_|refine df (FL rfl) ?_ T.z_min aal ?_|refine NO (by infer_instance) (hr.mono (by decide)) ?_|refine Kc (by infer_instance) (hr.mono (by decide)) ?_|refine FA (by infer_instance) (by first|exact T.ic|exact T.jh) (hr.mono (by decide)))|(refine(?_:PE _ (.Call (.Attribute _ _ _) _ _ _) _);first|refine uy Vx Ye aaj yX ?_ ?_|refine uy WN Vs Z3 IQ ?_ ?_|refine uy WN XI aa0 JM ?_ ?_|refine uy Vx Xz aaV (EN hr.units) ?_ ?_|refine Il (by infer_instance) (by first|exact T.ic|exact T.jh) (hr.mono (by decide)) ?_ ?_|refine HJ (by infer_instance) (by first|exact T.ic|exact T.jh) (hr.mono (by decide)) ?_ ?_|refine JG (by infer_instance) (by first|exact T.ic|exact T.jh) (hr.mono (by decide)) ?_ ?_|refine Je (by infer_instance) (by first|exact T.ic|exact T.jh) (hr.mono (by decide)) ?_))
 |(refine(?_:PA _ _ _);first|walk_at "0z9"|walk_at "2tW")
 |(refine(?_:vt _ _ _);first|walk_at "0KW"|walk_at "2bh"|walk_at "1c6")
 |(refine(?_:DR _ _ _);first|walk_at "0Hk"|walk_at "1IL")
 |(refine(?_:NV _ _ _);first|walk_at "0JY"|walk_at "2GB")
 |(refine(?_:PO _ _ _);first|walk_at "0Kj"|walk_at "1Jn")
 |(refine(?_:PT _ _ _);first|walk_at "4KR"|walk_at "1MC M9 LK Nq M2"|refine PW.pt ?_)
 |(refine(?_:PS _ _ _);first|walk_at "1LM KO HN"|walk_at "4Ji"|walk_at "3O7 MM Gn"|walk_at "2Gj"|walk_at "5NF"|refine MQ Wx ?_ ?_ ?_ ?_|refine J8 (Bf hr) ?_ ?_ ?_ ?_)
 |(refine(?_:L2.PG _ _ _);first|walk_at "3KS"|walk_at "2LG")
 |(refine(?_:PI _ _ _ _);first|walk_at "1K5 Km Ju GO JU"|refine K6 ?_ T.rO ?_|refine FQ ?_ T.Eu ?_)
 |(refine(?_:PW _ _ _);first|walk_at "2OW M7"|walk_at "1MN Jp")
 |(refine(?_:fA _ _ _);first|walk_at "0Pf Kh KG Jw N8 Fc MI Jq JQ Mv Kr LB L1 zG LZ KC Nv K3 MT Gm"|exact DT hr.units|exact C4 hr.units|exact Md hr.units|exact C3 hr.units|exact Ke hr.units)
 |(refine(?_:NQ _ _);first|walk_at "0JP ME Nm")
 |(refine(?_:dR _ _ _);first|walk_at "0T.qI T.kG T.kL T.qE T.vd T.iQ T.iK")
 |exact rfl
 |exact VM rfl
 |exact VZ rfl
 |exact Nr _
 |exact fun _ _=>rfl
 |exact nd
 |exact Qy (by decide +kernel)
 |exact hr.mono (by decide)
 |exact PJ.nil
 |exact KH
 |exact LP
 |exact L0
 |exact LV
 |exact Iv GW
 |exact Iv HA
 |exact Iv G2
 |exact Mb
 |refine PJ.cons ?_ ?_)
local macro_rules | `(tactic| specialize $e) => `(tactic| (first | (refine KJ (N := $e) ?_ ⟨rfl, by decide +kernel, by rfl, rfl, by rfl⟩ ?_ (fun _ _ _ _ _ _ => ?_) (fun _ _ _ _ _ _ => ?_) (fun _ _ _ _ _ _ => ?_)) | (refine Js (N := $e) ?_ ?_ ?_ ?_ ⟨rfl, by decide +kernel, by rfl, rfl, by rfl⟩ ?_ (fun _ _ _ _ _ _ => ?_) (fun _ _ _ _ _ _ => ?_) (fun _ _ _ _ _ _ => ?_) (by with_unfolding_all rfl))) <;> ac_rfl)
theorem As:gT P w K mg base 1 "_law_nth" ["script","k"] (lj K):=T.Dh.cal sJ (aA rfl) (fun _ _ _ _ _ _ _ hr=>by have nd:=sJ.nd;ac_rfl) Bi
theorem ox:dm qR P w K mg base 1 "Chest" "__init__" ["self"] (eu K):=T.rJ.cal hV (aA rfl) (fun _ _ _ _ _ _ _ hr=>by have nd:=hV.nd;ac_rfl) (o8 T.cls)
theorem qC:dm qR P w K mg base 3 "Desk" "__init__" ["self"] (eT K):=T.tm.cal iV (aA rfl) (fun _ _ _ _ _ _ _ hr=>by have nd:=iV.nd;ac_rfl) (rm T.cls)
theorem vo:gT P w K mg base 1 "_law_spins" ["cell","many"] (fg K):=T.zJ.cal nL (aA rfl) (fun _ _ _ _ _ _ _ hr=>by have nd:=nL.nd;ac_rfl) xY
theorem tH:gT P w K mg base 1 "_law_number" ["word"] (bD K):=T.xV.cal kS (aA rfl) (fun _ _ _ _ _ _ _ hr=>by have nd:=kS.nd;ac_rfl;specialize["sign"]) vX
theorem vc:gT P w K mg base 2 "_law_works" ["answer"] (cY K):=T.Ar.cal og (aA rfl) (fun _ _ _ _ _ _ _ hr=>by have nd:=og.nd;ac_rfl) xF
theorem wG:vz P w K mg base 1 "read_words" ["row"] (ix K):=T.Ae.calX nU (fun _ _ _ _ h=>h.1) (fun _ _ _ _ _ _ _ hr=>by have nd:=nU.nd;refine(bh (PS.nox ?_) (bh ?_ (c6 (PS.nox ?_))));ac_rfl) xB
theorem oK:gT P w K mg base 1 "least_multiple" ["step","number"] (eI K):=T.rA.cal ie (aA rfl) (fun _ _ _ _ _ _ _ hr=>by have nd:=ie.nd;ac_rfl;refine BH Wx ?_ ?_;ac_rfl) pL
theorem Aj:gT P w K mg base 2 "together" ["n"] (kR K):=T.D5.cal sD (aA rfl) (fun _ _ _ _ _ _ _ hr=>by have nd:=sD.nd;ac_rfl;refine F7 ?_ T.Eu ?_;ac_rfl) Bz
theorem xv:gT P w K mg base 3 "grains_of" ["voters","works"] (fW K):=T.BC.cal pD (aA rfl) (fun _ _ _ _ _ _ _ hr=>by have nd:=pD.nd;ac_rfl) zU
theorem BD:gT P w K mg base 1 "paid_by" ["steps","voter"] (oH K):=T.EW.cal vK (aA rfl) (fun _ _ _ _ _ _ _ hr=>by have nd:=vK.nd;ac_rfl;specialize["work","level","paid","voter"]) Dx
theorem Bj:gT P w K mg base 2 "left_of" ["purses","steps"] (jg K):=T.Gd.cal uI (aA rfl) (fun _ _ _ _ _ _ _ hr=>by have nd:=uI.nd;ac_rfl;specialize["voter","purse","steps"]) DL
theorem w6:gT P w K mg base 4 "prices_of" ["costs","wishes"] (jz K):=T.AV.cal pA (aA rfl) (fun _ _ _ _ _ _ _ hr=>by have nd:=pA.nd;ac_rfl;specialize["cost","grains"]) zc
theorem vq:gT P w K mg base 1 "rounded_up" ["amount","shares"] (iB K):=T.AN.cal ng (aA rfl) (fun _ _ _ _ _ _ _ hr=>by have nd:=ng.nd;ac_rfl) xy
theorem xl:gT P w K mg base 2 "level_for" ["purses","price"] (jJ K):=T.Bl.cal p7 (aA rfl) (fun _ _ _ _ _ _ _ hr=>by have nd:=p7.nd;ac_rfl;refine df sQ ?_ T.BZ ZJ ?_;ac_rfl) Ai
theorem xx:gT P w K mg base 1 "wants_all" ["wanted","works"] (jK K):=T.BO.cal qo (aA rfl) (fun _ _ _ _ _ _ _ hr=>by have nd:=qo.nd;ac_rfl;specialize["work","wanted"]) zV
theorem xT:gT P w K mg base 2 "common_of" ["wishes","works"] (jA K):=T.B1.cal p8 (aA rfl) (fun _ _ _ _ _ _ _ hr=>by have nd:=p8.nd;ac_rfl;specialize["voter","wanted","works"]) Af
theorem vA:gT P w K mg base 3 "wanters_of" ["wishes","work"] (fh K):=T.zy.cal nK (aA rfl) (fun _ _ _ _ _ _ _ hr=>by have nd:=nK.nd;ac_rfl) xQ
theorem zR:gT P w K mg base 4 "offer_of" ["purses","wishes","work","price"] (kK K):=T.Dl.cal sS (aA rfl) (fun _ _ _ _ _ _ _ hr=>by have nd:=sS.nd;ac_rfl;specialize["voter","purses"]) Ct
theorem xS:gT P w K mg base 5 "offers_of" ["purses","costs","wishes","done"] (je K):=T.Bx.cal qh (aA rfl) (fun _ _ _ _ _ _ _ hr=>by have nd:=qh.nd;ac_rfl) zx
theorem CA:gT P w K mg base 1 "next_of" ["offers"] (oJ K):=T.F5.cal wI (aA rfl) (fun _ _ _ _ _ _ _ hr=>by have nd:=wI.nd;ac_rfl) DZ
theorem AO:gT P w K mg base 1 "works_of" ["steps"] (lN K):=T.Du.cal sA (aA rfl) (fun _ _ _ _ _ _ _ hr=>by have nd:=sA.nd;ac_rfl;refine df sQ ?_ T.BZ ZJ ?_;ac_rfl;specialize["work","level","paid"]) BK
theorem Cm:gT P w K mg base 1 "paid_at" ["purses","level"] (oI K):=T.E7.cal wF (aA rfl) (fun _ _ _ _ _ _ _ hr=>by have nd:=wF.nd;ac_rfl;specialize["purse","level"]) CS
theorem tF:gT P w K mg base 4 "payments_of" ["purses","wishes","work","level"] (gL K):=T.xn.cal kA (aA rfl) (fun _ _ _ _ _ _ _ hr=>by have nd:=kA.nd;ac_rfl;specialize["voter","paid","wanters"]) vV
theorem tK:gT P w K mg base 6 "step_behind" ["purses","costs","wishes","steps"] (da K):=T.wV.cal kn (aA rfl) (fun _ _ _ _ _ _ _ hr=>by have nd:=kn.nd;ac_rfl) va
theorem Di:gT P w K mg base 7 "choose" ["purses","costs","wishes"] (qU K):=T.Ig.cal yU (aA rfl) (fun _ _ _ _ _ _ _ hr=>by have nd:=yU.nd;ac_rfl;refine BH Wx ?_ ?_;ac_rfl) FK
theorem lH:dm qR P w K mg base 1 "Chest" "keep_coins" ["self","left","grains"] (du K):=T.om.cal fO (aA rfl) (fun _ _ _ _ _ _ _ hr=>by have nd:=fO.nd;ac_rfl;specialize["part","grains"];refine Hm ?_ ?_ T.Ho ?_ T.z_zip ?_;ac_rfl;specialize["part","grains"]) (mI T.cls)
theorem iJ:dm qR P w K mg base 1 "Chest" "wanted_places" ["self","voter"] (cU K):=T.j9.cal eF (aA rfl) (fun _ _ _ _ _ _ _ hr=>by have nd:=eF.nd;ac_rfl;specialize["place","work","voter","self"];refine Jc ?_ T.rO ?_;ac_rfl) (jH T.cls)
theorem mH:dm qR P w K mg base 1 "Chest" "told_step" ["self","place","paid"] (dF K):=T.oQ.cal gu (aA rfl) (fun _ _ _ _ _ _ _ hr=>by have nd:=gu.nd;ac_rfl;refine ja (D0 rfl) ?_ T.HV Zy ?_;ac_rfl;specialize["voter","part"];refine J0 ?_ T.z_zip ?_;ac_rfl) (oA T.cls)
theorem md:dm (dk P w base) P w K mg base 1 "Chest" "check_work" ["self","work"] (cn K):=T.oz.calX fK (fun _ _ _ _ h=>h.1) (fun _ _ _ _ _ _ _ hr=>by have nd:=fK.nd;ac_rfl;refine yD (Bf hr) ?_ ?_;ac_rfl) (mG T.cls)
theorem oy:dm (dk P w base) P w K mg base 2 "Chest" "withdraw" ["self","work"] (c5 K):=T.rf.calX ib (fun _ _ _ _ h=>h.1) (fun _ _ _ _ _ _ _ hr=>by have nd:=ib.nd;refine(bh ?_ (bh (PS.nox ?_) (c6 (PS.nox ?_))));ac_rfl;refine Co ?_ ?_ ⟨rfl,rfl,rfl,rfl⟩;ac_rfl;specialize["voter","other","work"]) (px T.cls)
theorem tq:dm qR P w K mg base 8 "Chest" "close" ["self"] (gE K):=T.xG.cal lU (aA rfl) (fun _ _ _ _ _ _ _ hr=>by have nd:=lU.nd;ac_rfl;specialize["purse","grains"];specialize["voter","self"];refine ja (z0 rfl) ?_ T.HV Zy ?_;ac_rfl;refine NN V4 Vz Zc JO ?_;ac_rfl;specialize["work","level","paid","self"]) (vj T.cls)
theorem wW:gT P w K mg base 1 "paid_text" ["rows"] (jm K):=T.A4.cal pJ (aA rfl) (fun _ _ _ _ _ _ _ hr=>by have nd:=pJ.nd;ac_rfl;specialize["voter","paid"]) AB
theorem xD:gT P w K mg base 2 "done_text" ["work","cost","rows"] (jq K):=T.Bt.cal qG (aA rfl) (fun _ _ _ _ _ _ _ hr=>by have nd:=qG.nd;ac_rfl) Aa
theorem qZ:gT P w K mg base 3 "closing_text" ["done","grains"] (fF K):=T.uH.cal jU (aA rfl) (fun _ _ _ _ _ _ _ hr=>by have nd:=jU.nd;ac_rfl;specialize["work","cost","rows"]) tz
theorem tG:gT P w K mg base 9 "close_chest" ["chest"] (gF K):=T.xc.cal lY (aA rfl) (fun _ _ _ _ _ _ _ hr=>by have nd:=lY.nd;ac_rfl) uF
theorem wY:gT P w K mg base 1 "work_text" ["work","cost","wanters"] (jB K):=T.BL.cal qg (aA rfl) (fun _ _ _ _ _ _ _ hr=>by have nd:=qg.nd;ac_rfl) Ad
theorem vw:gT P w K mg base 2 "works_text" ["works"] (iD K):=T.Ax.cal mX (aA rfl) (fun _ _ _ _ _ _ _ hr=>by have nd:=mX.nd;ac_rfl;specialize["work","cost","wanters"]) xu
theorem p5:dm qR P w K mg base 1 "Chest" "wanters" ["self","work"] (eQ K):=T.tS.cal i8 (aA rfl) (fun _ _ _ _ _ _ _ hr=>by have nd:=i8.nd;ac_rfl;specialize["voter","work","self"]) (rG T.cls)
theorem tM:dm qR P w K mg base 2 "Chest" "works" ["self"] (gP K):=T.xf.cal kO (aA rfl) (fun _ _ _ _ _ _ _ hr=>by have nd:=kO.nd;ac_rfl;specialize["work","cost","self"]) (u6 T.cls)
theorem xh:dm qR P w K mg base 1 "Chest" "pot" ["self"] (jv K):=T.Cf.cal pV (aA rfl) (fun _ _ _ _ _ _ _ hr=>by have nd:=pV.nd;ac_rfl) (zi T.cls)
theorem tU:dm qR P w K mg base 1 "Chest" "given" ["self"] (gD K):=T.xp.cal kh (aA rfl) (fun _ _ _ _ _ _ _ hr=>by have nd:=kh.nd;ac_rfl) (ve T.cls)
theorem tf:dm qR P w K mg base 1 "Chest" "spent" ["self"] (gC K):=T.xt.cal kT (aA rfl) (fun _ _ _ _ _ _ _ hr=>by have nd:=kT.nd;ac_rfl) (uP T.cls)
theorem BX:vz P w K mg base 10 "say_one" ["chest","deed"] (oq K):=T.ET.calX vf (fun _ _ _ _ h=>h.1) (fun _ _ _ _ _ _ _ hr=>by have nd:=vf.nd;refine(bh (PS.nox ?_) (bh (PS.nox ?_) (bh (PS.nox ?_) (bh (PS.nox ?_) (bh (PS.nox ?_) ?_)))));ac_rfl) De
theorem B2:gT P w K mg base 1 "is_name" ["name"] (ou K):=T.FV.cal uJ (aA rfl) (fun _ _ _ _ _ _ _ hr=>by have nd:=uJ.nd;ac_rfl;specialize["sign"]) DK
theorem oo:vz P w K mg base 2 "check_new_name" ["name","names"] (c7 K):=T.qX.calX hW (fun _ _ _ _ h=>h.1) (fun _ _ _ _ _ _ _ hr=>by have nd:=hW.nd;ac_rfl;refine Mn (Bf hr) ?_ ?_;ac_rfl) pW
theorem tI:vz P w K mg base 1 "check_place" ["names","most"] (el K):=T.x6.calX kW (fun _ _ _ _ h=>h.1) (fun _ _ _ _ _ _ _ hr=>by have nd:=kW.nd;ac_rfl) uM
theorem tu:dm (dk P w base) P w K mg base 3 "Chest" "enrol" ["self","name"] (gS K):=T.xZ.calX lL (fun _ _ _ _ h=>h.1) (fun _ _ _ _ _ _ _ hr=>by have nd:=lL.nd;refine(bh ?_ (bh ?_ (c6 (PS.nox ?_))));ac_rfl) (vT T.cls)
theorem kc:dm (dk P w base) P w K mg base 1 "Chest" "check_voter" ["self","voter"] (bN K):=T.mK.calX fv (fun _ _ _ _ h=>h.1) (fun _ _ _ _ _ _ _ hr=>by have nd:=fv.nd;ac_rfl;refine yD (Bf hr) ?_ ?_;ac_rfl) (lI T.cls)
theorem oO:dm (dk P w base) P w K mg base 2 "Chest" "purse_of" ["self","voter"] (ee K):=T.rL.calX hU (fun _ _ _ _ h=>h.1) (fun _ _ _ _ _ _ _ hr=>by have nd:=hU.nd;refine(bh ?_ (c6 (PS.nox ?_)));ac_rfl) (pH T.cls)
theorem tR:dm (dk P w base) P w K mg base 2 "Chest" "leave" ["self","name"] (gm K):=T.x9.calX kU (fun _ _ _ _ h=>h.1) (fun _ _ _ _ _ _ _ hr=>by have nd:=kU.nd;refine(bh ?_ (bh (PS.nox ?_) (c6 (PS.nox ?_))));ac_rfl;refine Co ?_ ?_ ⟨rfl,rfl,rfl,rfl⟩;ac_rfl;specialize["voter","work","name"]) (vO T.cls)
theorem tJ:vz P w K mg base 1 "check_coins" ["coins","least"] (eJ K):=T.xM.calX kx (fun _ _ _ _ h=>h.1) (fun _ _ _ _ _ _ _ hr=>by have nd:=kx.nd;ac_rfl) wM
theorem tT:dm qR P w K mg base 1 "Chest" "share" ["self","part"] (gI K):=T.xX.cal lC (aA rfl) (fun _ _ _ _ _ _ _ hr=>by have nd:=lC.nd;ac_rfl;refine ja (CO rfl) ?_ T.Ho nofun ?_;ac_rfl;specialize["voter","purse","part"]) (vF T.cls)
theorem u5:dm (dk P w base) P w K mg base 2 "Chest" "give" ["self","coins"] (iC K):=T.zq.calX mZ (fun _ _ _ _ h=>h.1) (fun _ _ _ _ _ _ _ hr=>by have nd:=mZ.nd;refine(bh ?_ (bh (PS.nox ?_) (bh (PS.nox ?_) (c6 (PS.nox ?_)))));ac_rfl) (xN T.cls)
theorem wX:gT P w K mg base 1 "is_number" ["word"] (jQ K):=T.BG.cal pU (aA rfl) (fun _ _ _ _ _ _ _ hr=>by have nd:=pU.nd;ac_rfl;refine uy WN Zi aam xE ?_ ?_;ac_rfl;specialize["sign"]) zH
theorem tp:vz P w K mg base 2 "read_number" ["word"] (eD K):=T.xJ.calX kP (fun _ _ _ _ h=>h.1) (fun _ _ _ _ _ _ _ hr=>by have nd:=kP.nd;refine(bh ?_ (c6 (PS.nox ?_)));ac_rfl) uX
theorem Cq:vz P w K mg base 4 "say_two" ["chest","deed","word"] (ow K):=T.ER.calX wz (fun _ _ _ _ h=>h.1) (fun _ _ _ _ _ _ _ hr=>by have nd:=wz.nd;refine(bh ?_ (bh ?_ (c6 (PS.nox ?_))));ac_rfl) DU
theorem p4:dm (dk P w base) P w K mg base 3 "Chest" "propose" ["self","work","cost"] (eS K):=T.sZ.calX iX (fun _ _ _ _ h=>h.1) (fun _ _ _ _ _ _ _ hr=>by have nd:=iX.nd;refine(bh ?_ (bh ?_ (bh ?_ (c6 (PS.nox ?_)))));ac_rfl) (rK T.cls)
theorem vM:dm (dk P w base) P w K mg base 2 "Chest" "want" ["self","voter","work"] (iw K):=T.Aw.calX nt (fun _ _ _ _ h=>h.1) (fun _ _ _ _ _ _ _ hr=>by have nd:=nt.nd;refine(bh ?_ (bh ?_ (c6 (PS.nox ?_))));ac_rfl) (xj T.cls)
theorem rH:dm (dk P w base) P w K mg base 2 "Chest" "unwant" ["self","voter","work"] (fE K):=T.vH.calX j6 (fun _ _ _ _ h=>h.1) (fun _ _ _ _ _ _ _ hr=>by have nd:=j6.nd;refine(bh ?_ (bh ?_ (c6 (PS.nox ?_))));ac_rfl;specialize["wish","voter","work"]) (tO T.cls)
theorem wZ:vz P w K mg base 4 "say_three" ["chest","deed","word","last"] (jf K):=T.B7.calX qJ (fun _ _ _ _ h=>h.1) (fun _ _ _ _ _ _ _ hr=>by have nd:=qJ.nd;refine(bh ?_ (c6 (PS.nox ?_)));ac_rfl) zM
theorem pq:dm (dk P w base) P w K mg base 11 "Desk" "say" ["self","row"] (bT K):=T.DV.calX sO (fun _ _ _ _ h=>h.1) (fun _ _ _ _ _ _ _ hr=>by have nd:=sO.nd;ac_rfl) (BJ T.cls)
theorem uN:gT P w K mg base 12 "_law_asked" ["desk","people"] (dA K):=T.zm.cal mR (aA rfl) (fun _ _ _ _ _ _ _ hr=>by have nd:=mR.nd;ac_rfl;specialize["row","desk"];specialize["name","desk"]) xO
theorem xw:gT P w K mg base 2 "_law_paid" ["text","names","left"] (jj K):=T.Cd.cal pf (aA rfl) (fun _ _ _ _ _ _ _ hr=>by have nd:=pf.nd;ac_rfl) zQ
theorem kJ:gT P w K mg base 3 "_law_parts_right" ["parts","grains","works","left"] (dq K):=T.oh.cal fM (aA rfl) (fun _ _ _ _ _ _ _ hr=>by have nd:=fM.nd;ac_rfl;specialize["work","halves"]) mJ
theorem qd:gT P w K mg base 1 "_law_too_dear" ["works","people","purses"] (eW K):=T.tN.cal i0 (aA rfl) (fun _ _ _ _ _ _ _ hr=>by have nd:=i0.nd;ac_rfl;specialize["k","people","names","purses"]) ro
theorem tP:gT P w K mg base 13 "_law_closed" ["desk","people"] (d7 K):=T.xP.cal kB (aA rfl) (fun _ _ _ _ _ _ _ hr=>by have nd:=kB.nd;ac_rfl;refine df AU ?_ T.zu Z2 ?_;ac_rfl;refine JH ?_ T.z_str ZN ?_;ac_rfl;specialize["name","left","grains"]) uT
theorem xW:gT P w K mg base 13 "_law_sums" ["desk","people","given"] (fY K):=T.Bw.cal qD (aA rfl) (fun _ _ _ _ _ _ _ hr=>by have nd:=qD.nd;ac_rfl;specialize["number"]) Ac
theorem ya:gT P w K mg base 2 "_law_name" ["cell","k"] (cq K):=T.Br.cal pM (aA rfl) (fun _ _ _ _ _ _ _ hr=>by have nd:=pM.nd;ac_rfl;specialize["x","letters"]) zX
theorem sY:gT P w K mg base 1 "_law_amount" ["x","given"] (eE K):=T.xK.cal kH (aA rfl) (fun _ _ _ _ _ _ _ hr=>by have nd:=kH.nd;ac_rfl) uL
theorem AI:gT P w K mg base 3 "_law_row" ["xs","cell","people","plans","given"] (lA K):=T.CK.cal rV (aA rfl) (fun _ _ _ _ _ _ _ hr=>by have nd:=rV.nd;ac_rfl;refine df (yO rfl) ?_ T.z_max Zl ?_;ac_rfl;refine df (yO rfl) ?_ T.z_max Zl ?_;ac_rfl;specialize["one","people"];specialize["k","cell"];specialize["one","plans"];specialize["k","cell"]) A3
theorem rE:gT P w K mg base 12 "_law_refused" ["desk","xs","cell","people","works"] (fB K):=T.wQ.cal fI (aA rfl) (fun _ _ _ _ _ _ _ hr=>by have nd:=fI.nd;ac_rfl;specialize["one"];refine Hh (fun b=>(RM:b∉([]:⇑QI))) ?_ ?_ ?_ ?_ ?_ ?_ T.jG.bound (fun E=>(K9 (E:=E) (pq T) T.jh (hr.mono "^") (fun b=>(RM:b∉([]:⇑QI))) (pv 0) (tW (pv 7) z9))) (fun v=>(c6 (Ji (i:=8) fI.nd rfl (VM rfl) (pv 9))));ac_rfl) (tQ T.cls)
theorem vL:gT P w K mg base 1 "_law_noted" ["words","people","works"] (iA K):=T.zw.cal nS (aA rfl) (fun _ _ _ _ _ _ _ hr=>by have nd:=nS.nd;ac_rfl;refine uy Vx Xr abQ GQ ?_ ?_;ac_rfl;refine uy Vx Zb aa4 Gq ?_ ?_;ac_rfl;specialize["work"]) xR
theorem vb:gT P w K mg base 12 "_law_shown" ["desk","people","works"] (iz K):=T.zo.cal nW (aA rfl) (fun _ _ _ _ _ _ _ hr=>by have nd:=nW.nd;ac_rfl;specialize["name","names"]) xU
theorem LJ{f:QI}{a:QJ}{A:Q6}{outer:⇑Ri}{s:QL}{H:Hp}{E:XK}(hr:cH 13 (A.deeper (RY "law" (ag Cv) s.heap.objs.size f a))):
  vt (bS qR P w K mg base ["script","cell","desk","people","works","given","closings","one","xs","left","words"] "law" (ag Cv) f a A outer s H E).nox (cT Cv) (C2 K):=
 (by have nd:=GX.nd;ac_rfl;specialize["work","cost","names"];specialize["work","left"];specialize["work"])
end
end My
open PySem PySem.W PyProof.Rows
namespace PySem.W.Fast
def tw3901448684554715736:=0
def tw7116366704453394350:=0
def tw13950209978009863068:=0
def tw1227657973151414421:=0
def tw2885750649094899283:=0
def tw16026323275405421940:=0
def tw7142730915466378335:=0
def tw14789258310700991728:=0
def tw15809487373114625938:=0
def tw15182412667882595266:=0
def tw3481659791535250967:=0
def tw10916138054838437869:=0
def tw14833222825784265020:=0
def tw9092661226629286025:=0
def tw13986030046297313583:=0
def tw2421961919139225693:=0
def tw580452591282040621:=0
def tw12915787133789908236:=0
def tw6945531207090880044:=0
def tw16694685817938531584:=0
def tw5158133773293674382:=0
def tw5177816332857852812:=0
def tw2538971951986182639:=0
def tw13246753673292776651:=0
def tw17555333449213481710:=0
def tw15138126585140049336:=0
def tw15046575207169680069:=0
def tw5662163982619664281:=0
def tw12586159875953857563:=0
def tw6906238280951612302:=0
def tw18217600488161623308:=0
def tw7631666316969667795:=0
def tw4279124636393707657:=0
def tw16263459875063972666:=0
def tw5817579599432330472:=0
def tw3603657239589044177:=0
def tw10325449255922528553:=0
def tw2319083323487222072:=0
def tw7250621612013445283:=0
def tw12682666477417050172:=0
def tw6966598114646515812:=0
def tw13846011359622355467:=0
def tw5447316803416614843:=0
def tw1648127191643553705:=0
def tw9683898746012246090:=0
def tw11738701800721646151:=0
def tw17869781818354929148:=0
def tw10523255563681647638:=0
def tw16829934675501367699:=0
def tw7415123251818491462:=0
def tw12957332585324762179:=0
def tw537525686070390503:=0
def tw13564605208146363671:=0
def tw5926756444468443311:=0
def tw1591684758855456979:=0
def tw1544203242016223815:=0
def tw9664168265162783616:=0
def tw8733217919881183528:=0
def tw12389958122018236765:=0
def tw14455664829187508304:=0
def tw10447400431777446282:=0
def tw15095536557684973543:=0
def tw7478630255399827228:=0
def tw3321306973817846323:=0
def tw6938458146588561974:=0
def tw7005611808672421345:=0
def tw14286393073160277658:=0
def tw9680728540617956428:=0
def tw11984315166015575911:=0
def tw12077655255560943856:=0
def tw7683981187973593218:=0
def tw1025008130575019104:=0
def tw16854708693735439913:=0
def tw2423897478172952136:=0
def tw14374811806003928234:=0
def tw5449366728895635636:=0
def tw3436652199543538876:=0
def tw17738010043132816481:=0
def tw16418244309059153172:=0
def tw4511624149632171900:=0
def tw312744568131591477:=0
def tw12303457695257666175:=0
def tw11004470120903573091:=0
def tw16066910366409840027:=0
def tw12777640230183514806:=0
def tw14170159280837250380:=0
def tw16620398628596014860:=0
def tw1842387944051776923:=0
def tw5292167108697615401:=0
def tw5824631705611317783:=0
def tw2514898936574005637:=0
def tw17179605078026019656:=0
def tw645181069500849704:=0
def tw4424798274649254929:=0
def tw8901813277391008878:=0
def tw2144772825687383895:=0
def tw7588176520301274442:=0
def tw1779029382502418564:=0
def tw8463380928321392975:=0
def tw15768208422680580840:=0
def tw17632124390825967071:=0
def tw12642544388260976947:=0
def tw15656732172920125560:=0
def tw16729055644621211386:=0
def tw11185823332697987594:=0
def tw13727391224283624899:=0
def tw10133511330166393901:=0
def tw5709990431657707331:=0
def tw506595033408351209:=0
def tw15981882797640603004:=0
def tw8109048694633891802:=0
def tw18032647546937089411:=0
def tw3883319255406687661:=0
def tw13927987329811124798:=0
def tw1133558035427194546:=0
def tw15748054104045362592:=0
def tw11095524742121469806:=0
def tw10594654711894498347:=0
def tw16013637586697518738:=0
def tw17951555949549093612:=0
def tw2991367270879409360:=0
def tw17095944591502007981:=0
def tw18165138231890294420:=0
def tw6789059881461556733:=0
def tw8324004270855547618:=0
def tw4844455783056252494:=0
def tw10497860443441847727:=0
def tw4704138116990242948:=0
def tw18074295624967442799:=0
def tw590653679200660430:=0
def tw5339921793485722155:=0
def tw4411347013498219380:=0
def tw2969661338481888338:=0
def tw15807389853572651939:=0
def tw8738124067627939681:=0
def tw8948120683160756725:=0
def tw16713952165168616886:=0
def tw311735526883492435:=0
def tw12071322714647415878:=0
def tw2936845253712978034:=0
def tw6503198346223795573:=0
def tw15189717011184271855:=0
def tw7112448828567050089:=0
def tw3031511287865077378:=0
def tw14226775424073652067:=0
def tw11423887239243371480:=0
def tw11743900939751956713:=0
def tw4242554054077648600:=0
def tw10578453438860442043:=0
def tw15678687416479574802:=0
def tw13976242522260957482:=0
def tw16267005706011723624:=0
def tw1086444583860129851:=0
def tw10233099762778725979:=0
def tw16674241079372877635:=0
def tw3179764773415726990:=0
def tw6016357141885721903:=0
def tw14987152908029350728:=0
def tw14211862604715034229:=0
def tw13449001070492554697:=0
def tw4741918147357202401:=0
def tw16744871499999398147:=0
def tw14108849475666049558:=0
def tw12149115609379698321:=0
def tw12192659221664207637:=0
def tw9374602571181928598:=0
def tw15894440679937485925:=0
def tw12299462652482342837:=0
def tw17059576429523407398:=0
def tw4659677729952795381:=0
def tw16868067991811974272:=0
def tw16190381517346309895:=0
def tw4879327821065850120:=0
def tw6447395388747619755:=0
def tw2286918125955398361:=0
def tw16690768863414088570:=0
def tw2712978475447108826:=0
def tw10955930899293000005:=0
def tw18346254866881055961:=0
def tw10319683877796910257:=0
def tw10424064386746086085:=0
def tw6238298226655986809:=0
def tw6686688717457131015:=0
def tw7364677010491683781:=0
def tw14019074501897929005:=0
def tw15085406316017985120:=0
def tw15125126525924741196:=0
def tw6350535186327757471:=0
def tw13317101290071272756:=0
def tw15477824398395643130:=0
def tw15740644454053396553:=0
def tw16835384677306990068:=0
def tw362347843072090670:=0
def tw9772428582959215094:=0
def tw12173969340884819426:=0
def tw16181532907793779031:=0
def tw7812828458519307230:=0
def tw6752493631734567025:=0
def tw13201499902803156791:=0
def tw2049588895404865199:=0
def tw7302693447209894220:=0
def tw11785744841186711483:=0
def tw1086321075862536920:=0
def tw9516521948219580669:=0
def tw13616889994649959170:=0
def tw14198608366809137118:=0
def tw8542328060507267114:=0
def tw16846423291716868424:=0
def tw15516908154039438991:=0
def tw10131683665016019640:=0
def tw10405418858001585614:=0
def tw1546536449474394584:=0
def tw12184883331645828114:=0
def tw4748858337166136434:=0
def tw9244223892353569275:=0
def tw3286465686540629566:=0
def tw8218573407627984098:=0
def tw7217885437221521244:=0
def tw12151912005585590415:=0
def tw9665882888556780272:=0
def tw7339211316072619875:=0
def tw12367419909285217851:=0
def tw4227118465333601982:=0
def tw9002137726726026260:=0
def tw7159323596728901912:=0
def tw7831550250984280210:=0
def tw9995412699031377968:=0
def tw14396488400649197552:=0
def tw5270649988181404228:=0
def tw854182571453514974:=0
def tw972460025110569112:=0
def tw426963562814928207:=0
def tw17606437565142790833:=0
def tw11669376775009971977:=0
def tw5356420749188469637:=0
def tw12930360401452850375:=0
def tw15374997161701357702:=0
def tw13352013202200168271:=0
def tw9649423790445164447:=0
def tw8984184051334573264:=0
def tw4643050655256232304:=0
def tw15456815536642288298:=0
def tw11312756189007439008:=0
def tw11006420875407790510:=0
def tw7562822801767823298:=0
def tw12454459320111444360:=0
def tw3230765277628885264:=0
def tw2346416658064219531:=0
def tw8025145090767722799:=0
def tw8287655448546640670:=0
def tw340012459130574986:=0
def tw8538426358136435089:=0
def tw560338477195637213:=0
def tw11110930489632747927:=0
def tw12706966575282026416:=0
def tw3862954391481352922:=0
def tw12225533667478828328:=0
def tw9692700940637410810:=0
def tw14959092312234116250:=0
def tw9925172973005111092:=0
def tw14995821738143620029:=0
def tw7465780764576827271:=0
def tw17484891549999468365:=0
def tw1626190454810105281:=0
def tw6175868163780493049:=0
def tw13162462812890096467:=0
def tw15803526047598745398:=0
def tw4363056187060435277:=0
def tw16267701471435487669:=0
def tw16632057867385765003:=0
def tw6293095185787239156:=0
def tw933331808449666430:=0
def tw8635815739903835803:=0
def tw15491900347384778880:=0
def tw15676203913827883355:=0
def tw4782819693037436604:=0
def tw7057425873779661718:=0
def tw9532815964970753462:=0
def tw9167455874649960189:=0
def tw14997288201061832483:=0
def tw107457819161124109:=0
def tw3835361622315212455:=0
def tw4469939538948814619:=0
def tw9620524398754639648:=0
def tw7780464345259979274:=0
def tw6419817555612911989:=0
def tw1023659637597570510:=0
def tw2372018313099003596:=0
def tw14901094771877375820:=0
def tw543379931571482652:=0
def tw6171141730867141454:=0
def tw15864779641982546702:=0
def tw897045423573157134:=0
def tw14347720801958533535:=0
def tw16640367947853907864:=0
def tw3849418611214287769:=0
def tw1870159751856785406:=0
def tw13282099315559138404:=0
def tw815888164645029435:=0
def tw11066105476549534965:=0
def tw4713813061692202267:=0
def tw16477771419561572412:=0
def tw8709040131176748014:=0
def tw18295491075277120862:=0
def tw6620929407049763160:=0
def tw7529263022897445707:=0
def tw17701249326919964134:=0
def tw13006191409384661045:=0
def tw16356246225009219313:=0
def tw17094226167057135993:=0
def tw6210038557028412151:=0
def tw4280338632468461850:=0
def tw1692469906082206558:=0
def tw12687612252476570012:=0
def tw12481764054345910061:=0
def tw5347719075594023491:=0
def tw14804371586218597210:=0
def tw15971727238507792933:=0
def tw13237753716871646981:=0
def tw12238679527274112482:=0
def tw8515900178941175828:=0
def tw10539750213900951527:=0
def tw8024421412362890480:=0
def tw9111617815897966828:=0
def tw11698640146145613611:=0
def tw3655144224094366108:=0
def tw2193528324383670614:=0
def tw14636989943926964240:=0
def tw8030078865784502452:=0
def tw6206115622057965105:=0
def tw13350207958222660556:=0
def tw12994876687113818106:=0
def tw4401320349908864273:=0
def tw4249265390719745740:=0
def tw2672396344386153641:=0
def tw2719627976330708843:=0
def tw16076952510724032876:=0
def tw10464141765853016030:=0
def tw3459646023287732883:=0
def tw2874986617328485059:=0
def tw9325392992972725594:=0
def tw7592639170934235462:=0
def tw17101228666182829589:=0
def tw18082369812562670720:=0
def tw12574357957650932935:=0
def tw2897140218451100902:=0
def tw10282732134088666585:=0
def tw2804648186722860369:=0
def tw9292317160560411504:=0
def tw2494898497646707893:=0
def tw10767655588886978942:=0
def tw14626791870044928265:=0
def tw8485736359372431427:=0
def tw2408853700519005508:=0
def tw550303164647922018:=0
def tw6111102755474662989:=0
def tw5793871706188736825:=0
def tw10814967932426565776:=0
def tw4704628817825976524:=0
def tw12367582128158479673:=0
def tw15599443357937514899:=0
def tw17991010438414497636:=0
def tw13517460212143726350:=0
def tw6667362720124552007:=0
def tw16834547118406034273:=0
def tw5592743957787463553:=0
def tw887717010277700635:=0
def tw13190647220251468597:=0
def tw5527077639544824185:=0
def tw9459602319341244632:=0
def tw9376438282102216093:=0
def tw15451558986170815430:=0
def tw4948524913074993033:=0
def tw8323608449828304998:=0
def tw15580487995996345451:=0
def tw504801296981904637:=0
def tw7934781020545999802:=0
def tw13413343449471176322:=0
def tw10320517826611034316:=0
def tw8650630519222433272:=0
def tw2154829548159371165:=0
def tw3289994349716183342:=0
def tw15307296749756989930:=0
def tw5899213291143289466:=0
def tw6124299095369089413:=0
def tw7907960509273765613:=0
def tw335995258970928605:=0
def tw4388178970258782880:=0
def tw4695573943312758066:=0
def tw8272361811751690303:=0
end PySem.W.Fast
theorem My.le1{α:Type _}{P:⇑α->Prop}(h:∀a,P [a]):∀us:⇑α,us.length=1->P us:=fun us e=>match us,e with|[a],_=>h a
theorem My.le2{α:Type _}{P:⇑α->Prop}(h:∀a b,P [a,b]):∀us:⇑α,us.length=2->P us:=fun us e=>match us,e with|[a,b],_=>h a b
theorem My.le3{α:Type _}{P:⇑α->Prop}(h:∀a b c,P [a,b,c]):∀us:⇑α,us.length=3->P us:=fun us e=>match us,e with|[a,b,c],_=>h a b c
theorem My.le4{α:Type _}{P:⇑α->Prop}(h:∀a b c d,P [a,b,c,d]):∀us:⇑α,us.length=4->P us:=fun us e=>match us,e with|[a,b,c,d],_=>h a b c d
theorem My.le5{α:Type _}{P:⇑α->Prop}(h:∀a b c d f,P [a,b,c,d,f]):∀us:⇑α,us.length=5->P us:=fun us e=>match us,e with|[a,b,c,d,f],_=>h a b c d f
set_option maxRecDepth 100000 in
set_option maxHeartbeats 0 in
theorem PySem.Challenge.cw_purse_k54_whole_text_years_holds : PySem.Challenge.rw_purse_k54_whole_text_years.Holds := by
 w_on;o_law;k_head;(case hw=>w_witness2)
 k_fill
 refine L2.Hq (l:=PySem.Challenge.rw_purse_k54_whole_text_years) (k:=14) rfl rfl ⟨rfl,by decide,by decide⟩ (fun w h Y=>abj Y) ?F
 case F=>
  intro w mg fa h KX G hmg
  have⟨qI,kG,kL,qE,vd,iQ,iK,jG,ic,jh⟩:L2.dR (L2.AS KX) mg "NoRow"/\L2.dR (L2.AS KX) mg "NoWork"/\L2.dR (L2.AS KX) mg "NoName"/\L2.dR (L2.AS KX) mg "Twice"/\L2.dR (L2.AS KX) mg "Full"/\L2.dR (L2.AS KX) mg "NoVoter"/\L2.dR (L2.AS KX) mg "TooMuch"/\L2.dR (L2.AS KX) mg "PurseError"/\L2.me (L2.AS KX) mg "Chest"/\L2.me (L2.AS KX) mg "Desk":=by
   exists ?_,?_,?_,?_,?_,?_,?_,?_,?_
   iterate 7 (dsimp only[L2.AS];refine' L2.JV KX G ?a ?l ?n ?l1 ?n1 ?g1 ?g2 ?g3 ?g4 ?g5 ?g6 ?hk ?hi ?hk1 ?hi1;(case a|l|n|l1|n1|g1|g2|g3|g4|g5|g6=>k_is);(case hk|hi|hk1|hi1=>(first|rfl|(with_unfolding_all rfl)|(simp[L2.keysOk,Yx,YG];done))))
   (dsimp only[L2.AS];refine' L2.KA KX G ?a ?l ?n ?g1 ?g2 ?g3 ?g4 ?g5 ?g6 ?hk ?hi;(case a|l|n|g1|g2|g3|g4|g5|g6=>k_is);(case hk|hi=>(first|rfl|(with_unfolding_all rfl)|(simp[L2.keysOk,Yx,YG];done))))
   iterate 2 (dsimp only[L2.AS];refine' L2.M3 KX G ?a ?pg ?hd ?po ?sa ?mk ?kp;(case a|pg|hd|po|sa|mk|kp=>k_is))
  have cls:My.fR (L2.AS KX):=by
   exists kL.some,kL.ek,qE.some,qE.ek,iQ.some,iQ.ek,kG.some,kG.ek,iK.some,iK.ek,vd.some,vd.ek,qI.some,qI.ek,?_,?_,?_,?_,?_,?_,?_,ic.cls,?_,?_,?_,?_,?_,?_,jh.cls
   iterate 7 (dsimp only[L2.AS];refine' L2.Kx ?a ?b ?e ?c ?t ?s;(case a|b|e|c|t|s=>k_is))
   iterate 7 (dsimp only[L2.AS];refine' L2.Fw ?a ?n;(case a|n=>k_is))
  have T:My.Txt (L2.AS KX) mg:=by
   exists ?_,?_,?_,?_,?_,?_,?_,?_,?_,?_,?_,?_,?_,?_,?_,?_,?_,?_,?_,?_,?_,?_,?_,?_,?_,?_,?_,?_,?_,?_,?_,?_,?_,?_,?_,?_,?_,?_,?_,?_,?_,?_,?_,?_,?_,?_,?_,?_,?_,?_,?_,?_,?_,?_,?_,?_,?_,?_,?_,?_,?_,?_,?_,?_,?_,?_,?_,?_,?_,?_,?_,?_,?_,?_,?_,ic,jh,qI,kG,kL,qE,vd,iQ,iK,jG,cls,?_,?_,?_,?_,?_,?_,?_,?_,?_,?_,?_,?_,?_,?_,?_,?_,?_,?_,?_,?_
   iterate 75 ((dsimp only[L2.AS];first|(refine' L2.Ma KX G ?a ?l ?c ?k ?b;(case a|l|c|k=>k_is))|(refine' L2.Jv (h:=h) ?a ?a4 ?fn ?l ?c ?k ?b;(case a|a4|fn|l|c|k=>k_is)));(case b=>(first|exact fun _ _ _ _ _ _=>My.le1 fun _=>rfl|exact fun _ _ _ _ _ _=>My.le2 fun _ _=>rfl|exact fun _ _ _ _ _ _=>My.le3 fun _ _ _=>rfl|exact fun _ _ _ _ _ _=>My.le4 fun _ _ _ _=>rfl|exact fun _ _ _ _ _ _=>My.le5 fun _ _ _ _ _=>rfl)))
   iterate 14 (refine' L2.Kn KX G ?z;(case z=>k_is))
   iterate 2 (refine' L2.K1 KX G ?z;(case z=>k_is))
   iterate 5 (refine' L2.Mp KX G ?z;(case z=>k_is))
  exact L2.bf.law T.f_law hmg My.GX (L2.aA rfl) (fun base f cdv A outer s H E hr=>My.LJ T hr) My.LS
