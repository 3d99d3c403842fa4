import PyProof.Rows.All
import Wide.All
import OpenK.AllK
import Wide.FinOn
import Lean
import PyProof.EqAt
import PyProof.EqKinds
import PyProof.TupleCall
import KE.KIsAll
import KE.KTryMore
import PyProof.ExcAttrAll.ValueError
import KE.KIntText
import KE.KItemsList
import KE.KDictOf
import PyProof.AttrMissHeap
import KE.KPairComp
import PyProof.DictWalks
import PyProof.P3In
import PyProof.SameEqv
import KE.KDictList
import KE.KDictIter
import PyProof.Draws
import PyProof.EnumMake
import PyProof.Rows.Range3
import PyProof.ZipIter
import KE.KTurns
import PyProof.FactsAll.zip_1
import PySem.Challenge.RW_purse_k52_rows_at_a_desk
local macro_rules | `(nofun) => `(by decide +kernel)
local macro_rules | `(⋯) => `(by simp)
local macro_rules | `(tactic| symm) => `(tactic| walk_at "z")
local macro_rules | `(tactic| nofun) => `(tactic| walk_at "q")
local macro_rules | `(tactic| exists $e,*) => `(tactic| refine ⟨$e,*, ?_⟩)
open PySem renaming Str->Qg,Addr->Qh,Value->Qi,Shared->Qk,wpAny->Ql,wpAny_bind->Qm,Obj->Qo,Expr->Qp,Heap->Qq,sizeLine->Qr,Stmt->Qs,World->Qv,starEach->Qx,Program->Qy,Paired->QE,Around->QF,wpAny_pure->QG,Pos->QH,Env->QP,PyData->QY,backTo->Q1,IsPair->Q5,mainGlobals->Q6,compareOp->Rc,rawInt->Rg,Scope->Rh,wpAny_mono->Rl,wpAny_field->Ro,boot_len->Rp,cellsFrom->Rq,NameKind->Ru,IsZip->RA,pyNext->RB,binaryOp->RV,ZipApart->RX,Builtin->R0,FuncData->R1,sysModules->R3,keywordEach->Sf,backToKw->Sg,DictEntry->Si,codeAny->Sj,call_meets->Sn,getMethod->Sw,inplaceOp->Sx,wpAny_seqItems->Sy,wpAny_execs_nil->SS,pushCells->S8,sliceBounds->Tg,wpAny_holding->Tn,attributeBase->Tp,wpAny_passesOwn->Tz,assignEach->TH,wpAny_call_entry->TM,call_meetsIn->TN,wpAny_truthy_bool->TQ,wpAny_setField_rec->TZ,bootBuiltins->T8,wpAny_callSpecial?_slot->Up,wpAny_pyIter_dict->Uq,wpAny_Call_Name_kw->UC,mem_of_lookup->UE,reprText->UI,typeLookup->UJ,behindInMarks->UM,wpAny_attempt->UW,tupleKind_room_in1->U2,wpAny_pyIter_enum->U8,wpAny_getItem_str_slice->Vr,wpAny_typeOf->Vs,wpAny_pyIter_list->Vt,getattributeRaised->VC,typeLookup_type->VW,intText?->Wb,call->Wn,Within->Wp,evalArgs_none->Wt,wpAny_pyIter_zip->WG,findBy->Xv,nsFind->YW,wpAny_nextOf_list_item->Y1
open PySem.W renaming Frag->Qj,kitOne->QD,findIn->Rv,nsIn->RE,clsIn->RN,keepIn->R9,exmOne->Sa,fnOf->SD,emptyDict->SN,instObj->SV,mg_of->Tb,InstAt->Tw,plainGet->Ux,notCls->UR,codeIn->UT,mroIn->UY,callWith_K->U3,subIn->Vd,hasDictIn->Vp,methodCall_KW->Vv,isFn->Vz,lookIn->VA,makesIn->VB,takerIn->VG,typeIn->VH,plainGet_of->V2,kitCls->V8,methodObj->Wc,plainOver->WH,callWith_K0->WV,handedIn->W2,Looks->W4,OpenLaw->Xb,ktu_apart->Xd,WalkO->XD,exm_one->XW,cellsFrom_some->YB,of_hideAll->Y7,hideAll_size->Zd,bind_fn->Zg,makes_of->Zj,looks_clsIn->Zk,osa_open->Zt,kitMeta->ZD,kIn_of->ZJ,set_plain->ZK,any_some->ZO,hideAll_get->ZT,hideAll->ZV,findObj_own->ZZ,looks_findIn->Z1,codeRec_of->aaf,method_fn->aag,make_core->aaC,ne_bytes->aaO,get_value->aaQ,mg_none_of->aaT,InitBack->aaU,hideAll_none->aa5,eq_bytes->aa7
open Or renaming inl->Qn,inr->Ti
open Nat renaming le_trans->Qt,le_refl->QC,ne_of_lt->QV,lt_of_lt_of_le->Q4,zero_le->Rm,ne_of_gt->RK,le_succ->RM,lt_irrefl->RQ,mul_le_mul_right->RY,lcm->Sl,le_of_lt->SA,le_add_right->SR,toDigits->Uh,le_of_eq->Ui,lt_succ_self->Vi,lt_trans->Vl,lt_succ_of_lt->Vm,le_of_succ_le->VQ,isDigit_of_mem_toDigits->V0,lt_asymm->Wi,pow_succ->Wl,log2_lt->Wu,lt_of_le_of_lt->Wz,le_of_ble_eq_true->WJ,dvd_refl->WU,succ_ne_self->W3,dvd_lcm_left->W5,add_mul->W8,le_antisymm->W9,lt_or_ge->Xq,one_mul->XF,le_of_dvd->XG,mul_le_mul_left->X9,le_of_not_lt->Yx,min_le_left->YG,succ_pos->YI,pow_le_pow_right->YM,lcm_pos->YV,eq_zero_or_pos->YY
open List renaming mem_map->Qu,length_map->Qw,getElem?_eq_getElem->Qz,mem_cons->QI,Nodup->QK,range->QM,getD->QN,map_map->QR,map_cons->QW,getD_eq_getElem?_getD->QZ,getElem?_eq_some_iff->Q0,mem_cons_of_mem->Q2,mem_append->Q7,mem_singleton->Q8,mem_filter->Rb,mem_cons_self->Ri,length_cons->Rn,size_toArray->Rr,length_take->Rw,sum_cons->Ry,length_append->Rz,not_mem_nil->RD,mem_append_right->RH,lookup->RI,all_eq_true->RL,map->RO,length_filter_le->RU,map_append->R4,lookup_cons->R8,nodup_cons->Sb,mem_range->Ss,getElem_mem->Sz,length_drop->SE,mem_of_getElem?->SH,filter_eq_self->SI,any_cons->SK,getElem?_map->SM,getElem_of_mem->SX,getElem?_eq_none->SY,getElem?_append_left->S6,take_of_length_le->S7,map_congr_left->Tc,map_nil->Tq,filter_cons->Tt,ext_getElem->Tv,mem_append_left->TC,mem_of_mem_take->TK,pairwise_iff_getElem->TU,getElem?_append_right->TV,range_succ->TX,length_singleton->TY,find?_cons->Ug,all_map->Ul,take_length->Ur,take_add_one->Uu,length_range->Uz,forIn_cons->UA,length_pos_iff->UB,of_mem_zip->UD,sum_append->UG,nodup_nil->UK,append_nil->UL,forIn_nil->UU,replicate->UX,mem_of_mem_drop->U0,filter_map->U1,length_eq_zero_iff->U4,length->U9,map_id'->Vy,filter_congr->VN,filterMap_cons->VS,getElem?_set_ne->VV,map_take->V3,getElem_map->V5,filter_append->Wf,getElem?_set_self->Wk,getElem_take->Wr,any_eq_true->Wv,length_nil->Xh,drop_zero->Xj,range'->Xo,length_zipWith->Xp,zipIdx_nil->Xx,nodup_append->XA,take_succ->XM,any_map->XR,all_cons->XT,cons_append->Yb,map_fst_zip->Ym,getElem_cons_drop->Yq,mem_filterMap->Yy,take_append_drop->YA,length_erase_of_mem->YC,zipIdx_cons->YE,filter_nil->YJ,set_cons_zero->YK,sum_nil->YQ,mem_map_of_mem->YR,append_assoc->YT,map_eq_nil_iff->YU,map_inj_right->YX,mem_range'_1->Y3
open PySem.Heap renaming lt_size->QJ,get?_push_of_some->QS,get?_push_size->QX,size_push->RS,SameBut->Sh,get?_update_other->S3,get?_none_of_le->Uo,size_update->XB,get?_update_self->Yj
open PySem.Value renaming ref->QL,none->RC,int->So,bool->SW,str->Tu,builtin->TF,type->V6,isInt->WW,isStrOf->Xm,bytes->XI,float->XU
open PySem.Str renaming empty->QO,length_append->QQ,join->Q3,cps_append->UN,ofString->UP,length->UZ,ext'->Yu
open Ne renaming symm->QT
open PySem.Paired renaming length->QU,snoc->Xf,nil->Yc
open PySem.Txt renaming split->Q9,slice->Ra,mul->Sd,slice_le->aav
open Bool renaming false_ne_true->Rf,and_eq_true->Rj,eq_iff_iff->RF,false_eq_true->SO,false_and->TB,bne_false->TL,bne_true->Uy,and_false->V4,false_or->YL
open Option.some renaming inj->Rk,injEq->Xw
open PyProof.Rows renaming envOfC->Rt,boot_str->RT,kindOf->RW,AllBare->Su,boot_isinstance->S5,IntsAre->Ta,callWith_type1->Td,boot_int->Vo,boot_list->VT,boot_sum->VZ,boot_all->Ww,boot_sorted->XH,same_iff->YS,isub_int->Zp,callWith_builtin1->Zr,boot_max->Zw,iadd_int->Zy,boot_min->aaZ
open PySem.PassesOwn renaming never->Rx
open False renaming elim->RG
open PySem.SeqAt renaming noMix->RJ,shaped->Sr,noMixAll->S4,canLay_of_shaped->W6,EqAt->Yr
open PySem.NameKind renaming cell->RP,free->R5
open PySem.F renaming plainAttrs_str->RZ,slot_str_join->Se,type_str_join->Sv,slot_zip_next->S2,slot_list_append->Tf,type_list_append->Ub,plainAttrs_list->Uj,plainAttrs_dict->US,slot_dict_values->U6,entry_zip_next->Va,args_zip_next_1->Vc,slot_dict_items->Vg,slot_str_split->Vk,slot_zip_getattribute->VL,slot_list_getattribute->VO,args_str_split_2->We,entry_str_split->Wj,excBase_ValueError->WN,slot_dict_itemiterator_iter->WQ,args_dict_items_1->WZ,kt_called_dict->W0,entry_dict_init->W7,slot_str_startswith->Xc,type_dict_values->Xk,typeOf_object_class->Xr,entry_dict_items->Xs,slot_dict_pop->XE,slot_dict_delitem->Ye,args_dict_init_2->Yf,slot_dict_keyiterator_next->Yh,kt_typeCall_dict_1->Yl,type_dict_items->Yz,entry_dict_values->YF,args_dict_values_1->Y4,slot_str_upper->Y6,args_dict_itemiterator_iter_1->Zf,typeCall_enumerate_1->Zi,entry_dict_keyiterator_next->Zs,slot_dict_getitem->Zz,newCall_enumerate_1->ZA,slot_dict_itemiterator_next->ZC,args_zip_getattribute_2->ZH,entry_enumerate_new->ZN,type_dict_pop->ZR,args_object_init_3->ZS,args_dict_pop_2->Z0,entry_dict_pop->Z3,args_object_init_2->Z6,type_str_split->aad,typeCall_zip_2->aal,type_str_startswith->aat,args_list_getattribute_2->aaA,args_dict_keyiterator_next_1->aaB,args_dict_pop_3->aaD,called_enumerate->aaE,entry_dict_delitem->aaK,newCall_zip_2->aaX,args_dict_delitem_2->aaY,entry_zip_new->aa0,called_zip->aa2,type_str_upper->aa3
open PySem.PyData renaming canLay0->R6,depth->SJ,str->SQ,canLayAll0->S1,depthAll->Tj,bool->Vn,strOk->VI
open Sum renaming inr->R7,inl->Th
open Int renaming le_refl->Sk,lt_or_le->SF,emod_nonneg->S0,eq_ofNat_of_zero_le->To,le_of_lt->TJ,le_trans->Ua,mul_comm->Ud,emod_lt_of_pos->Uk,mul_add->Um,natCast_add->Us,lt_of_le_of_lt->UH,toNat_of_nonneg->UO,mul_le_mul_of_nonneg_right->U7,dvd_trans->Vb,dvd_sub->Ve,mul_nonneg->Vh,add_mul->Vw,mul_ediv_add_emod->VE,mul_one->VM,lt_of_lt_of_le->VX,toNat_natCast->VY,min_eq_left->V1,dvd_mul_left->Wg,min_eq_right->Wm,natCast_nonneg->WD,dvd_zero->WS,natAbs_natCast->Xe,ediv_nonneg->Xi,toNat->XJ,mul_le_mul_of_nonneg_left->XO,dvd_add->Yk,mul_sub->Y0,mul_ediv_cancel->Y5
open PySem.Builtin.SmallTypes renaming nextOf->Sq,ownedTupleIsFree->Vu,ownedTupleHandOut->Yt
open PySem.Unicode renaming upperOf->SG
open True renaming intro->SU
open PySem.Spec renaming same->S9,sameAll->Wq
open PySem.Obj renaming mapFields->Te,data_mapFields->VJ,isFreed_of_fields->Xl,mapSeq->Yw
open PySem.Data renaming cell->Tr,fields->Uv,seq->Wy
open PySem.NumText renaming digitsVal->Ts,AllDigits->Wa,toDigits_digitsVal->ZQ
open Array renaming getElem?_eq_some_iff->TR,length_toList->Vf,toArray_toList->Wh,getElem?_toList->WI,all_toList->WK,forIn_toList->WX,toList->XS,ext'->Ya,getD_eq_getD_getElem?->YD,toList_append->YO,mem_toList_iff->YZ
open PySem.Builtin.Str renaming strSliceIndices->T7,occurrences->UQ,subAt->ZI
open Char renaming toNat->Uc,isDigit->VF,ofNat->V7,ext->Xu
open ForInStep renaming yield->Ue
open PySem.Calls renaming callWith_builtin->Ut,spliced_cons->VP,evalArgs_plain->VU,spliced_nil->V9,Name_function_global->WO
open Eq renaming trans->Uw
open PySem.Builtin.Dict renaming updateFrom->U5,pairItems->WM,addKeywords->X8,selfAndRest->Yv
open List.cons renaming inj->Vj
open PySem.Around renaming under_plainId->Vq,under->WB
open PySem.StrLaws renaming join_split->Vx,found_one->XQ,reprText_len->Zm,sliced_plain->Z7,strSliceIndices_plain->aae,glued_eq_join->aaj,split_free->aak,subAt_one->aaW
open Classical renaming axiomOfChoice->VD
open PySem.Builtin.Int renaming intBits->VR
open Option renaming isSome_iff_exists->Wo,isSome_map->WC,getD_none->Xa,none->Xy,isNone_none->Xz,isSome_some->YN
open PySem.Builtin.List renaming listTooLong->Ws
open PySem.Code renaming isFrame->Wx,frames->Yi
open PySem.Heap.DictOf renaming new->WE
open PySem.W.Looks renaming ld->WL,here->Z9
open Sum.inr renaming inj->WT
open PySem.MeetsIn renaming of_wp->WY
open List.Pairwise renaming imp->Xg,of_map->Yp,map->Y2,nil->aaG,cons->aa4,imp₂->aa8
open PySem.Value.ref renaming inj->Xn
open PySem.EntryCells renaming newEntry->Xt
open And renaming comm->XC
open PySem.W.KIN renaming signs_num->XN,call_text->Zb
open PySem.SeqAt.EqAt renaming int_str->XZ,str_int->YH,str_none->Y8,str_str->Y9,none_bool->Zu,bool_none->ZU,none_str->ZX,none_int->aaa,same->aac,bool_int->aai,bool_bool->aam,bool_str->aay,int_int->aaF,int_none->aaI,int_bool->aaN,str_bool->aa1
open PySem.W.WData renaming int->Yd
open UInt32 renaming toNat_inj->Yg
open PySem.Walks renaming list->Yn
open PySem.W.WShape renaming has->Yo
open PySem.IsL renaming update->Za
open PySem.EqNone renaming eq_bool_none->Zc,eq_int_none->Ze,ne_int_none->Zx,eq_none_str->ZW,eq_none_bool->Z2,ne_none_bool->Z5,ne_none_int->aan,ne_none_str->aao,eq_str_none->aap,eq_none_none->aas,ne_bool_none->aau,ne_none_none->aaz,eq_none_int->aaL,ne_str_none->aaM
open PySem.EqMixed renaming ne_int_str->Zh,ne_str_bool->Zv,ne_str_int->ZE,eq_bool_str->ZF,eq_str_int->ZG,ne_bool_str->aab,eq_int_str->aaq,eq_str_bool->aaP
open PySem.Within renaming cons->Zl
open PySem.DictEntry renaming refKey->Zn
open PySem.P renaming add_list->Zo,str_of_str->aah,str_of_int->aa6
open PySem.Heap.Ns1 renaming of_empty->Zq
open PySem.Heap.SameBut renaming refl->ZL,update->ZM
open PySem.Heap.IsList renaming push->ZP
open PySem.Builtin.Range renaming rangeSize->ZY
open Sum.inl renaming inj->Z4
open List.Nodup renaming sublist->Z8
open PyProof renaming noPylong_of_log2->aar
open PySem.AutoSeq1 renaming list_extend_list_list_0->aaw
open PySem.IsRange renaming new->aax
open PySem.Builtin.Dict_items renaming ownsTuple->aaH
open PySem.Heap.Ns renaming new->aaJ
open PySem.W.OpenLaw renaming pre->aaR
open List.Sublist renaming map->aaS
open PySem.Heap.IsSliceOf renaming new->aaV
set_option Elab.async false
set_option compiler.extract_closed false
set_option linter.all false
set_option maxRecDepth 100000
namespace L2
open PySem PySem.Spec PyProof.Rows
abbrev Key:=Sum Int Qg
def wj:Key->Qi->Bool
 |.inl k,v=>WW k v
 |.inr x,v=>Xm x v
def P6(w:Qv):Key->Int
 |.inl k=>hashInt k
 |.inr x=>hashStr w x
theorem da:∀{k:Key}{v:Qi},wj k v=true->(∃i t,k=Th i/\v=So i t)\/(∃x t,k=R7 x/\v=Tu x t)
 |.inl i,v,h=>by
  obtain⟨t,e⟩:=Value.isInt_shape (k:=i) (v:=v) h
  exact .inl ⟨i,t,rfl,e⟩
 |.inr x,v,h=>by
  obtain⟨t,e⟩:=Value.isStrOf_shape (x:=x) (v:=v) h
  exact .inr ⟨x,t,rfl,e⟩
theorem HN(i:Int)(t:Tok):wj (.inl i) (.int i t)=true:=by simp[wj,WW]
theorem Ib(x:Qg)(t:Tok):wj (.inr x) (.str x t)=true:=by simp[wj,Xm]
theorem NQ(a b:Int):decide ((Th a:Key)=Th b)=(a==b):=by
 by_cases e:a=b
 ·subst e;simp
 ·have h:¬(Th a:Key)=Th b:=fun q=>e (Z4 q)
  rw[decide_eq_false h]
  exact(beq_eq_false_iff_ne.mpr e).symm
theorem MC(a b:Qg):decide ((R7 a:Key)=R7 b)=decide (a=b):=by
 by_cases e:a=b
 ·subst e;simp
 ·have h:¬(R7 a:Key)=R7 b:=fun q=>e (WT q)
  rw[decide_eq_false h,decide_eq_false e]
theorem Ny(a:Int)(b:Qg):decide ((Th a:Key)=R7 b)=false:=decide_eq_false (fun q=>nomatch q)
theorem MZ(a:Qg)(b:Int):decide ((R7 a:Key)=Th b)=false:=decide_eq_false (fun q=>nomatch q)
noncomputable def bh(prog:Qy)(w:Qv):PySem.KeyKind prog w Key where
 is:=wj
 hash:=P6 w
 inj:=fun v a b ha hb=>by
  rcases da ha with⟨i,t,rfl,rfl⟩|⟨x,t,rfl,rfl⟩
  ·rcases da hb with⟨j,u,rfl,e⟩|⟨y,u,rfl,e⟩
   ·injection e with e1 _;rw[e1]
   ·exact nomatch e
  ·rcases da hb with⟨j,u,rfl,e⟩|⟨y,u,rfl,e⟩
   ·exact nomatch e
   ·injection e with e1 _;rw[e1]
 byValue:=fun k v h=>by
  rcases da h with⟨i,t,rfl,rfl⟩|⟨x,t,rfl,rfl⟩<;>rfl
 pyHash:=fun hv h=>by
  rcases da hv with⟨i,t,rfl,rfl⟩|⟨x,t,rfl,rfl⟩
  ·exact wpAny_pyHash_int h
  ·exact wpAny_pyHash_str h
 eqBool:=fun hu hv h=>by
  rcases da hu with⟨i,t,rfl,rfl⟩|⟨x,t,rfl,rfl⟩
  ·rcases da hv with⟨j,u,rfl,rfl⟩|⟨y,u,rfl,rfl⟩
   ·rw[NQ]at h;exact wpAny_eqBool_int h
   ·rw[Ny]at h;exact XZ i t y u _ _ _ _ h
  ·rcases da hv with⟨j,u,rfl,rfl⟩|⟨y,u,rfl,rfl⟩
   ·rw[MZ]at h;exact YH x t j u _ _ _ _ h
   ·rw[MC]at h;exact wpAny_eqBool_str h
 «strs»:=fun k x t v h=>by
  rcases da h with⟨i,u,rfl,e⟩|⟨y,u,rfl,e⟩
  ·exact nomatch e
  ·injection e with e1 _
   subst e1
   cases v<;>rfl
theorem CW(prog:Qy)(w:Qv)(i:Int)(t:Tok):(bh prog w).is (.inl i) (.int i t)=true:=HN i t
theorem DK(prog:Qy)(w:Qv)(x:Qg)(t:Tok):(bh prog w).is (.inr x) (.str x t)=true:=Ib x t
inductive V where
 |non|bl (b:Bool)|int (i:Int)|str (x:Qg)|byt (b:Array UInt8)|flt (b:UInt64)|ref (a:Qh)|ty (n:String)
 deriving DecidableEq
noncomputable def RelV:V->Qi->Prop
 |.non,u=>u=RC
 |.bl b,u=>u=SW b
 |.int i,u=>∃t,u=So i t
 |.str x,u=>∃t,u=Tu x t
 |.byt b,u=>∃t,u=XI b t
 |.flt b,u=>∃t,u=XU b t
 |.ref a,u=>u=QL a
 |.ty n,u=>u=V6 n
abbrev cu:List V->List Qi->Prop:=QE RelV
theorem cu.length{xs:List V}{us:List Qi}(r:cu xs us):xs.length=us.length:=QU r
theorem cu.get:∀{xs:List V}{us:List Qi}{i:Nat}{x:V},cu xs us->xs[i]?=some x->∃u,us[i]?=some u/\RelV x u
 |_,_,_,_,.nil,e=>by simp at e
 |_,_,0,_,.cons r _,e=>by simp at e;subst e;exact⟨_,rfl,r⟩
 |_,_,i+1,x,.cons _ t,e=>by
  obtain⟨u,h1,h2⟩:=cu.get (i:=i) (x:=x) t (by simpa using e)
  exact⟨u,by simpa using h1,h2⟩
theorem cu.append:∀{xs ys:List V}{us ws:List Qi},cu xs us->cu ys ws->cu (xs++ys) (us++ws)
 |_,_,_,_,.nil,s=>s
 |_,_,_,_,.cons r t,s=>.cons r (cu.append t s)
theorem cu.take:∀{xs:List V}{us:List Qi}(n:Nat),cu xs us->cu (xs.take n) (us.take n)
 |_,_,0,_=>.nil
 |_,_,_+1,.nil=>.nil
 |_,_,n+1,.cons r t=>.cons r (cu.take n t)
theorem cu.drop:∀{xs:List V}{us:List Qi}(n:Nat),cu xs us->cu (xs.drop n) (us.drop n)
 |_,_,0,r=>r
 |_,_,_+1,.nil=>.nil
 |_,_,n+1,.cons _ t=>cu.drop n t
def nN:Option V->Option Qi->Prop
 |some v,some u=>RelV v u
 |none,none=>True
 |_,_=>False
def KV{κ:Type}:List (κ×V)->List (κ×Qi)->Prop:=QE fun (p:κ×V) (q:κ×Qi)=>p.1=q.1/\RelV p.2 q.2
def kV:Key->V
 |.inl i=>.int i
 |.inr x=>.str x
inductive HO where
 |lst (xs:List V)
 |tup (xs:List V)
 |dK (kvs:List (Key×V))|dT (kvs:List (List Key×V))
 |set (S:Int->Bool) (n:Nat)
 |ins (C dx:Qh) (fs:List (Qg×V))
 |own (x:Qh)
 |xd (fs:List (Qg×V))
 |met (f x:Qh)
 |rng (lo hi:Int)
 |frz (o:Qo) (u:HO)
 |tbl (ps:Array Qi)
 |ext (φ:Qq->Prop)
abbrev Hp:=Qh->Option HO
def upd(H:Hp)(a:Qh)(o:HO):Hp:=fun b=>if b=a then some o else H b
theorem ay{H:Hp}{a:Qh}{o:HO}:upd H a o a=some o:=by unfold upd;rw[if_pos rfl]
theorem ax{H:Hp}{a b:Qh}{o:HO}(h:b≠a):upd H a o b=H b:=by unfold upd;rw[if_neg h]
theorem Of{H:Hp}{a b:Qh}{o u:HO}(h:H a=some o)(h':H b=some u)(d:o≠u):a≠b:=by
 intro e;subst e;rw[h]at h';exact d (Rk h')
theorem bx{H:Hp}{a b:Qh}{o:HO}(h:H a=some o)(h':H b=none):a≠b:=by
 intro e;subst e;rw[h]at h';cases h'
section
variable (P:Qy)(w:Qv)
noncomputable def de(H:Hp)(h:Qq)(a:Qh):HO->Prop
 |.lst xs=>xs.length<=Qr/\∃(its:List Qi)(n:Nat),cu xs its/\h.get? a=some {cls:=.type "list",data:=.seq its.toArray n}
 |.tup xs=>xs.length<=Qr/\∃its:List Qi,cu xs its/\IsTup h a its.toArray
 |.dK kvs=>kvs.length<=Qr/\(a==R3)=false/\∃vs,KV kvs vs/\h.DictOf (bh P w) a vs
 |.dT kvs=>kvs.length<=Qr/\(a==R3)=false/\∃xs:List (List Key×Qh×Qi),
   QE (fun (p:List Key×V) (q:List Key×Qh×Qi)=>p.1=q.1/\H q.2.1=some (.tup (p.1.map kV))/\RelV p.2 q.2.2) kvs xs/\
   ∃o es ep,h.get? a=some o/\o.ExactDict/\o.data=.dict es ep/\es.toList=xs.map (entryOfKey (tupleKind (bh P w)))/\(xs.map (·.1)).Nodup
 |.set S n=>h.SetOf (intKind P w) a S n
 |.ins C dx fs=>H dx=some (.own a)/\fs.length<=1000/\dx≠a/\h.get? a=some (SV C dx)/\
   ∃mA,h.Ns1 dx mA/\(∀f,nN (fs.lookup f) (mA f))/\Wp mA (fs.map (·.1))
 |.own _=>∃o,h.get? a=some o
 |.xd fs=>∃mA,h.Ns1 a mA/\∀f,nN (fs.lookup f) (mA f)
 |.rng lo hi=>∃t u v,h.get? a=some {cls:=.type "range",data:=.fields #[.int lo t,.int hi u,.int 1 v]}
 |.frz o u=>h.get? a=some o/\de H h a u
 |.tbl ps=>h.get? a=some {cls:=.none,data:=.fields ps}
 |.met f x=>h.get? a=some (Wc (.ref f) (.ref x))
 |.ext φ=>φ h/\(∃o,h.get? a=some o)/\∀h1 h2:Qq,φ h1->(∀o,h1.get? a=some o->h2.get? a=some o)->φ h2
def pB(H:Hp)(h:Qq):Prop:=∀a o,H a=some o->de P w H h a o
end
section
variable {P:Qy}{w:Qv}{H H':Hp}{h h':Qq}{a:Qh}{o:HO}
theorem de.lt(x:de P w H h a o):a<h.objs.size:=by
 cases o with
 |lst xs=>obtain⟨_,_,_,_,e⟩:=x;exact QJ e
 |tup xs=>obtain⟨_,_,_,p⟩:=x;exact p.lt
 |dK kvs=>obtain⟨_,_,_,_,o,_,_,e,_⟩:=x;exact QJ e
 |dT kvs=>obtain⟨_,_,_,_,o,_,_,e,_⟩:=x;exact QJ e
 |set S n=>obtain⟨o,_,_,_,e,_⟩:=x;exact QJ e
 |ins C dx fs=>obtain⟨_,_,_,e,_⟩:=x;exact QJ e
 |own y=>obtain⟨_,e⟩:=x;exact QJ e
 |xd fs=>obtain⟨_,⟨_,_,_,e,_⟩,_⟩:=x;exact QJ e
 |rng lo hi=>obtain⟨_,_,_,e⟩:=x;exact QJ e
 |frz ob u=>obtain⟨e,_⟩:=x;exact QJ e
 |tbl ps=>exact QJ (show h.get? a=some _ from x)
 |met f y=>exact QJ (show h.get? a=some _ from x)
 |ext φ=>obtain⟨_,⟨_,e⟩,_⟩:=x;exact QJ e
theorem Paired.mapP{α β:Type}{F G:α->β->Prop}:∀{l₁:List α}{l₂:List β},QE F l₁ l₂->(∀a b,F a b->G a b)->QE G l₁ l₂
 |_,_,.nil,_=>.nil
 |_,_,.cons r t,f=>.cons (f _ _ r) (Paired.mapP t f)
theorem de.stay(x:de P w H h a o)(k:∀b u,(b=a\/H b=some (.own a))->h.get? b=some u->h'.get? b=some u)
  (ho:∀b,H b=some (.own a)->H' b=some (.own a)) (ht:∀b xs,H b=some (.tup xs)->H' b=some (.tup xs)):de P w H' h' a o:=by
 induction o with
 |lst xs=>obtain⟨z,its,n,r,e⟩:=x;exact⟨z,its,n,r,k _ _ (.inl rfl) e⟩
 |tup xs=>obtain⟨z,its,r,ob,e,c⟩:=x;exact⟨z,its,r,ob,k _ _ (.inl rfl) e,c⟩
 |dK kvs=>obtain⟨z,y,vs,r,ob,es,ep,e,c⟩:=x;exact⟨z,y,vs,r,ob,es,ep,k _ _ (.inl rfl) e,c⟩
 |dT kvs=>
  obtain⟨z,y,xs,r,ob,es,ep,e,c⟩:=x
  exact⟨z,y,xs,Paired.mapP r fun p q z=>⟨z.1,ht _ _ z.2.1,z.2.2⟩,ob,es,ep,k _ _ (.inl rfl) e,c⟩
 |set S n=>obtain⟨ob,es,ep,t,e,c⟩:=x;exact⟨ob,es,ep,t,k _ _ (.inl rfl) e,c⟩
 |ins C dx fs=>
  obtain⟨d,z,ne,e,mA,⟨od,es,ep,e2,c⟩,r⟩:=x
  exact⟨ho _ d,z,ne,k _ _ (.inl rfl) e,mA,⟨od,es,ep,k _ _ (.inr d) e2,c⟩,r⟩
 |own y=>obtain⟨ob,e⟩:=x;exact⟨ob,k _ _ (.inl rfl) e⟩
 |xd fs=>obtain⟨mA,⟨od,es,ep,e,c⟩,r⟩:=x;exact⟨mA,⟨od,es,ep,k _ _ (.inl rfl) e,c⟩,r⟩
 |rng lo hi=>obtain⟨t,u,v,e⟩:=x;exact⟨t,u,v,k _ _ (.inl rfl) e⟩
 |frz ob u ih=>obtain⟨e,q⟩:=x;exact⟨k _ _ (.inl rfl) e,ih q⟩
 |tbl ps=>
  have e:h.get? a=some {cls:=.none,data:=.fields ps}:=x
  show h'.get? a=some {cls:=.none,data:=.fields ps}
  exact k a _ (.inl rfl) e
 |met f y=>
  have e:h.get? a=some (Wc (.ref f) (.ref y)):=x
  show h'.get? a=some (Wc (.ref f) (.ref y))
  exact k a _ (.inl rfl) e
 |ext φ=>obtain⟨p,⟨o,e⟩,st⟩:=x;exact⟨st _ _ p fun o q=>k _ _ (.inl rfl) q,⟨o,k _ _ (.inl rfl) e⟩,st⟩
theorem pB.lt(x:pB P w H h)(e:H a=some o):a<h.objs.size:=(x a o e).lt
theorem pB.fresh(x:pB P w H h)(e:h.objs.size<=a):H a=none:=by
 cases q:H a with
 |none=>rfl
 |some u=>exact absurd (Q4 (x.lt q) e) (RQ _)
theorem pB.kept(x:pB P w H h)(k:∀b u,h.get? b=some u->h'.get? b=some u):pB P w H h':=fun a o e=>
 (x a o e).stay (fun b u _ q=>k b u q) (fun _ q=>q) fun _ _ q=>q
theorem pB.laid(x:pB P w H h)(k:∀b u,h.get? b=some u->h'.get? b=some u)(hp:h.objs.size<=a)(new:de P w (upd H a o) h' a o):pB P w (upd H a o) h':=fun b u e=>by
 have hn:=x.fresh hp
 by_cases hb:b=a
 ·subst hb;rw[ay]at e;cases e;exact new
 ·rw[ax hb]at e
  exact(x b u e).stay (fun c v _ q=>k c v q) (fun c q=>by rw[ax (bx q hn)];exact q) fun c xs q=>by rw[ax (bx q hn)];exact q
end
def Rd(H:Hp)(a:Qh)(u:HO):Prop:=H a=some u\/∃o,H a=some (.frz o u)
theorem Rd.ok{P:Qy}{w:Qv}{H:Hp}{h:Qq}{a:Qh}{u:HO}(r:Rd H a u)(x:pB P w H h):de P w H h a u:=by
 rcases r with r|⟨o,r⟩
 ·exact x a u r
 ·obtain⟨_,q⟩:=x a _ r
  exact q
def Oq:Option HO->Prop
 |some (.lst _)=>True
 |some (.dK _)=>True
 |some (.dT _)=>True
 |some (.set _ _)=>True
 |some (.ins _ _ _)=>True
 |some (.ext _)=>True
 |_=>False
section
variable {P:Qy}{w:Qv}{H:Hp}{h h':Qq}{x e:Qh}{o':HO}
theorem pB.write(ok:pB P w H h)(mu:Oq (H x))(he:e=x\/H e=some (.own x))(k:∀b u,b≠e->h.get? b=some u->h'.get? b=some u)(heo:∃u,h'.get? e=some u)
  (new:de P w (upd H x o') h' x o'):pB P w (upd H x o') h':=fun b u q=>by
 have nown:∀c y,H c=some (.own y)->c≠x:=fun c y r z=>by subst z;rw[r]at mu;exact mu
 have ntup:∀c xs,H c=some (.tup xs)->c≠x:=fun c xs r z=>by subst z;rw[r]at mu;exact mu
 by_cases hb:b=x
 ·subst hb;rw[ay]at q;cases q;exact new
 ·rw[ax hb]at q
  by_cases hbe:b=e
  ·have q':H b=some (.own x):=by
    rcases he with z|z
    ·exact absurd (hbe.trans z) hb
    ·rw[hbe];exact z
   rw[q]at q';cases q'
   obtain⟨v,hv⟩:=heo
   exact⟨v,by rw[hbe];exact hv⟩
  ·refine(ok b u q).stay (fun c v hc r=>k c v ?_ r) (fun c r=>by rw[ax (nown c b r)];exact r) fun c xs r=>by rw[ax (ntup c xs r)];exact r
   rcases hc with rfl|hc
   ·exact hbe
   ·rintro rfl
    rcases he with z|z
    ·exact nown c b hc z
    ·rw[hc]at z;cases z;exact hb rfl
end
structure Un(fs ex:List Qh)(H H':Hp)(h h':Qq):Prop where
 keep:∀b o,h.get? b=some o->H b=none->b∉fs->b∉ex->h'.get? b=some o
 slot:∀b o,h.get? b=some o->H b=none->b∈fs->b∉ex->∃sl,h'.get? b=some {o with slots:=sl}
 free:∀b o,h.get? b=some o->H b=none->b∉ex->H' b=none
 there:∀b o,h.get? b=some o->b∉ex->∃o',h'.get? b=some o'
 tups:∀b xs,H b=some (.tup xs)->H' b=some (.tup xs)
 frzs:∀b o u,H b=some (.frz o u)->H' b=some (.frz o u)
 tbls:∀b ps,H b=some (.tbl ps)->∃more,H' b=some (.tbl (ps++more))
section
variable {fs fs' ex ex':List Qh}{H H1 H2:Hp}{h h1 h2 h':Qq}{a x e:Qh}{o:HO}
theorem Un.any(u:Un fs ex H H1 h h1){b:Qh}{ob:Qo}(q:h.get? b=some ob)(n:H b=none)(hx:b∉ex):∃sl,h1.get? b=some {ob with slots:=sl}:=by
 by_cases hb:b∈fs
 ·exact u.slot b ob q n hb hx
 ·exact⟨ob.slots,u.keep b ob q n hb hx⟩
theorem Un.kept(k:∀b u,h.get? b=some u->h'.get? b=some u):Un fs ex H H h h':=
 ⟨fun b ob q _ _ _=>k b ob q,fun b ob q _ _ _=>⟨ob.slots,k b ob q⟩,fun _ _ _ n _=>n,fun b ob q _=>⟨ob,k b ob q⟩,fun _ _ q=>q,fun _ _ _ q=>q,fun _ ps q=>⟨#[],by rw[q];simp⟩⟩
theorem Un.refl:Un fs ex H H h h:=Un.kept fun _ _ q=>q
theorem Un.laid(k:∀b u,h.get? b=some u->h'.get? b=some u)(hp:h.objs.size<=a)(hn:H a=none):Un fs ex H (upd H a o) h h' where
 keep:=fun b u q _ _ _=>k b u q
 slot:=fun b u q _ _ _=>⟨u.slots,k b u q⟩
 free:=fun b u q n _=>by rw[ax (QV (Q4 (QJ q) hp))];exact n
 there:=fun b u q _=>⟨u,k b u q⟩
 tups:=fun b xs q=>by rw[ax (bx q hn)];exact q
 frzs:=fun b u xs q=>by rw[ax (bx q hn)];exact q
 tbls:=fun b ps q=>⟨#[],by rw[ax (bx q hn),q];simp⟩
theorem Un.write(mu:Oq (H x))(he:e=x\/H e=some (.own x))(k:∀b u,b≠e->h.get? b=some u->h'.get? b=some u)(heo:∃u,h'.get? e=some u):Un fs ex H (upd H x o) h h':=by
 have hx:∀b,H b=none->b≠x:=fun b n z=>by subst z;rw[n]at mu;exact mu
 have hb:∀b,H b=none->b≠e:=fun b n z=>by
  subst z
  rcases he with r|r
  ·exact hx b n r
  ·rw[n]at r;cases r
 have hm:∀b u,H b=some u->¬Oq (some u)->b≠x:=fun b u q nm z=>by subst z;rw[q]at mu;exact nm mu
 refine⟨fun b u q n _ _=>k b u (hb b n) q,fun b u q n _ _=>⟨u.slots,k b u (hb b n) q⟩,fun b u q n _=>by rw[ax (hx b n)];exact n,fun b u q _=>?_,
  fun b xs q=>by rw[ax (hm b _ q fun z=>z)];exact q,fun b u xs q=>by rw[ax (hm b _ q fun z=>z)];exact q,fun b ps q=>⟨#[],by rw[ax (hm b _ q fun z=>z),q];simp⟩⟩
 by_cases hbe:b=e
 ·subst hbe;exact heo
 ·exact⟨u,k b u hbe q⟩
theorem Un.mono(u:Un fs ex H H1 h h1)(hs:∀b∈fs,b∈fs')(hx:∀b∈ex,b∈ex'):Un fs' ex' H H1 h h1:=
 ⟨fun b ob q n hb he=>u.keep b ob q n (fun z=>hb (hs b z)) fun z=>he (hx b z),fun _ _ q n _ he=>u.any q n fun z=>he (hx _ z),fun b ob q n he=>u.free b ob q n fun z=>he (hx b z),fun b ob q he=>u.there b ob q fun z=>he (hx b z),u.tups,u.frzs,u.tbls⟩
end
def Pn(h:Qq)(H:Hp):List Qh:=(QM h.objs.size).filter fun a=>(H a).isSome
def Bx(h:Qq)(H:Hp):Qq:=ZV h (Pn h H)
theorem Hj(h:Qq)(H:Hp):(Bx h H).objs.size=h.objs.size:=Zd _ _
theorem KC{h:Qq}{H:Hp}{b:Qh}{o:Qo}(e:h.get? b=some o)(n:H b=none):(Bx h H).get? b=some o:=
 ZT _ e fun hm=>by
  have q:(H b).isSome=true:=(Rb.mp hm).2
  rw[n]at q;simp at q
theorem Lx{h:Qq}{H:Hp}{b:Qh}{o:Qo}(e:(Bx h H).get? b=some o):h.get? b=some o/\H b=none:=by
 have e':h.get? b=some o:=Y7 (Pn h H) e
 exists e'
 cases q:H b with
 |none=>rfl
 |some x=>
  have hm:b∈Pn h H:=Rb.mpr ⟨Ss.mpr (QJ e'),by simp[q]⟩
  have z:(Bx h H).get? b=none:=aa5 (Pn h H) hm
  rw[z]at e;cases e
structure Mod(K:Qj)(mg:Qg->Option Qi)(base:Qq):Prop where
 kin:K.In base
 glob:base.Ns Q6 mg
 blt:∃mb,base.Ns builtinsNs mb/\∀x:Qg,x≠"__name__"->mb x=T8 x
 nolimit:base.NoLimit
structure Cx where
 prog:Qy
 w:Qv
 K:Qj
 mg:Qg->Option Qi
 base:Qq
 A:QF
 N:List Qg
 s₀:Qk
 H₀:Hp
 env:QP
 outer:List QP
 stack:List QP
 ex:List Qh
 fn:Qg->Bool
 calm:Bool
 pn:List (Qh×Qo)
 xe:Qi->Qk->Prop
def AS(l:List QP):List Qh:=l.filterMap (·.frame)
abbrev Cx.fs(X:Cx):List Qh:=AS X.outer
def M5(sc:Rh)(x:Qg):Prop:=sc.names.lookup x=some .local\/sc.names.lookup x=some .cell\/sc.names.lookup x=some .free
def Loc(sc:Rh)(x:Qg):Prop:=sc.names.lookup x=some .local\/sc.names.lookup x=some .cell
def Look(env:QP)(h:Qq)(m:Qg->Option Qi)(x:Qg)(u:Qi):Prop:=
 (env.kindOf x=some .local/\m x=some u)\/((env.kindOf x=some .cell\/env.kindOf x=some .free)/\∃c,env.cells.lookup x=some c/\h.IsCell c (some u))
structure Cx.Ok(X:Cx):Prop where
 mod:Mod X.K X.mg X.base
 kind:X.env.scope.kind=.function
 glob:X.env.globals=Q6
 blt:X.env.builtins=builtinsNs
 above:X.s₀.heap.objs.size<=X.env.locals
 inj:∀x y c,X.env.cells.lookup x=some c->X.env.cells.lookup y=some c->x=y
 has:∀x,(X.env.kindOf x=some .cell\/X.env.kindOf x=some .free)->∃c,X.env.cells.lookup x=some c
 cab:∀x c,X.fn x=true->X.env.cells.lookup x=some c->X.s₀.heap.objs.size<=c
 hd:X.calm=true->X.A.handled=none
 frames:X.A.frames=some X.stack
 stk:X.stack=X.outer\/(X.stack=X.env::X.outer/\X.env.frame=some X.env.locals)
 exf:∀b∈X.ex,b≠X.env.locals/\∀x c,X.env.cells.lookup x=some c->c≠b
 bs:∀b o,X.base.get? b=some o->X.s₀.heap.get? b=some o/\X.H₀ b=none
 bsz:X.base.objs.size<=X.s₀.heap.objs.size
 noex:∀b o,X.base.get? b=some o->b∉X.ex
 exfs:∀b∈X.ex,b∉X.fs
 funs:X.s₀.heap.FunFrames X.base X.outer
 frf:∀b∈X.fs,X.H₀ b=none
structure Inv(X:Cx)(pins:List (Qh×Qo))(σ:List (Option V))(H:Hp)(s:Qk):Prop where
 ok:X.Ok
 os:s.os=X.s₀.os
 bare:Su s.gens
 base:Un X.fs X.ex X.H₀ H X.s₀.heap s.heap
 loc:∃m,s.heap.Ns X.env.locals m/\∀(i:Nat)(x:Qg)(v:V),X.N[i]?=some x->σ[i]?=some (some v)->M5 X.env.scope x->∃u,RelV v u/\Look X.env s.heap m x u
 cell:∀x c,X.env.cells.lookup x=some c->∃v,s.heap.IsCell c v
 free:H X.env.locals=none
 freeC:∀x c,X.env.cells.lookup x=some c->H c=none
 pin:∀p∈X.pn++pins,s.heap.get? p.1=some p.2/\H p.1=none/\p.1≠X.env.locals/\p.1∉X.fs/\∀v,p.2.data≠.cell v
 hok:pB X.prog X.w H s.heap
 len:σ.length=X.N.length
section
variable {X:Cx}{pins:List (Qh×Qo)}{σ:List (Option V)}{H H':Hp}{s:Qk}{h':Qq}
theorem Cx.Ok.nofr(ok:X.Ok){b:Qh}{o:Qo}(e:X.base.get? b=some o):b∉X.fs:=fun hb=>by
 have:=(ok.funs.mem hb).1
 rw[e]at this;cases this
theorem Inv.bs(I:Inv X pins σ H s):∀b o,X.base.get? b=some o->s.heap.get? b=some o/\H b=none:=fun b o e=>
 ⟨I.base.keep b o (I.ok.bs b o e).1 (I.ok.bs b o e).2 (I.ok.nofr e) (I.ok.noex b o e),I.base.free b o (I.ok.bs b o e).1 (I.ok.bs b o e).2 (I.ok.noex b o e)⟩
theorem Inv.bk(I:Inv X pins σ H s):∀b o,X.base.get? b=some o->s.heap.get? b=some o:=fun b o e=>(I.bs b o e).1
theorem Inv.mod(I:Inv X pins σ H s):Mod X.K X.mg X.base:=I.ok.mod
theorem Inv.kIn(I:Inv X pins σ H s):X.K.In s.heap:=I.ok.mod.kin.keeps I.bk
theorem Inv.lt(I:Inv X pins σ H s):X.env.locals<s.heap.objs.size:=let ⟨_,hn,_⟩:=I.loc;hn.lt
theorem Inv.sz(I:Inv X pins σ H s):X.s₀.heap.objs.size<=s.heap.objs.size:=Qt I.ok.above (SA I.lt)
theorem Inv.nofs(I:Inv X pins σ H s){a:Qh}(h:s.heap.objs.size<=a):a∉X.fs:=fun hb=>by
 obtain⟨_,o,ho,_⟩:=I.ok.funs.mem hb
 exact absurd (Q4 (QJ ho) (Qt I.sz h)) (RQ _)
theorem Inv.cne(I:Inv X pins σ H s):∀x c,X.env.cells.lookup x=some c->c≠X.env.locals:=fun x c e z=>by
 obtain⟨v,o,ho,hd⟩:=I.cell x c e
 obtain⟨m,⟨o',es,ep,ho',hd',_⟩,_⟩:=I.loc
 rw[z,ho']at ho;cases ho;rw[hd']at hd;cases hd
theorem Inv.funs(I:Inv X pins σ H s):s.heap.FunFrames X.base X.outer:=by
 have all:∀(l:List QP),(∀b∈AS l,b∈X.fs)->X.s₀.heap.FunFrames X.base l->s.heap.FunFrames X.base l:=by
  intro l
  induction l with
  |nil=>intro _ _;trivial
  |cons env r ih=>
   intro hs hl
   obtain⟨hk,⟨L,o,hf,hn,ho,hd⟩,hr⟩:=hl
   have hL:L∈X.fs:=hs L (by unfold AS;rw[VS,hf];exact Ri)
   obtain⟨sl,e⟩:=I.base.slot L o ho (I.ok.frf L hL) hL fun z=>I.ok.exfs L z hL
   exact⟨hk,⟨L,_,hf,hn,e,hd⟩,ih (fun b hb=>hs b (by unfold AS;rw[VS,hf];exact Q2 _ hb)) hr⟩
 exact all X.outer (fun _ hb=>hb) I.ok.funs
theorem Inv.stack(I:Inv X pins σ H s):s.heap.FunFrames X.base X.stack:=by
 rcases I.ok.stk with e|⟨e,hf⟩
 ·rw[e];exact I.funs
 ·rw[e]
  obtain⟨m,hn,_⟩:=I.loc
  refine .cons (by rw[I.ok.kind];decide) hf hn ?_ I.funs
  exact Uo (Qt I.ok.bsz I.ok.above)
theorem Inv.stkSub(I:Inv X pins σ H s):∀b∈AS X.stack,b∈X.env.locals::X.fs:=fun b hb=>by
 rcases I.ok.stk with e|⟨e,hf⟩
 ·rw[e]at hb;exact Q2 _ hb
 ·rw[e]at hb
  unfold AS at hb
  rw[VS,hf]at hb
  exact hb
theorem Inv.stkFree(I:Inv X pins σ H s):∀b∈AS X.stack,H b=none:=fun b hb=>by
 rcases QI.mp (I.stkSub b hb)with e|hb
 ·rw[e];exact I.free
 ·obtain⟨_,o,ho,_⟩:=I.ok.funs.mem hb
  exact I.base.free b o ho (I.ok.frf b hb) fun z=>I.ok.exfs b z hb
theorem Inv.step{g':Array GenState}{t':Nat}{d':Drawn}{ch:List Qh}(I:Inv X pins σ H s)
  (hch:∀b∈ch,(b∈X.ex\/X.s₀.heap.objs.size<=b)/\b≠X.env.locals/\(∀x c,X.env.cells.lookup x=some c->c≠b)/\∀p∈X.pn++pins,p.1≠b)
  (keep:∀b o,b≠X.env.locals->b∉X.fs->b∉ch->s.heap.get? b=some o->H b=none->h'.get? b=some o)
  (slot:∀b o,b≠X.env.locals->b∈X.fs->b∉ch->s.heap.get? b=some o->H b=none->∃sl,h'.get? b=some {o with slots:=sl}) (free:∀b o,b∉ch->s.heap.get? b=some o->H b=none->H' b=none)
  (there:∀b o,b∉ch->s.heap.get? b=some o->∃o',h'.get? b=some o')
  (tups:∀b xs,H b=some (.tup xs)->H' b=some (.tup xs)) (frzs:∀b o u,H b=some (.frz o u)->H' b=some (.frz o u)) (tbls:∀b ps,H b=some (.tbl ps)->∃more,H' b=some (.tbl (ps++more)))
  (ns:∀m,s.heap.Ns X.env.locals m->h'.Ns X.env.locals m) (hok:pB X.prog X.w H' h') (hg:Su g'):
  Inv X pins σ H' {s with heap:=h',gens:=g',drawn:=d',toks:=t'}:=by
 have neL:∀b o,X.s₀.heap.get? b=some o->b≠X.env.locals:=fun b o e=>QV (Q4 (QJ e) I.ok.above)
 have neC:∀b o,X.s₀.heap.get? b=some o->b∉X.ex->b∉ch:=fun b o e hx hb=>by
  rcases(hch b hb).1 with z|z
  ·exact hx z
  ·exact absurd (Q4 (QJ e) z) (RQ _)
 have cellK:∀x c,X.env.cells.lookup x=some c->∀v,s.heap.IsCell c v->h'.IsCell c v:=fun x c e v ⟨o,ho,hd⟩=>by
  have nch:c∉ch:=fun z=>(hch c z).2.2.1 x c e rfl
  by_cases hc:c∈X.fs
  ·obtain⟨sl,q⟩:=slot c o (I.cne x c e) hc nch ho (I.freeC x c e)
   exact⟨_,q,hd⟩
  ·exact⟨o,keep c o (I.cne x c e) hc nch ho (I.freeC x c e),hd⟩
 refine⟨I.ok,I.os,hg,⟨fun b o e n hb hx=>?_,fun b o e n hb hx=>?_,fun b o e n hx=>?_,fun b o e hx=>?_,fun b xs e=>tups b xs (I.base.tups b xs e),fun b o xs e=>frzs b o xs (I.base.frzs b o xs e),fun b ps e=>?_⟩,?_,fun x c e=>?_,?_,fun x c e=>?_,fun p hp=>?_,hok,I.len⟩
 ·exact keep b o (neL b o e) hb (neC b o e hx) (I.base.keep b o e n hb hx) (I.base.free b o e n hx)
 ·obtain⟨sl,e1⟩:=I.base.slot b o e n hb hx
  obtain⟨sl',e2⟩:=slot b _ (neL b o e) hb (neC b o e hx) e1 (I.base.free b o e n hx)
  exact⟨sl',e2⟩
 ·obtain⟨o',e1⟩:=I.base.there b o e hx
  exact free b o' (neC b o e hx) e1 (I.base.free b o e n hx)
 ·obtain⟨o',e1⟩:=I.base.there b o e hx
  exact there b o' (neC b o e hx) e1
 ·obtain⟨m1,e1⟩:=I.base.tbls b ps e
  obtain⟨m2,e2⟩:=tbls b _ e1
  exact⟨m1++m2,by rw[e2,Array.append_assoc]⟩
 ·obtain⟨m,hn,hl⟩:=I.loc
  refine⟨m,ns m hn,fun i x v e1 e2 e3=>?_⟩
  obtain⟨u,r,l⟩:=hl i x v e1 e2 e3
  exists u,r
  rcases l with l|⟨k,c,e,z⟩
  ·exact .inl l
  ·exact .inr ⟨k,c,e,cellK x c e _ z⟩
 ·obtain⟨v,z⟩:=I.cell x c e
  exact⟨v,cellK x c e v z⟩
 ·obtain⟨m,⟨o,_,_,ho,_⟩,_⟩:=I.loc
  exact free _ o (fun z=>(hch _ z).2.1 rfl) ho I.free
 ·obtain⟨v,o,ho,hd⟩:=I.cell x c e
  exact free c o (fun z=>(hch c z).2.2.1 x c e rfl) ho (I.freeC x c e)
 ·obtain⟨e,n,ne,nf,d⟩:=I.pin p hp
  have nch:p.1∉ch:=fun z=>(hch p.1 z).2.2.2 p hp rfl
  exact⟨keep p.1 p.2 ne nf nch e n,free p.1 p.2 nch e n,ne,nf,d⟩
theorem Inv.un{t':Nat}(I:Inv X pins σ H s)(u:Un X.fs [] H H' s.heap h')(hok:pB X.prog X.w H' h'):Inv X pins σ H' {s with heap:=h',toks:=t'}:=by
 obtain⟨m,⟨o,es,ep,ho,r⟩,_⟩:=id I.loc
 obtain⟨sl,hL⟩:=u.any ho I.free ⋯
 exact I.step (g':=s.gens) (d':=s.drawn) (ch:=[]) (fun _ z=>nomatch z) (fun b o _ hb _ e n=>u.keep b o e n hb ⋯) (fun b o _ hb _ e n=>u.slot b o e n hb ⋯) (fun b o _ e n=>u.free b o e n ⋯) (fun b o _ e=>u.there b o e ⋯) u.tups u.frzs u.tbls (fun m' hm=>by
  obtain⟨o',es',ep',ho',r'⟩:=hm
  rw[ho]at ho';cases ho'
  exact⟨_,es',ep',hL,r'⟩) hok I.bare
theorem Inv.call{g':Array GenState}{t':Nat}{d':Drawn}{ch:List Qh}(I:Inv X pins σ H s)(u:Un (AS X.stack) ch H H' s.heap h')(hok:pB X.prog X.w H' h')(hg:Su g')
  (hch:∀b∈ch,(b∈X.ex\/X.s₀.heap.objs.size<=b)/\b≠X.env.locals/\(∀x c,X.env.cells.lookup x=some c->c≠b)/\∀p∈X.pn++pins,p.1≠b):
  Inv X pins σ H' {s with heap:=h',gens:=g',drawn:=d',toks:=t'}:=by
 obtain⟨m,⟨o,es,ep,ho,r⟩,_⟩:=id I.loc
 obtain⟨sl,hL⟩:=u.any ho I.free fun z=>(hch _ z).2.1 rfl
 exact I.step (ch:=ch) hch (fun b o hL hb hc e n=>u.keep b o e n (fun z=>(QI.mp (I.stkSub b z)).elim hL hb) hc) (fun b o _ _ hc e n=>u.any e n hc) (fun b o hc e n=>u.free b o e n hc) (fun b o hc e=>u.there b o e hc) u.tups u.frzs u.tbls (fun m' hm=>by
  obtain⟨o',es',ep',ho',r'⟩:=hm
  rw[ho]at ho';cases ho'
  exact⟨_,es',ep',hL,r'⟩) hok hg
theorem Inv.turned{t':Nat}{it:Qh}(I:Inv X pins σ H s)(k:∀b o,b≠it->s.heap.get? b=some o->h'.get? b=some o)(hn:H it=none)(hL:it≠X.env.locals)
  (h1:it∈X.ex\/X.s₀.heap.objs.size<=it) (h2:∀x c,X.env.cells.lookup x=some c->c≠it) (h3:∀p∈X.pn++pins,p.1≠it):Inv X pins σ H {s with heap:=h',toks:=t'}:=by
 have nit:∀b u,H b=some u->b≠it:=fun b u e z=>by rw[z,hn]at e;cases e
 refine I.step (g':=s.gens) (d':=s.drawn) (ch:=[it]) (fun b hb=>?_) (fun b o _ _ hc e _=>k b o (fun z=>hc (by simp[z])) e) (fun b o _ _ hc e _=>⟨o.slots,k b o (fun z=>hc (by simp[z])) e⟩) (fun _ _ _ _ n=>n)
  (fun b o hc e=>⟨o,k b o (fun z=>hc (by simp[z])) e⟩) (fun _ _ e=>e) (fun _ _ _ e=>e) (fun b ps e=>⟨#[],by rw[e];simp⟩) (fun m hm=>?_) (fun b u e=>?_) I.bare
 ·have e:b=it:=by simpa using hb
  subst e
  exact⟨h1,hL,h2,h3⟩
 ·obtain⟨o,es,ep,ho,r⟩:=hm
  exact⟨o,es,ep,k _ o (QT hL) ho,r⟩
 ·refine(I.hok b u e).stay (fun c v hc q=>k c v ?_ q) (fun _ q=>q) fun _ _ q=>q
  rcases hc with z|z
  ·rw[z];exact nit b u e
  ·exact nit c _ z
theorem Inv.tok(I:Inv X pins σ H s)(t:Nat):Inv X pins σ H {s with toks:=t}:=I.un (h':=s.heap) (t':=t) Un.refl I.hok
theorem Inv.kept{t':Nat}(I:Inv X pins σ H s)(k:∀b u,s.heap.get? b=some u->h'.get? b=some u):Inv X pins σ H {s with heap:=h',toks:=t'}:=I.un (Un.kept k) (I.hok.kept k)
theorem Inv.laid{a:Qh}{o:HO}{t':Nat}(I:Inv X pins σ H s)(k:∀b u,s.heap.get? b=some u->h'.get? b=some u)(hp:s.heap.objs.size<=a)(new:de X.prog X.w (upd H a o) h' a o):
  Inv X pins σ (upd H a o) {s with heap:=h',toks:=t'}:=I.un (Un.laid k hp (I.hok.fresh hp)) (I.hok.laid k hp new)
theorem Inv.write{x e:Qh}{o:HO}{t':Nat}(I:Inv X pins σ H s)(mu:Oq (H x))(he:e=x\/H e=some (.own x))(k:∀b u,b≠e->s.heap.get? b=some u->h'.get? b=some u)(heo:∃u,h'.get? e=some u)
  (new:de X.prog X.w (upd H x o) h' x o):Inv X pins σ (upd H x o) {s with heap:=h',toks:=t'}:=I.un (Un.write mu he k heo) (I.hok.write mu he k heo new)
theorem Inv.pins_of{pins':List (Qh×Qo)}(I:Inv X pins σ H s)(h:∀p∈pins',s.heap.get? p.1=some p.2/\H p.1=none/\p.1≠X.env.locals/\p.1∉X.fs/\∀v,p.2.data≠.cell v):Inv X pins' σ H s:=
 ⟨I.ok,I.os,I.bare,I.base,I.loc,I.cell,I.free,I.freeC,fun p hp=>(Q7.mp hp).elim (fun z=>I.pin p (TC _ z)) (h p),I.hok,I.len⟩
theorem wI{N:List Qg}(hN:N.Nodup){i j:Nat}{x:Qg}(a:N[i]?=some x)(b:N[j]?=some x):i=j:=by
 obtain⟨h1,e1⟩:=Q0.mp a
 obtain⟨h2,e2⟩:=Q0.mp b
 exact(List.getElem_inj hN).mp (e1.trans e2.symm)
theorem Ar{M:Model}{A:QF}{E:Qi->Qk->Prop}{i:Nat}{x:Qg}{v:V}{u:Qi}{Q:Unit->Qk->Prop}(I:Inv X pins σ H s)(hN:X.N.Nodup)(hi:X.N[i]?=some x)(hx:Loc X.env.scope x)(r:RelV v u)
  (h:∀s',Inv X pins (σ.set i (some v)) H s'->(∃a,Sh a s.heap s'.heap/\(a=X.env.locals\/X.env.cells.lookup x=some a))->Q () s') (hf:X.fn x=true\/X.env.scope.names.lookup x=some .local:=by first|exact .inl rfl|exact .inr rfl|assumption):Ql M A (storeName X.env x u) Q E s:=by
 obtain⟨m,hn,hl⟩:=id I.loc
 have hcls:(X.env.scope.kind==.class || (X.env.scope.kind==.module&&X.env.locals != X.env.globals))=false:=by rw[I.ok.kind];rfl
 have hiσ:i<σ.length:=by rw[I.len];exact(Q0.mp hi).1
 have cne:=I.cne
 have tracked:∀{a:Qh}{h':Qq},(∃o,s.heap.get? a=some o/\H a=none)->Sh a s.heap h'->pB X.prog X.w H h':=fun {a h'} ha hs b ob e=>by
  obtain⟨_,_,hfree⟩:=ha
  refine(I.hok b ob e).stay (fun c w' hc q=>(hs.2 c ?_).trans q) (fun _ q=>q) fun _ _ q=>q
  rintro rfl
  rcases hc with rfl|hc
  ·rw[hfree]at e;cases e
  ·rw[hfree]at hc;cases hc
 rcases hx with hk|hk
 ·refine wpAny_storeName_local hk hn (fun h' hn' hs=>?_) hcls
  obtain⟨oL,_,_,hoL,_⟩:=id hn
  refine h _ ⟨I.ok,I.os,I.bare,⟨fun b o e n hb hx=>?_,fun b o e n hb hx=>?_,I.base.free,fun b o e hx=>?_,I.base.tups,I.base.frzs,I.base.tbls⟩,⟨_,hn',fun j y v' e1 e2 e3=>?_⟩,fun y c e=>?_,I.free,I.freeC,fun p hp=>?_,tracked ⟨oL,hoL,I.free⟩ hs,by simpa using I.len⟩ ⟨_,hs,.inl rfl⟩
  ·exact(hs.2 b (QV (Q4 (QJ e) I.ok.above))).trans (I.base.keep b o e n hb hx)
  ·obtain⟨sl,e1⟩:=I.base.slot b o e n hb hx
   exact⟨sl,(hs.2 b (QV (Q4 (QJ e) I.ok.above))).trans e1⟩
  ·obtain⟨o',e1⟩:=I.base.there b o e hx
   exact⟨o',(hs.2 b (QV (Q4 (QJ e) I.ok.above))).trans e1⟩
  ·by_cases hj:j=i
   ·subst hj
    rw[hi]at e1;cases e1
    rw[Wk hiσ]at e2
    cases e2
    exact⟨u,r,.inl ⟨hk,⋯⟩⟩
   ·rw[VV (QT hj)]at e2
    obtain⟨u',r',q⟩:=hl j y v' e1 e2 e3
    exists u',r'
    rcases q with⟨k,e⟩|⟨k,c,e,z⟩
    ·refine .inl ⟨k,?_⟩
     have:y≠x:=fun e=>hj (wI hN e1 (e▸hi))
     simp[this,e]
    ·exact .inr ⟨k,c,e,z.sameBut hs (cne y c e)⟩
  ·obtain⟨w',z⟩:=I.cell y c e
   exact⟨w',z.sameBut hs (cne y c e)⟩
  ·obtain⟨e,n,ne,nf,d⟩:=I.pin p hp
   exact⟨(hs.2 p.1 ne).trans e,n,ne,nf,d⟩
 ·have hfn:X.fn x=true:=by
   rcases hf with z|z
   ·exact z
   ·rw[z]at hk;cases hk
  obtain⟨c,hc⟩:=I.ok.has x (.inl hk)
  obtain⟨w',z⟩:=I.cell x c hc
  refine wpAny_storeName_cell I.ok.kind hk hc z (fun h' hc' hs=>?_)
  obtain⟨oc,hoc,hocd⟩:=id z
  refine h {s with heap:=h'} ⟨I.ok,I.os,I.bare,⟨fun b o e n hb hx=>?_,fun b o e n hb hx=>?_,I.base.free,fun b o e hx=>?_,I.base.tups,I.base.frzs,I.base.tbls⟩,⟨m,hn.sameBut hs (QT (cne x c hc)),fun j y v' e1 e2 e3=>?_⟩,fun y c' e=>?_,I.free,I.freeC,fun p hp=>?_,tracked ⟨oc,hoc,I.freeC x c hc⟩ hs,by simpa using I.len⟩ ⟨c,hs,.inr hc⟩
  ·exact(hs.2 b (QV (Q4 (QJ e) (I.ok.cab x c hfn hc)))).trans (I.base.keep b o e n hb hx)
  ·obtain⟨sl,e1⟩:=I.base.slot b o e n hb hx
   exact⟨sl,(hs.2 b (QV (Q4 (QJ e) (I.ok.cab x c hfn hc)))).trans e1⟩
  ·obtain⟨o',e1⟩:=I.base.there b o e hx
   exact⟨o',(hs.2 b (QV (Q4 (QJ e) (I.ok.cab x c hfn hc)))).trans e1⟩
  ·by_cases hj:j=i
   ·subst hj
    rw[hi]at e1;cases e1
    rw[Wk hiσ]at e2
    cases e2
    exact⟨u,r,.inr ⟨.inl hk,c,hc,hc'⟩⟩
   ·rw[VV (QT hj)]at e2
    obtain⟨u',r',q⟩:=hl j y v' e1 e2 e3
    exists u',r'
    rcases q with q|⟨k,c',e,z'⟩
    ·exact .inl q
    ·refine .inr ⟨k,c',e,z'.sameBut hs ?_⟩
     rintro rfl
     exact hj (wI hN e1 (I.ok.inj _ _ _ e hc▸hi))
  ·by_cases hcc:c'=c
   ·subst hcc;exact⟨_,hc'⟩
   ·obtain⟨w2,z2⟩:=I.cell y c' e
    exact⟨w2,z2.sameBut hs hcc⟩
  ·obtain⟨e,n,ne,nf,d⟩:=I.pin p hp
   refine⟨(hs.2 p.1 ?_).trans e,n,ne,nf,d⟩
   intro q
   rw[q,hoc]at e
   have q':oc=p.2:=Rk e
   exact d w' (by rw[<-q'];exact hocd)
theorem kG{M:Model}{A:QF}{E:Qi->Qk->Prop}{i:Nat}{x:Qg}{v:V}{u:Qi}{Q:Unit->Qk->Prop}(I:Inv X pins σ H s)(hN:X.N.Nodup)(hi:X.N[i]?=some x)(hx:Loc X.env.scope x)(r:RelV v u)
  (h:∀s',Inv X pins (σ.set i (some v)) H s'->Q () s') (hf:X.fn x=true\/X.env.scope.names.lookup x=some .local:=by first|exact .inl rfl|exact .inr rfl|assumption):Ql M A (storeName X.env x u) Q E s:=
 Ar I hN hi hx r (fun s' I' _=>h s' I') hf
theorem Inv.call'{s':Qk}{ch:List Qh}(I:Inv X pins σ H s)(ho:s'.os=s.os)(u:Un (AS X.stack) ch H H' s.heap s'.heap)(hok:pB X.prog X.w H' s'.heap)(hg:Su s'.gens)
  (hch:∀b∈ch,(b∈X.ex\/X.s₀.heap.objs.size<=b)/\b≠X.env.locals/\(∀x c,X.env.cells.lookup x=some c->c≠b)/\∀p∈X.pn++pins,p.1≠b):Inv X pins σ H' s':=by
 obtain⟨h',g',d',t',o'⟩:=s'
 have e:o'=s.os:=ho
 subst e
 exact I.call (g':=g') (t':=t') (d':=d') u hok hg hch
end
abbrev XK:=Qi->Option Qh->Hp->Prop
abbrev St:=List (Option V)
abbrev VK:=V->Hp->Prop
abbrev TE:=St->Hp->VK->Prop
abbrev TT:=St->Hp->(Bool->Hp->Prop)->Prop
abbrev TA:=St->Hp->(List V->Hp->Prop)->Prop
structure Ends where
 nx:St->Hp->Prop
 rt:VK
 bk:St->Hp->Prop:=fun _ _=>False
 ct:St->Hp->Prop:=fun _ _=>False
abbrev TS:=Ends->St->Hp->Prop
def EP(X:Cx)(pins:List (Qh×Qo))(σ:St)(Q:VK)(u:Qi)(s':Qk):Prop:=∃v H',Inv X pins σ H' s'/\RelV v u/\Q v H'
def TP(X:Cx)(pins:List (Qh×Qo))(σ:St)(Q:Bool->Hp->Prop)(b:Bool)(s':Qk):Prop:=∃H',Inv X pins σ H' s'/\Q b H'
def AP(X:Cx)(pins:List (Qh×Qo))(σ:St)(Q:List V->Hp->Prop)(us:List Qi)(s':Qk):Prop:=∃vs H',Inv X pins σ H' s'/\cu vs us/\Q vs H'
noncomputable def SP(X:Cx)(pins:List (Qh×Qo))(D:Ends)(f:Flow)(s':Qk):Prop:=
 match f with
 |.next=>∃σ' H',Inv X pins σ' H' s'/\D.nx σ' H'
 |.brk=>∃σ' H',Inv X pins σ' H' s'/\D.bk σ' H'
 |.cont=>∃σ' H',Inv X pins σ' H' s'/\D.ct σ' H'
 |.ret u=>∃v σ' H',Inv X pins σ' H' s'/\RelV v u/\D.rt v H'
def PE(X:Cx)(e:Qp)(t:TE):Prop:=
 ∀(pins:List (Qh×Qo))(s:Qk)(σ:St)(H:Hp)(Q:VK),Inv X pins σ H s->t σ H Q->Ql (model X.prog X.w) X.A (eval e X.env) (EP X pins σ Q) X.xe s
def PT(X:Cx)(e:Qp)(t:TT):Prop:=
 ∀(pins:List (Qh×Qo))(s:Qk)(σ:St)(H:Hp)(Q:Bool->Hp->Prop),Inv X pins σ H s->t σ H Q->Ql (model X.prog X.w) X.A (isTrue e X.env (eval e X.env)) (TP X pins σ Q) X.xe s
def PW(X:Cx)(e:Qp)(t:TT):Prop:=
 ∀(whole:Sem Qi)(pins:List (Qh×Qo))(s:Qk)(σ:St)(H:Hp)(Q:Bool->Hp->Prop),Inv X pins σ H s->t σ H Q->Ql (model X.prog X.w) X.A (isTrue e X.env whole) (TP X pins σ Q) X.xe s
theorem PW.pt{X:Cx}{e:Qp}{t:TT}(h:PW X e t):PT X e t:=h _
noncomputable def PA(X:Cx)(es:List Qp)(t:TA):Prop:=
 ∀(pos:QH)(pins:List (Qh×Qo))(s:Qk)(σ:St)(H:Hp)(Q:List V->Hp->Prop),Inv X pins σ H s->t σ H Q->Ql (model X.prog X.w) X.A (spliced (Q1 pos (Qx es X.env))) (AP X pins σ Q) X.xe s
def PS(X:Cx)(st:Qs)(t:TS):Prop:=
 ∀(pins:List (Qh×Qo))(s:Qk)(σ:St)(H:Hp)(D:Ends),Inv X pins σ H s->t D σ H->Ql (model X.prog X.w) X.A (exec st X.env) (SP X pins D) X.xe s
def xc(X:Cx)(st:List Qs)(t:TS):Prop:=
 ∀(pins:List (Qh×Qo))(s:Qk)(σ:St)(H:Hp)(D:Ends),Inv X pins σ H s->t D σ H->Ql (model X.prog X.w) X.A (execs st X.env) (SP X pins D) X.xe s
theorem cX{α:Type}{t:Sem α}{Q Q':α->Qk->Prop}{M:Model}{A:QF}{E:Qi->Qk->Prop}{s:Qk}(h:Ql M A t Q E s)(hQ:∀a s,Q a s->Q' a s):Ql M A t Q' E s:=Rl h hQ fun _ _ x=>x
section
variable {X:Cx}
theorem bin{a b:Qp}{ta tb:TE}(ha:PE X a ta)(hb:PE X b tb){pins:List (Qh×Qo)}{s:Qk}{σ:St}{H:Hp}{R:V->V->Hp->Prop}(I:Inv X pins σ H s)(h:ta σ H fun x H1=>tb σ H1 fun y H2=>R x y H2)
  {α:Type}{Q:α->Qk->Prop}{f:Qi->Qi->Sem α}
  (hf:∀v u s2 x y H2,Inv X pins σ H2 s2->RelV x v->RelV y u->R x y H2->Ql (model X.prog X.w) X.A (f v u) Q X.xe s2):
  Ql (model X.prog X.w) X.A (eval a X.env) (fun v s₁=>Ql (model X.prog X.w) X.A (eval b X.env) (fun u s₂=>Ql (model X.prog X.w) X.A (f v u) Q X.xe s₂) X.xe s₁) X.xe s:=by
 refine cX (ha pins s σ H _ I h) fun v s1 ⟨x,H1,I1,r1,q1⟩=>?_
 refine cX (hb pins s1 σ H1 _ I1 q1) fun u s2 ⟨y,H2,I2,r2,q2⟩=>?_
 exact hf v u s2 x y H2 I2 r1 r2 q2
def af(i:Nat):TE:=fun σ H Q=>∃v,σ[i]?=some (some v)/\Q v H
def tC(v:V):TE:=fun _ H Q=>Q v H
theorem MP{i:Nat}{x:Qg}{pos:QH}(hN:X.N[i]?=some x)(hv:M5 X.env.scope x)(hd:(x==("__debug__":Qg))=false:=by decide)(hcd:(x==("__classdict__":Qg))=false:=by decide):PE X (.Name x pos) (af i):=by
 intro pins s σ H Q I h
 obtain⟨v,e,h⟩:=h
 obtain⟨m,hn,hl⟩:=I.loc
 obtain⟨u,r,l⟩:=hl i x v hN e hv
 have fin:EP X pins σ Q u s:=⟨v,H,I,r,h⟩
 rcases l with⟨hk,hm⟩|⟨hk,c,hc,hcell⟩
 ·exact wpAny_Name (wpAny_loadName_local I.ok.kind hk hn hm fin) hd
 ·rcases hk with hk|hk
  ·exact wpAny_Name (wpAny_loadName_cell I.ok.kind hk hc hcell fin) hd
  ·exact wpAny_Name (wpAny_loadName_free I.ok.kind hk hc hcell fin hcd) hd
theorem ak{i j pos}:PE X (.Constant (.int i) j pos) (tC (.int i)):=fun _ _ _ H _ I h=>wpAny_Constant_int ⟨.int i,H,I.tok _,⟨_,rfl⟩,h⟩
theorem ic{b j pos}:PE X (.Constant (.bool b) j pos) (tC (.bl b)):=fun _ _ _ H _ I h=>Constant_bool ⟨.bl b,H,I,rfl,h⟩
theorem gT{j pos}:PE X (.Constant .none j pos) (tC .non):=fun _ _ _ H _ I h=>Constant_none ⟨.non,H,I,rfl,h⟩
theorem aB{x j pos}:PE X (.Constant (.str x) j pos) (tC (.str x)):=fun _ _ _ H _ I h=>Calls.Constant_str ⟨.str x,H,I.tok _,⟨_,rfl⟩,h⟩
def Gl(X:Cx)(x:Qg):Prop:=X.env.kindOf x=some .globalImplicit
theorem lV{E:Qi->Qk->Prop}{pins:List (Qh×Qo)}{s:Qk}{σ:St}{H:Hp}{x:Qg}{u:Qi}{pos:QH}{Q:Qi->Qk->Prop}(I:Inv X pins σ H s)(hg:Gl X x)(hm:X.mg x=some u)(h:Q u s)
  (hd:(x==("__debug__":Qg))=false:=by decide):Ql (model X.prog X.w) X.A (eval (.Name x pos) X.env) Q E s:=
 WO I.ok.kind hg (Calls.loadGlobal_global (by rw[I.ok.glob];exact I.mod.glob.keeps I.bk) hm h) hd
theorem kh{E:Qi->Qk->Prop}{pins:List (Qh×Qo)}{s:Qk}{σ:St}{H:Hp}{x:Qg}{u:Qi}{pos:QH}{Q:Qi->Qk->Prop}(I:Inv X pins σ H s)(hg:Gl X x)(hm:X.mg x=none)(hv:T8 x=some u)(h:Q u s)
  (hn:x≠"__name__":=by decide) (hd:(x==("__debug__":Qg))=false:=by decide):Ql (model X.prog X.w) X.A (eval (.Name x pos) X.env) Q E s:=by
 obtain⟨mb,h1,h2⟩:=I.mod.blt
 exact WO I.ok.kind hg (Calls.loadGlobal_builtin (by rw[I.ok.glob];exact I.mod.glob.keeps I.bk) hm (by rw[I.ok.blt];exact h1.keeps I.bk) ((h2 x hn).trans hv) h) hd
theorem Bm{x:Qg}{v:V}{u:Qi}{pos:QH}(hg:Gl X x)(hm:X.mg x=some u)(r:RelV v u)(hd:(x==("__debug__":Qg))=false:=by decide):PE X (.Name x pos) (tC v):=
 fun _ _ _ H _ I h=>lV I hg hm ⟨v,H,I,r,h⟩ hd
theorem Lv{x:Qg}{v:V}{u:Qi}{pos:QH}(hg:Gl X x)(hm:X.mg x=none)(hv:T8 x=some u)(r:RelV v u)(hn:x≠"__name__":=by decide)(hd:(x==("__debug__":Qg))=false:=by decide):PE X (.Name x pos) (tC v):=
 fun _ _ _ H _ I h=>kh I hg hm hv ⟨v,H,I,r,h⟩ hn hd
variable {a b:Qp}{ta tb:TE}{pos:QH}
noncomputable def PC(X:Cx)(op:CmpOp)(a b:Qp)(t:TE):Prop:=
 ∀(pins:List (Qh×Qo))(s:Qk)(σ:St)(H:Hp)(Q:VK),Inv X pins σ H s->t σ H Q->
  Ql (model X.prog X.w) X.A (eval a X.env) (fun v s₁=>Ql (model X.prog X.w) X.A (eval b X.env) (fun u s₂=>Ql (model X.prog X.w) X.A (Rc op v u) (EP X pins σ Q) X.xe s₂) X.xe s₁) X.xe s
def tB(t:TE):TT:=fun σ H Q=>t σ H fun x H1=>∃c,x=.bl c/\Q c H1
theorem Ek{op:CmpOp}{t:TE}(h:PC X op a b t)(h1:UM op b=false:=by first|exact nobehind _ (by decide) (by decide)|rfl):PT X (.Compare a [op] [b] pos) (tB t):=by
 intro pins s σ H Q I hw
 refine wpAny_isTrue_Compare1 (cX (h pins s σ H _ I hw) fun v s1 h1=>cX h1 fun u s2 h2=>cX h2 fun c s3 ⟨x,H1,I1,r1,q1⟩=>?_) h1
 obtain⟨d,rfl,q⟩:=q1
 cases r1
 exact TQ ⟨H1,I1,q⟩
theorem mi{e:Qp}{t:TE}(h:PE X e t)(he:∀whole,isTrue e X.env whole=(do let v <-whole;standAt e.pos;holding [v] (truthy v)):=by intro _;rfl):PT X e (tB t):=by
 intro pins s σ H Q I hw
 refine isTrue_plain (cX (h pins s σ H _ I hw) fun v s1 ⟨x,H1,I1,r1,q1⟩=>?_) (he _)
 obtain⟨d,rfl,q⟩:=q1
 cases r1
 exact TQ ⟨H1,I1,q⟩
variable {tA tB':TT}{rest:List Qp}
def Aw(t u:TT):TT:=fun σ H Q=>t σ H fun c H1=>if c=true then u σ H1 Q else Q false H1
def Mc(t u:TT):TT:=fun σ H Q=>t σ H fun c H1=>if c=true then Q true H1 else u σ H1 Q
def wa(t:TT):TT:=fun σ H Q=>t σ H fun c H1=>Q (!c) H1
theorem sy(ha:PT X a tA):PW X (.BoolOp .And [a] pos) tA:=by
 intro wh pins s σ H Q I h
 refine isTrue_and (cX (ha pins s σ H Q I h) fun c s1 e=>?_)
 cases c with
 |true=>exact isTrue_and_nil e
 |false=>exact e
theorem tJ(ha:PT X a tA):PW X (.BoolOp .Or [a] pos) tA:=by
 intro wh pins s σ H Q I h
 refine isTrue_or (cX (ha pins s σ H Q I h) fun c s1 e=>?_)
 cases c with
 |false=>exact isTrue_or_nil e
 |true=>exact e
theorem qk(ha:PT X a tA)(hb:PW X (.BoolOp .And (b::rest) pos) tB'):PW X (.BoolOp .And (a::b::rest) pos) (Aw tA tB'):=by
 intro wh pins s σ H Q I h
 refine isTrue_and (cX (ha pins s σ H _ I h) fun c s1 ⟨H1,I1,q1⟩=>?_)
 cases c with
 |true=>exact hb wh pins s1 σ H1 Q I1 q1
 |false=>exact⟨H1,I1,q1⟩
theorem zE(ha:PT X a tA)(hb:PW X (.BoolOp .Or (b::rest) pos) tB'):PW X (.BoolOp .Or (a::b::rest) pos) (Mc tA tB'):=by
 intro wh pins s σ H Q I h
 refine isTrue_or (cX (ha pins s σ H _ I h) fun c s1 ⟨H1,I1,q1⟩=>?_)
 cases c with
 |true=>exact⟨H1,I1,q1⟩
 |false=>exact hb wh pins s1 σ H1 Q I1 q1
theorem lI(ha:PT X a tA):PT X (.UnaryOp .Not a pos) (wa tA):=by
 intro pins s σ H Q I h
 exact isTrue_not (ha pins s σ H (fun c H1=>Q (!c) H1) I h)
def F6(ta tb:TE):TE:=fun σ H Q=>ta σ H fun x H1=>∃c,x=.bl c/\if c=true then tb σ H1 Q else Q (.bl false) H1
theorem IX{op}{t:TE}(h:PE X a t):PE X (.BoolOp op [a] pos) t:=fun pins s σ H Q I hw=>BoolOp_one (h pins s σ H Q I hw)
theorem JS(ha:PE X a ta)(hb:PE X (.BoolOp .And (b::rest) pos) tb):PE X (.BoolOp .And (a::b::rest) pos) (F6 ta tb):=by
 intro pins s σ H Q I h
 refine BoolOp_and (cX (ha pins s σ H _ I h) fun v s1 ⟨x,H1,I1,r1,q1⟩=>?_)
 obtain⟨c,rfl,q1⟩:=q1
 cases r1
 refine TQ ?_
 cases c with
 |true=>exact hb pins s1 σ H1 Q I1 q1
 |false=>exact⟨.bl false,H1,I1,rfl,q1⟩
def OO(t:TT)(ta tb:TE):TE:=fun σ H Q=>t σ H fun c H1=>if c=true then ta σ H1 Q else tb σ H1 Q
theorem x5{c:Qp}(hc:PT X c tA)(ha:PE X a ta)(hb:PE X b tb):PE X (.IfExp c a b pos) (OO tA ta tb):=by
 intro pins s σ H Q I h
 refine wpAny_IfExp (cX (hc pins s σ H _ I h) fun d s1 ⟨H1,I1,q1⟩=>?_)
 cases d with
 |true=>exact ha pins s1 σ H1 Q I1 q1
 |false=>exact hb pins s1 σ H1 Q I1 q1
end
def bo(K:Qj)(H:Hp)(a:Qh)(xs:List V):Prop:=
 Rd H a (.lst xs)\/
  ∃(o:Qo)(its:Array Qi)(n:Nat),K.lookup a=some o/\o.cls=.type "list"/\o.dict=none/\o.data=.seq its n/\its.size<=Qr/\cu xs its.toList
def iM(K:Qj)(H:Hp)(a:Qh)(xs:List V):Prop:=
 Rd H a (.tup xs)\/
  ∃(o:Qo)(its:Array Qi)(n:Nat),K.lookup a=some o/\o.cls=.type "tuple"/\o.data=.seq its n/\its.size<=Qr/\cu xs its.toList
def PR:Qi->Option V
 |.none=>some .non
 |.bool b=>some (.bl b)
 |.int i _=>some (.int i)
 |.str x _=>some (.str x)
 |.bytes b _=>some (.byt b)
 |.float b _=>some (.flt b)
 |.ref a=>some (.ref a)
 |.type n=>some (.ty n)
 |_=>none
theorem RelV.abs{x:V}{u:Qi}(r:RelV x u):PR u=some x:=by
 cases x with
 |non=>cases r;rfl
 |bl _=>cases r;rfl
 |int _=>obtain⟨t,rfl⟩:=r;rfl
 |str _=>obtain⟨t,rfl⟩:=r;rfl
 |byt _=>obtain⟨t,rfl⟩:=r;rfl
 |flt _=>obtain⟨t,rfl⟩:=r;rfl
 |ref _=>cases r;rfl
 |ty _=>cases r;rfl
theorem RelV.inj{x y:V}{u:Qi}(r:RelV x u)(q:RelV y u):x=y:=Rk (r.abs.symm.trans q.abs)
theorem cu.inj:∀{xs ys:List V}{us:List Qi},cu xs us->cu ys us->xs=ys
 |_,_,_,.nil,.nil=>rfl
 |_,_,_,.cons r t,.cons r' t'=>by rw[r.inj r',cu.inj t t']
section
variable {X:Cx}{pins:List (Qh×Qo)}{σ:St}{H:Hp}{s:Qk}{a:Qh}{xs ys:List V}
theorem bo.of{K:Qj}(h:H a=some (.lst xs)):bo K H a xs:=.inl (.inl h)
theorem iM.of{K:Qj}(h:H a=some (.tup xs)):iM K H a xs:=.inl (.inl h)
theorem Inv.list(I:Inv X pins σ H s)(h:bo X.K H a xs):∃its:List Qi,cu xs its/\PlainL s.heap a its.toArray/\xs.length<=Qr:=by
 rcases h with h|⟨o,its,n,hk,hc,hd,hs,hz,r⟩
 ·obtain⟨z,its,n,r,e⟩:=h.ok I.hok
  exact⟨its,r,⟨_,n,e,rfl,rfl,rfl⟩,z⟩
 ·exists its.toList,r,⟨o,n,I.kIn a o hk,hc,hd,by simpa using hs⟩
  have e:=r.length
  simp only[Vf]at e
  omega
theorem Inv.tuple(I:Inv X pins σ H s)(h:iM X.K H a xs):∃its:List Qi,cu xs its/\IsTup s.heap a its.toArray/\xs.length<=Qr:=by
 rcases h with h|⟨o,its,n,hk,hc,hs,hz,r⟩
 ·obtain⟨z,its,r,p⟩:=h.ok I.hok
  exact⟨its,r,p,z⟩
 ·exists its.toList,r,⟨o,I.kIn a o hk,hc,n,by simpa using hs⟩
  have e:=r.length
  simp only[Vf]at e
  omega
theorem Inv.list_inj(I:Inv X pins σ H s)(h:bo X.K H a xs)(h':bo X.K H a ys):xs=ys:=by
 obtain⟨its,r,⟨o,n,e,_,_,d⟩,_⟩:=I.list h
 obtain⟨its',r',⟨o',n',e',_,_,d'⟩,_⟩:=I.list h'
 rw[e]at e';cases e'
 rw[d]at d'
 injection d' with d1 _
 have:its=its':=by simpa using congrArg XS d1
 subst this
 exact r.inj r'
end
abbrev Cx.wish(X:Cx)(E:Qi->Qk->Prop):Cx:={X with xe:=E}
abbrev Cx.nox(X:Cx):Cx:=X.wish fun _ _=>False
theorem Cx.Ok.wish{X:Cx}(ok:X.Ok)(E:Qi->Qk->Prop):(X.wish E).Ok:=
 ⟨ok.mod,ok.kind,ok.glob,ok.blt,ok.above,ok.inj,ok.has,ok.cab,ok.hd,ok.frames,ok.stk,ok.exf,ok.bs,ok.bsz,ok.noex,ok.exfs,ok.funs,ok.frf⟩
theorem Cx.Ok.unwish{X:Cx}{E:Qi->Qk->Prop}(ok:(X.wish E).Ok):X.Ok:=
 ⟨ok.mod,ok.kind,ok.glob,ok.blt,ok.above,ok.inj,ok.has,ok.cab,ok.hd,ok.frames,ok.stk,ok.exf,ok.bs,ok.bsz,ok.noex,ok.exfs,ok.funs,ok.frf⟩
section
variable {X:Cx}{pins:List (Qh×Qo)}{σ:St}{H:Hp}{s:Qk}{E:Qi->Qk->Prop}
theorem Inv.wish(I:Inv X pins σ H s)(E:Qi->Qk->Prop):Inv (X.wish E) pins σ H s:=⟨I.ok.wish E,I.os,I.bare,I.base,I.loc,I.cell,I.free,I.freeC,I.pin,I.hok,I.len⟩
theorem Inv.unwish(I:Inv (X.wish E) pins σ H s):Inv X pins σ H s:=⟨I.ok.unwish,I.os,I.bare,I.base,I.loc,I.cell,I.free,I.freeC,I.pin,I.hok,I.len⟩
theorem SP.unwish{D:Ends}{f:Flow}{s':Qk}(h:SP (X.wish E) pins D f s'):SP X pins D f s':=by
 cases f with
 |next=>obtain⟨σ',H',I,q⟩:=h;exact⟨σ',H',I.unwish,q⟩
 |brk=>obtain⟨σ',H',I,q⟩:=h;exact⟨σ',H',I.unwish,q⟩
 |cont=>obtain⟨σ',H',I,q⟩:=h;exact⟨σ',H',I.unwish,q⟩
 |ret u=>obtain⟨v,σ',H',I,r,q⟩:=h;exact⟨v,σ',H',I.unwish,r,q⟩
theorem xc.nox{st:List Qs}{t:TS}(h:xc X.nox st t):xc X st t:=fun pins s σ H D I hw=>
 Rl (h pins s σ H D (I.wish _) hw) (fun _ _ q=>q.unwish) fun _ _ z=>RG z
end
section
variable {X:Cx}{st:Qs}{rest:List Qs}{t u:TS}{e:Qp}{te:TE}{pos:QH}
def bB:TS:=fun D σ H=>D.nx σ H
def aH(t u:TS):TS:=fun D σ H=>t {D with nx:=u D} σ H
theorem aK:xc X [] bB:=fun _ _ σ H _ I h=>SS ⟨σ,H,I,h⟩
theorem ah(h1:PS X st t)(h2:xc X rest u):xc X (st::rest) (aH t u):=by
 intro pins s σ H D I h
 refine wpAny_execs_cons (cX (h1 pins s σ H {D with nx:=u D} I h) fun f s1 q=>?_)
 cases f with
 |next=>
  obtain⟨σ',H',I',q⟩:=q
  exact h2 pins s1 σ' H' D I' q
 |ret v=>exact q
 |brk=>exact q
 |cont=>exact q
theorem aj(h1:PS X st t):xc X [st] t:=by
 intro pins s σ H D I h
 refine wpAny_execs_cons (cX (h1 pins s σ H D I h) fun f s1 q=>?_)
 cases f with
 |next=>exact SS q
 |ret v=>exact q
 |brk=>exact q
 |cont=>exact q
theorem Inv.quiet{pins:List (Qh×Qo)}{σ:St}{H:Hp}{s:Qk}(I:Inv X pins σ H s):interactive X.env=false:=by simp[interactive,I.ok.kind]
def cZ(te:TE):TS:=fun D σ H=>te σ H fun _ H1=>D.nx σ H1
theorem bV(he:PE X e te)(hs:swapsWith e none pos.line X.env=pure false:=by rfl):PS X (.Expr e pos) (cZ te):=by
 intro pins s σ H D I h
 exact wpAny_Expr_any (cX (he pins s σ H _ I h) fun v s1 ⟨x,H1,I1,r1,q1⟩=>⟨σ,H1,I1,q1⟩) I.quiet hs
def bp(te:TE):TS:=fun D σ H=>te σ H D.rt
theorem az(he:PE X e te):PS X (.Return (some e) pos) (bp te):=by
 intro pins s σ H D I h
 exact wpAny_Return_some (cX (he pins s σ H _ I h) fun v s1 ⟨x,H1,I1,r1,q1⟩=>⟨x,σ,H1,I1,r1,q1⟩)
def bO(c:TT)(t u:TS):TS:=fun D σ H=>c σ H fun b H1=>if b=true then t D σ H1 else u D σ H1
theorem bz{c:Qp}{a b:List Qs}{tc:TT}(hc:PT X c tc)(ha:xc X a t)(hb:xc X b u):PS X (.If c a b pos) (bO tc t u):=by
 intro pins s σ H D I h
 refine wpAny_If (cX (hc pins s σ H _ I h) fun d s1 ⟨H1,I1,q1⟩=>?_)
 cases d with
 |true=>exact ha pins s1 σ H1 D I1 q1
 |false=>exact hb pins s1 σ H1 D I1 q1
end
abbrev TG:=V->St->Hp->(St->Hp->Prop)->Prop
abbrev Mh:=List V->St->Hp->(St->Hp->Prop)->Prop
noncomputable def PG(X:Cx)(target:Qp)(t:TG):Prop:=
 ∀(pins:List (Qh×Qo))(s:Qk)(σ:St)(H:Hp)(v:V)(u:Qi)(Q:St->Hp->Prop),Inv X pins σ H s->RelV v u->t v σ H Q->
  Ql (model X.prog X.w) X.A (assign target X.env u) (fun _ s'=>∃σ' H',Inv X pins σ' H' s'/\Q σ' H') X.xe s
noncomputable def Pp(X:Cx)(ts:List Qp)(t:Mh):Prop:=
 ∀(pins:List (Qh×Qo))(s:Qk)(σ:St)(H:Hp)(vs:List V)(us:List Qi)(Q:St->Hp->Prop),Inv X pins σ H s->cu vs us->t vs σ H Q->
  Ql (model X.prog X.w) X.A (assignInOrder ((TH ts X.env).map (·.2)) us) (fun _ s'=>∃σ' H',Inv X pins σ' H' s'/\Q σ' H') X.xe s
abbrev PH:=V->V->Hp->VK->Prop
noncomputable def Qa(X:Cx)(op:Operator)(t:PH):Prop:=
 ∀(pins:List (Qh×Qo))(s:Qk)(σ:St)(H:Hp)(x y:V)(v u:Qi)(Q:VK),Inv X pins σ H s->RelV x v->RelV y u->t x y H Q->
  Ql (model X.prog X.w) X.A (Sx op v u) (EP X pins σ Q) X.xe s
section
variable {X:Cx}{pos:QH}
def av(i:Nat):TG:=fun v σ H Q=>Q (σ.set i (some v)) H
theorem aD{i:Nat}{x:Qg}(hN:X.N.Nodup)(hi:X.N[i]?=some x)(hx:Loc X.env.scope x)(hf:X.fn x=true\/X.env.scope.names.lookup x=some .local:=by first|exact .inl rfl|exact .inr rfl|assumption):PG X (.Name x pos) (av i):=by
 intro pins s σ H v u Q I r h
 exact wpAny_assign_Name (kG I hN hi hx r (fun s' I'=>⟨_,H,I',h⟩) hf)
def eB:Mh:=fun vs σ H Q=>vs=[]/\Q σ H
def bj(t:TG)(u:Mh):Mh:=fun vs σ H Q=>∃v r,vs=v::r/\t v σ H fun σ' H'=>u r σ' H' Q
theorem cp:Pp X [] eB:=by
 intro pins s σ H vs us Q I r h
 obtain⟨e,h⟩:=h
 subst e
 cases r
 exact assignInOrder_nil ⟨σ,H,I,h⟩
theorem aG{e:Qp}{es:List Qp}{t:TG}{u:Mh}(h1:PG X e t)(h2:Pp X es u)
  (hs:(TH (e::es) X.env).map (·.2)=assign e X.env::(TH es X.env).map (·.2):=by rfl):Pp X (e::es) (bj t u):=by
 intro pins s σ H vs us Q I r h
 obtain⟨v,vr,e1,h⟩:=h
 subst e1
 cases r with
 |cons r rr=>
  rw[hs]
  refine assignInOrder_cons (cX (h1 pins s σ H _ _ _ I r h) fun _ s1 ⟨σ1,H1,I1,q1⟩=>?_)
  exact h2 pins s1 σ1 H1 _ _ Q I1 rr q1
def d0(K:Qj)(n:Nat)(t:Mh):TG:=fun v σ H Q=>∃a xs,v=.ref a/\iM K H a xs/\xs.length=n/\t xs σ H Q
theorem cW{es:List Qp}{k:Nat}{t:Mh}{n:Nat}(hc:X.calm=true)(h:Pp X es t)
  (hn:(TH es X.env).length=n:=by rfl) (hst:(TH es X.env).findIdx? (·.1)=none:=by rfl):PG X (.Tuple es k pos) (d0 X.K n t):=by
 intro pins s σ H v u Q I r hw
 obtain⟨a,xs,e1,hq,hl,hw⟩:=hw
 subst e1
 cases r
 obtain⟨its,rv,ht,hz⟩:=I.tuple hq
 refine assign_Tuple_tuple (I.ok.hd hc) ht (by simp[hn,<-hl,rv.length]) hst fun h' hx=>?_
 have I1:Inv X pins σ H {s with heap:=h'}:=I.kept (t':=s.toks) fun b o e=>hx b o (QV (QJ e)) e
 exact h pins _ σ H xs _ Q I1 (by simpa using rv) hw
def bM(te:TE)(g:TG):TS:=fun D σ H=>te σ H fun x H1=>g x σ H1 D.nx
theorem Kt{tg e:Qp}{te:TE}{g:TG}(he:PE X e te)(hg:PG X tg g)(hs:swapsWithSole [tg] e pos.line X.env=pure false:=by rfl)(hw:swappedStores [tg] e X.env=pure none:=by rfl)
  (h1:(TH [tg] X.env).map (·.2)=[assign tg X.env]:=by rfl):PS X (.Assign [tg] e pos) (bM te g):=by
 intro pins s σ H D I h
 refine wpAny_Assign_stores (cX (he pins s σ H _ I h) fun v s1 ⟨x,H1,I1,r1,q1⟩=>?_) hs hw
 rw[h1]
 exact cX (hg pins s1 σ H1 x v _ I1 r1 q1) fun _ s2 q=>q
theorem aS{i:Nat}{x:Qg}{e:Qp}{te:TE}{pos':QH}(hN:X.N.Nodup)(hi:X.N[i]?=some x)(hx:Loc X.env.scope x)(he:PE X e te)(hs:swapsWith e (some (.Name x pos')) pos.line X.env=pure false:=by rfl)(hf:X.fn x=true\/X.env.scope.names.lookup x=some .local:=by first|exact .inl rfl|exact .inr rfl|assumption):
  PS X (.Assign [.Name x pos'] e pos) (bM te (av i)):=by
 intro pins s σ H D I h
 refine wpAny_Assign_Name (cX (he pins s σ H _ I h) fun v s1 ⟨y,H1,I1,r1,q1⟩=>?_) hs
 exact kG I1 hN hi hx r1 (fun s2 I2=>⟨_,H1,I2,q1⟩) hf
def Er(i:Nat)(te:TE)(ti:PH):TS:=fun D σ H=>∃x,σ[i]?=some (some x)/\te σ H fun y H1=>ti x y H1 fun z H2=>D.nx (σ.set i (some z)) H2
theorem Bj{i:Nat}{x:Qg}{e:Qp}{te:TE}{op:Operator}{ti:PH}{pos':QH}(hN:X.N.Nodup)(hi:X.N[i]?=some x)(hx:Loc X.env.scope x)(he:PE X e te)(ho:Qa X op ti)(hf:X.fn x=true\/X.env.scope.names.lookup x=some .local:=by first|exact .inl rfl|exact .inr rfl|assumption):
  PS X (.AugAssign (.Name x pos') op e pos) (Er i te ti):=by
 intro pins s σ H D I h
 obtain⟨v,e1,h⟩:=h
 obtain⟨m,hn,hl⟩:=I.loc
 have vis:M5 X.env.scope x:=by rcases hx with k|k;exact .inl k;exact .inr (.inl k)
 obtain⟨u,r,l⟩:=hl i x v hi e1 vis
 refine wpAny_AugAssign_Name ?_
 have go:Ql (model X.prog X.w) X.A (eval e X.env) (fun w s₂=>Ql (model X.prog X.w) X.A (Sx op u w) (fun r s₃=>Ql (model X.prog X.w) X.A (storeName X.env x r) (fun _=>SP X pins D .next) X.xe s₃) X.xe s₂) X.xe s:=by
  refine cX (he pins s σ H _ I h) fun w s1 ⟨y,H1,I1,r1,q1⟩=>?_
  refine cX (ho pins s1 σ H1 v y u w _ I1 r r1 q1) fun z s2 ⟨zv,H2,I2,r2,q2⟩=>?_
  exact kG I2 hN hi hx r2 (fun s3 I3=>⟨_,H2,I3,q2⟩) hf
 rcases l with⟨hk,hm⟩|⟨hk,c,hc,hcell⟩
 ·exact wpAny_loadName_local I.ok.kind hk hn hm go
 ·rcases hk with hk|hk
  ·exact wpAny_loadName_cell I.ok.kind hk hc hcell go
  ·rcases hx with k|k
   ·have:X.env.scope.names.lookup x=some .free:=hk
    rw[k]at this;cases this
   ·have:X.env.scope.names.lookup x=some .free:=hk
    rw[k]at this;cases this
end
section
variable {X:Cx}{pos:QH}
noncomputable def Fo(c:TT)(tb:TS):TS:=fun D σ H=>∃W:Nat->St->Hp->Prop,(∃m,W m σ H)/\∀m σ H,W m σ H->
 c σ H fun b H1=>if b=true then ∃N:St->Hp->Prop,(∀σ' H',N σ' H'->∃m',m'<m/\W m' σ' H')/\tb {D with nx:=N,ct:=N,bk:=D.nx} σ H1 else D.nx σ H1
theorem Dw{c:Qp}{body:List Qs}{tc:TT}{tb:TS}(hp:PassesOwn (model X.prog X.w) X.A X.env X.xe)(hc:PT X c tc)(hb:xc X body tb):PS X (.While c body [] pos) (Fo tc tb):=by
 intro pins s σ H D I h
 obtain⟨W,⟨m0,w0⟩,turn⟩:=h
 refine wpAny_While (codeAny_whileLoop (fun n s'=>∃σ' H',Inv X pins σ' H' s'/\W n σ' H') ?_ m0 ⟨σ,H,I,w0⟩)
 rintro n s1 ⟨σ1,H1,I1,w1⟩
 refine Tz hp (cX (hc pins s1 σ1 H1 _ I1 (turn n σ1 H1 w1)) fun b s2 ⟨H2,I2,q2⟩=>?_)
 cases b with
 |true=>
  obtain⟨N,hN,q2⟩:=q2
  rw[if_pos rfl]
  refine Tz hp (cX (hb pins s2 σ1 H2 _ I2 q2) fun f s3 q3=>?_)
  cases f with
  |next=>
   obtain⟨σ3,H3,I3,n3⟩:=q3
   obtain⟨m',hm,w3⟩:=hN σ3 H3 n3
   exact⟨m',hm,σ3,H3,I3,w3⟩
  |cont=>
   obtain⟨σ3,H3,I3,n3⟩:=q3
   obtain⟨m',hm,w3⟩:=hN σ3 H3 n3
   exact⟨m',hm,σ3,H3,I3,w3⟩
  |brk=>exact q3
  |ret v=>exact q3
 |false=>
  rw[if_neg Rf]
  exact SS ⟨σ1,H2,I2,q2⟩
end
structure It where
 go:Nat->Hp->Prop
 yld:Nat->Hp->V->Hp->Prop
 stop:Nat->Hp->Prop
def rj(X:Cx)(pins:List (Qh×Qo))(H:Hp)(b:Qh):Prop:=
 H b=none/\b≠X.env.locals/\b∉X.fs/\(b∈X.ex\/X.s₀.heap.objs.size<=b)/\(∀x c,X.env.cells.lookup x=some c->c≠b)/\∀p∈X.pn++pins,p.1≠b
theorem Inv.fpOk{X:Cx}{pins:List (Qh×Qo)}{σ:St}{H H':Hp}{s:Qk}{b:Qh}(I:Inv X pins σ H s)(hb:s.heap.objs.size<=b)(hn:H' b=none):rj X pins H' b:=by
 refine⟨hn,RK (Q4 I.lt hb),I.nofs hb,.inr (Qt I.sz hb),fun x c e z=>?_,fun p hp z=>?_⟩
 ·obtain⟨v,q⟩:=I.cell x c e
  exact absurd (Q4 q.lt (by rw[z];exact hb)) (RQ _)
 ·exact absurd (Q4 (QJ (I.pin p hp).1) (by rw[z];exact hb)) (RQ _)
structure Turn(P:Qy)(w:Qv)(K:Qj)(tg:Qp)(J:It)(fp:List Qh)(it:Qh)(tn:Nat->Qq->Prop):Prop where
 mem:it∈fp
 obj:∀i h,tn i h->∀b∈fp,∃o,h.get? b=some o/\∀v,o.data≠.cell v
 keep:∀i h h',tn i h->(∀b∈fp,∀o,h.get? b=some o->h'.get? b=some o)->tn i h'
 item:∀(X:Cx),X.prog=P->X.w=w->X.K=K->X.calm=true->∀(i:Nat)(pins:List (Qh×Qo))(s:Qk)(σ:St)(H:Hp)(E:Qi->Qk->Prop),Inv X pins σ H s->(∀b∈fp,rj X pins H b)->tn i s.heap->J.go i H->
  Ql (model P w) X.A (RB (.ref it)) (fun r s1=>∃u,r=some u/\
   Ql (model P w) X.A (letOwnedTupleGo tg (.ref it) u) (fun _ s2=>∃x H',Inv X pins σ H' s2/\RelV x u/\J.yld i H x H'/\tn (i+1) s2.heap/\∀b∈fp,H' b=none) E s1) E s
 done:∀(X:Cx),X.prog=P->X.w=w->X.K=K->X.calm=true->∀(i:Nat)(pins:List (Qh×Qo))(s:Qk)(σ:St)(H:Hp)(E:Qi->Qk->Prop),Inv X pins σ H s->(∀b∈fp,rj X pins H b)->tn i s.heap->J.stop i H->
  Ql (model P w) X.A (RB (.ref it)) (fun r s1=>r=none/\Inv X pins σ H s1) E s
 self:∀(A:QF)(i:Nat)(s:Qk)(Q:Qi->Qk->Prop)(E:Qi->Qk->Prop),tn i s.heap->Q (.ref it) s->Ql (model P w) A (pyIter (.ref it)) Q E s
abbrev TI:=St->Hp->(It->Hp->Prop)->Prop
noncomputable def P9(X:Cx)(pins:List (Qh×Qo))(σ:St)(tg:Qp)(R:It->Hp->Prop)(itv:Qi)(s2:Qk):Prop:=
 ∃(it:Qh)(fp:List Qh)(tn:Nat->Qq->Prop)(J:It)(H':Hp),itv=.ref it/\Inv X pins σ H' s2/\Turn X.prog X.w X.K tg J fp it tn/\tn 0 s2.heap/\(∀b∈fp,rj X pins H' b)/\R J H'
noncomputable def PI(X:Cx)(tg iter:Qp)(wi:TI):Prop:=
 ∀(pins:List (Qh×Qo))(s:Qk)(σ:St)(H:Hp)(R:It->Hp->Prop),Inv X pins σ H s->wi σ H R->
  Ql (model X.prog X.w) X.A (eval iter X.env) (fun v s1=>Ql (model X.prog X.w) X.A (pyIter v) (P9 X pins σ tg R) X.xe s1) X.xe s
theorem Dc{M:Model}{A:QF}{E:Qi->Qk->Prop}{s:Qk}{tg:Qp}{it:Qh}{u:Qi}{o:Qo}{n:String}{vs:Array Qi}{Q:Unit->Qk->Prop}(ho:s.heap.get? it=some o)(hc:o.cls=.type n)(hd:o.data=.fields vs)
  (hn:["enumerate","zip","dict_itemiterator","dict_reverseitemiterator","odict_iterator","itertools.zip_longest","itertools.pairwise"].contains n=false) (hQ:Q () s):Ql M A (letOwnedTupleGo tg (.ref it) u) Q E s:=by
 unfold letOwnedTupleGo
 cases tg<;>first
  |exact QG hQ
  |(cases u<;>first
    |exact QG hQ
    | (refine Qm (wpAny_load ho ?_)
       rw[hc,hd]
       show Ql M A (if(["enumerate","zip","dict_itemiterator","dict_reverseitemiterator","odict_iterator","itertools.zip_longest","itertools.pairwise"].contains n&&vs[0]?==some (Rg _))=true then _ else _) Q E s
       rw[if_neg (by intro h;rw[hn,TB]at h;cases h)]
       exact QG hQ))
def Il(K:Qj)(a:Qh):It:=
 ⟨fun i H=>∃xs x,bo K H a xs/\xs[i]?=some x,fun i H x H'=>H'=H/\∀xs,bo K H a xs->xs[i]?=some x,fun i H=>∃xs,bo K H a xs/\xs.length<=i⟩
def Kg(lo:Int)(n:Nat):It:=⟨fun i _=>i<n,fun i H x H'=>H'=H/\x=.int (lo+i),fun i _=>n<=i⟩
theorem GZ{P:Qy}{w:Qv}{K:Qj}{tg:Qp}(a it:Qh):Turn P w K tg (Il K a) [it] it (fun i h=>h.IsListIter it a i) where
 mem:=⋯
 obj:=fun i h st b hb=>by
  have e:b=it:=by simpa using hb
  subst e
  obtain⟨o,e,c,d⟩:=st
  exact⟨o,e,fun v z=>by rw[d]at z;cases z⟩
 keep:=fun i h h' st k=>st.at fun o e=>k it ⋯ o e
 item:=by
  intro X hP hw hK hc i pins s σ H E I hf st hg
  subst hP hw hK
  obtain⟨xs,x,hq,hx⟩:=hg
  obtain⟨its,rv,p,hz⟩:=I.list hq
  obtain⟨u,hu,ru⟩:=rv.get hx
  obtain⟨f0,f1,f2,f3,f4,f5⟩:=hf it ⋯
  refine wpAny_pyNext_list_item st p.isList (x:=u) (by simpa using hu) fun h' st' sb=>?_
  have I1:Inv X pins σ H {s with heap:=h'}:=I.turned (t':=s.toks) (fun b o hb e=>(sb.2 b hb).trans e) f0 f1 f3 f4 f5
  obtain⟨o,e,c,d⟩:=id st'
  exact⟨u,rfl,Dc (s:={s with heap:=h'}) e c d (by decide) ⟨x,H,I1,ru,⟨rfl,fun ys hy=>by rw[I.list_inj hy hq];exact hx⟩,st',fun b hb=>(hf b hb).1⟩⟩
 done:=by
  intro X hP hw hK hc i pins s σ H E I hf st hg
  subst hP hw hK
  obtain⟨xs,hq,hx⟩:=hg
  obtain⟨its,rv,p,hz⟩:=I.list hq
  obtain⟨f0,f1,f2,f3,f4,f5⟩:=hf it ⋯
  have hl:=rv.length
  exact wpAny_pyNext_list_end (I.ok.hd hc) st p.isList (by simp;omega) fun h' eb=>⟨rfl,I.turned (t':=s.toks) (fun b o hb e=>eb b o hb e) f0 f1 f3 f4 f5⟩
 self:=fun _ _ _ _ _ st h=>wpAny_pyIter_listiter st h
theorem Ed{P:Qy}{w:Qv}{K:Qj}{tg:Qp}(it:Qh)(lo:Int)(n:Nat):Turn P w K tg (Kg lo n) [it] it (fun i h=>IsRangeIter h it (lo+(i:Nat)*1) ((n:Int)-(i:Nat)) 1) where
 mem:=⋯
 obj:=fun i h st b hb=>by
  have e:b=it:=by simpa using hb
  subst e
  exact⟨_,st,fun v z=>by
   have z':Uv _=Tr v:=z
   cases z'⟩
 keep:=fun i h h' st k=>k it ⋯ _ st
 item:=by
  intro X hP hw hK hc i pins s σ H E I hf st hg
  subst hP hw hK
  obtain⟨f0,f1,f2,f3,f4,f5⟩:=hf it ⋯
  have W:=Walks.range (prog:=X.prog) (w:=X.w) (I.ok.hd hc) it lo 1 n
  refine W.item i s _ _ hg st fun v h' tk hv st' kk=>?_
  obtain⟨t,rfl⟩:=hv
  have I1:Inv X pins σ H {s with heap:=h',toks:=tk}:=I.turned (fun b o hb e=>kk b o (by simpa using hb) e) f0 f1 f3 f4 f5
  refine⟨_,rfl,Dc (s:={s with heap:=h',toks:=tk}) (n:="range_iterator") st' rfl rfl (by decide) ⟨.int (lo+i),H,I1,⟨t,?_⟩,⟨rfl,rfl⟩,st',fun b hb=>(hf b hb).1⟩⟩
  rw[VM]
 done:=by
  intro X hP hw hK hc i pins s σ H E I hf st hg
  subst hP hw hK
  obtain⟨f0,f1,f2,f3,f4,f5⟩:=hf it ⋯
  exact wpAny_pyNext_range_end (I.ok.hd hc) st (by have:n<=i:=hg;omega) fun h' eb=>⟨rfl,I.turned (t':=s.toks) (fun b o hb e=>eb b o hb e) f0 f1 f3 f4 f5⟩
 self:=fun _ _ _ _ _ st h=>wpAny_pyIter_rangeiter st h
section
variable {X:Cx}{tg:Qp}
def dm(K:Qj)(tl:TE):TI:=fun σ H R=>tl σ H fun x H1=>∃a,x=.ref a/\(∃xs,bo K H1 a xs)/\R (Il K a) H1
theorem b9{l:Qp}{tl:TE}(hl:PE X l tl):PI X tg l (dm X.K tl):=by
 intro pins s σ H R I h
 refine cX (hl pins s σ H _ I h) fun v s1 ⟨x,H1,I1,r1,q1⟩=>?_
 obtain⟨a,e,⟨xs,hq⟩,q⟩:=q1
 subst e
 cases r1
 obtain⟨its,rv,p,hz⟩:=I1.list hq
 refine Vt p.isList ?_
 refine⟨s1.heap.objs.size,[s1.heap.objs.size],_,_,H1,rfl,I1.kept (t':=s1.toks) fun b o e=>QS _ e,GZ a _,⟨_,QX _ rfl,rfl,rfl⟩,fun b hb=>?_,q⟩
 have e:b=s1.heap.objs.size:=by simpa using hb
 subst e
 exact I1.fpOk (QC _) (I1.hok.fresh (QC _))
theorem C0{pins:List (Qh×Qo)}{σ:St}{H:Hp}{s:Qk}{R:It->Hp->Prop}{E:Qi->Qk->Prop}{lo hi:Int}{t u v:Tok}{tk:Nat}(I:Inv X pins σ H s)(h1:-(2 ^ 62)<=lo)(h2:lo<2 ^ 62)(h3:-(2 ^ 62)<=hi)(h4:hi<2 ^ 62)
  (q:R (Kg lo (hi-lo).toNat) H):Ql (model X.prog X.w) X.A (pyIter (.ref s.heap.objs.size)) (P9 X pins σ tg R) E {s with heap:=s.heap.push {cls:=.type "range",data:=.fields #[.int lo t,.int hi u,.int 1 v]},toks:=tk}:=by
 refine wpAny_pyIter_range (aax ..) (small_one h1 h2 h3 h4) ?_
 have I1:Inv X pins σ H {s with heap:=s.heap.push {cls:=.type "range",data:=.fields #[.int lo t,.int hi u,.int 1 v]},toks:=tk}:=I.kept fun b o e=>QS _ e
 refine⟨(s.heap.push {cls:=.type "range",data:=.fields #[.int lo t,.int hi u,.int 1 v]}).objs.size,[(s.heap.push {cls:=.type "range",data:=.fields #[.int lo t,.int hi u,.int 1 v]}).objs.size],_,_,H,rfl,
  I1.kept (t':=tk) fun b o e=>QS _ e,Ed _ lo (hi-lo).toNat,?_,fun b hb=>?_,q⟩
 ·have e1:lo+((0:Nat):Int)*1=lo:=⋯
  have e2:(((hi-lo).toNat:Nat):Int)-((0:Nat):Int)=ZY lo hi 1:=by rw[rangeSize_one];split<;>omega
  show IsRangeIter _ _ (lo+((0:Nat):Int)*1) ((((hi-lo).toNat:Nat):Int)-((0:Nat):Int)) 1
  rw[e1,e2]
  exact QX _ rfl
 ·have e:b=(s.heap.push {cls:=.type "range",data:=.fields #[.int lo t,.int hi u,.int 1 v]}).objs.size:=by simpa using hb
  subst e
  exact I1.fpOk (QC _) (I1.hok.fresh (QC _))
def uf(ta:TA):TI:=fun σ H R=>ta σ H fun vs H1=>∃j:Int,vs=[.int j]/\-(2 ^ 62)<=j/\j<2 ^ 62/\R (Kg 0 j.toNat) H1
def JK(ta:TA):TI:=fun σ H R=>ta σ H fun vs H1=>∃i j:Int,vs=[.int i,.int j]/\(-(2 ^ 62)<=i/\i<2 ^ 62/\-(2 ^ 62)<=j/\j<2 ^ 62)/\R (Kg i (j-i).toNat) H1
theorem i3{a:Qp}{ta:TA}{p pos:QH}(hg:Gl X "range")(hm:X.mg "range"=none)(ha:PA X [a] ta)(hs:Qx [a] X.env=[(false,eval a X.env)]:=by rfl):PI X tg (.Call (.Name "range" p) [a] [] pos) (uf ta):=by
 intro pins s σ H R I h
 refine Call_ (kh I hg hm boot_range (Td (cX (ha pos pins s σ H _ I h) fun us s1 ⟨vs,H1,I1,r1,q1⟩=>?_) hs rfl))
 obtain⟨j,e,q1,q2,q⟩:=q1
 subst e
 cases r1 with
 |cons r rr=>
  cases rr
  obtain⟨t,rfl⟩:=r
  exact call_range_1 (C0 I1 (by omega) (by omega) q1 q2 (by simpa using q))
theorem Hg{a b:Qp}{ta:TA}{p pos:QH}(hg:Gl X "range")(hm:X.mg "range"=none)(ha:PA X [a,b] ta)(hs:Qx [a,b] X.env=[(false,eval a X.env),(false,eval b X.env)]:=by rfl)(hs2:Qx [b] X.env=[(false,eval b X.env)]:=by rfl):
  PI X tg (.Call (.Name "range" p) [a,b] [] pos) (JK ta):=by
 intro pins s σ H R I h
 refine Call_ (kh I hg hm boot_range (Td (cX (ha pos pins s σ H _ I h) fun us s1 ⟨vs,H1,I1,r1,q1⟩=>?_) (by rw[hs,hs2]) (by rw[hs2];rfl)))
 obtain⟨i,j,e,⟨q1,q2,q3,q4⟩,q⟩:=q1
 subst e
 cases r1 with
 |cons r rr=>
  cases rr with
  |cons r' rr=>
   cases rr
   obtain⟨t,rfl⟩:=r
   obtain⟨t',rfl⟩:=r'
   exact call_range_2 (C0 I1 q1 q2 q3 q4 q)
noncomputable def nA(wi:TI)(g:TG)(tb:TS):TS:=fun D σ H=>wi σ H fun J H1=>∃W:Nat->Nat->St->Hp->Prop,(∃m,W 0 m σ H1)/\∀i m σ H,W i m σ H->
 (J.stop i H/\D.nx σ H)\/(J.go i H/\∃N:St->Hp->Prop,(∀σ' H',N σ' H'->∃m',m'<m/\W (i+1) m' σ' H')/\∀x H',J.yld i H x H'->g x σ H' fun σ2 H2=>tb {D with nx:=N,ct:=N,bk:=D.nx} σ2 H2)
def vR(fp:List Qh)(h:Qq):List (Qh×Qo):=fp.filterMap fun b=>(h.get? b).map fun o=>(b,o)
theorem mC{fp:List Qh}{h:Qq}{b:Qh}{o:Qo}(hb:b∈fp)(e:h.get? b=some o):(b,o)∈vR fp h:=Yy.mpr ⟨b,hb,by rw[e];rfl⟩
theorem Hy{fp:List Qh}{h:Qq}{p:Qh×Qo}(hp:p∈vR fp h):p.1∈fp/\h.get? p.1=some p.2:=by
 obtain⟨b,hb,e⟩:=Yy.mp hp
 cases q:h.get? b with
 |none=>rw[q]at e;cases e
 |some o=>
  rw[q]at e
  have e':(b,o)=p:=Rk e
  subst e'
  exact⟨hb,q⟩
theorem Inv.pinned{pins:List (Qh×Qo)}{σ:St}{H:Hp}{s:Qk}{fp:List Qh}(I:Inv X pins σ H s)(hf:∀b∈fp,rj X pins H b)(ho:∀b∈fp,∃o,s.heap.get? b=some o/\∀v,o.data≠.cell v):Inv X (pins++vR fp s.heap) σ H s:=
 I.pins_of fun p hp=>(Q7.mp hp).elim (fun z=>I.pin p (RH _ z)) fun z=>by
  obtain⟨hb,e⟩:=Hy z
  obtain⟨f0,f1,f2,_⟩:=hf p.1 hb
  obtain⟨o,e',d⟩:=ho p.1 hb
  rw[e]at e';cases e'
  exact⟨e,f0,f1,f2,d⟩
theorem Inv.unpinned{pins pl:List (Qh×Qo)}{σ:St}{H:Hp}{s:Qk}(I:Inv X (pins++pl) σ H s):Inv X pins σ H s:=I.pins_of fun p hp=>I.pin p (RH _ (TC _ hp))
theorem eT{iter:Qp}{body:List Qs}{wi:TI}{g:TG}{tb:TS}{pos:QH}(hp:PassesOwn (model X.prog X.w) X.A X.env X.xe)(hc:X.calm=true)(hi:PI X tg iter wi)(hg:PG X tg g)(hb:xc X body tb)
  (hs:∀x,foldedSetIterable iter X.env x=pure x:=by intro _;rfl):PS X (.For tg iter body [] pos) (nA wi g tb):=by
 intro pins s σ H D I h
 refine wpAny_For (cX (hi pins s σ H _ I h) fun v s1 h1=>cX h1 fun itv s2 h2=>?_) hs
 obtain⟨it,fp,tn,J,H2,e,I2,T,st2,f2,W,⟨m0,w0⟩,turn⟩:=h2
 subst e
 have stat:∀{H':Hp},(∀b∈fp,H' b=none)->∀b∈fp,rj X pins H' b:=fun hn b hb=>⟨hn b hb,(f2 b hb).2⟩
 refine codeAny_forLoop_any (fun n s'=>∃i σ' H',Inv X pins σ' H' s'/\tn i s'.heap/\(∀b∈fp,H' b=none)/\W i n σ' H') ?_ m0 ⟨0,σ,H2,I2,st2,fun b hb=>(f2 b hb).1,w0⟩
 rintro n s3 ⟨i,σ3,H3,I3,st3,fr3,w3⟩
 rcases turn i n σ3 H3 w3 with⟨stop,qn⟩|⟨go,N,hN,step⟩
 ·refine Tz hp (cX (T.done X rfl rfl rfl hc i pins s3 σ3 H3 X.xe I3 (stat fr3) st3 stop) fun r s4 ⟨hr,I4⟩=>?_)
  subst hr
  exact SS ⟨σ3,H3,I4,qn⟩
 ·refine Tz hp (cX (T.item X rfl rfl rfl hc i pins s3 σ3 H3 X.xe I3 (stat fr3) st3 go) fun r s4 ⟨u,hr,h4⟩=>?_)
  subst hr
  refine Tz hp (cX h4 fun _ s5 ⟨x,H5,I5,r5,y5,st5,fr5⟩=>?_)
  have I5':=I5.pinned (stat fr5) (T.obj _ _ st5)
  refine Tz hp (cX (hg _ s5 σ3 H5 x u _ I5' r5 (step x H5 y5)) fun _ s6 ⟨σ6,H6,I6,q6⟩=>?_)
  refine Tz hp (cX (hb _ s6 σ6 H6 _ I6 q6) fun f s7 q7=>?_)
  have again:∀{σ7:St}{H7:Hp},Inv X (pins++vR fp s5.heap) σ7 H7 s7->N σ7 H7->∃m,m<n/\∃i σ' H',Inv X pins σ' H' s7/\tn i s7.heap/\(∀b∈fp,H' b=none)/\W i m σ' H':=fun {σ7 H7} I7 n7=>by
   obtain⟨m',hm,w7⟩:=hN σ7 H7 n7
   refine⟨m',hm,i+1,σ7,H7,I7.unpinned,T.keep _ _ _ st5 fun b hb o e=>(I7.pin (b,o) (RH _ (RH _ (mC hb e)))).1,fun b hb=>?_,w7⟩
   obtain⟨o,e,d⟩:=T.obj _ _ st5 b hb
   exact(I7.pin (b,o) (RH _ (RH _ (mC hb e)))).2.1
  cases f with
  |next=>obtain⟨σ7,H7,I7,n7⟩:=q7;exact again I7 n7
  |cont=>obtain⟨σ7,H7,I7,n7⟩:=q7;exact again I7 n7
  |brk=>obtain⟨σ7,H7,I7,q7⟩:=q7;exact⟨σ7,H7,I7.unpinned,q7⟩
  |ret v=>obtain⟨x7,σ7,H7,I7,r7,q7⟩:=q7;exact⟨x7,σ7,H7,I7.unpinned,r7,q7⟩
end
theorem JQ{K:Qj}{a:Qh}{xs:List V}{g:TG}{tb:TS}{D:Ends}{σ:St}{H:Hp}(Pv:Nat->St->Hp->Prop)(h0:Pv 0 σ H)(hl:∀i σ H,i<=xs.length->Pv i σ H->bo K H a xs)
  (hs:∀i x σ H,xs[i]?=some x->Pv i σ H->g x σ H fun σ2 H2=>tb {D with nx:=Pv (i+1),ct:=Pv (i+1),bk:=D.nx} σ2 H2) (hd:∀σ H,Pv xs.length σ H->D.nx σ H):
  ∃W:Nat->Nat->St->Hp->Prop,(∃m,W 0 m σ H)/\∀i m σ H,W i m σ H->
   ((Il K a).stop i H/\D.nx σ H)\/((Il K a).go i H/\∃N:St->Hp->Prop,(∀σ' H',N σ' H'->∃m',m'<m/\W (i+1) m' σ' H')/\∀x H',(Il K a).yld i H x H'->g x σ H' fun σ2 H2=>tb {D with nx:=N,ct:=N,bk:=D.nx} σ2 H2):=by
 exists fun i m σ H=>m=xs.length-i/\i<=xs.length/\Pv i σ H,⟨xs.length,⋯,Rm _,h0⟩
 rintro i m σ H ⟨rfl,hi,p⟩
 have q:=hl i σ H hi p
 by_cases hlt:i<xs.length
 ·refine .inr ⟨⟨xs,xs[i],q,by simp[hlt]⟩,Pv (i+1),fun σ' H' p'=>⟨xs.length-(i+1),by omega,rfl,hlt,p'⟩,fun x H' y=>?_⟩
  obtain⟨e,y⟩:=y
  subst e
  exact hs i x σ _ (y xs q) p
 ·have e:i=xs.length:=by omega
  subst e
  exact .inl ⟨⟨xs,q,QC _⟩,hd σ H p⟩
theorem gW{lo:Int}{n:Nat}{g:TG}{tb:TS}{D:Ends}{σ:St}{H:Hp}(Pv:Nat->St->Hp->Prop)(h0:Pv 0 σ H)
  (hs:∀i σ H,i<n->Pv i σ H->g (.int (lo+i)) σ H fun σ2 H2=>tb {D with nx:=Pv (i+1),ct:=Pv (i+1),bk:=D.nx} σ2 H2) (hd:∀σ H,Pv n σ H->D.nx σ H):
  ∃W:Nat->Nat->St->Hp->Prop,(∃m,W 0 m σ H)/\∀i m σ H,W i m σ H->
   ((Kg lo n).stop i H/\D.nx σ H)\/((Kg lo n).go i H/\∃N:St->Hp->Prop,(∀σ' H',N σ' H'->∃m',m'<m/\W (i+1) m' σ' H')/\∀x H',(Kg lo n).yld i H x H'->g x σ H' fun σ2 H2=>tb {D with nx:=N,ct:=N,bk:=D.nx} σ2 H2):=by
 exists fun i m σ H=>m=n-i/\i<=n/\Pv i σ H,⟨n,⋯,Rm _,h0⟩
 rintro i m σ H ⟨rfl,hi,p⟩
 by_cases hlt:i<n
 ·refine .inr ⟨hlt,Pv (i+1),fun σ' H' p'=>⟨n-(i+1),by omega,rfl,hlt,p'⟩,fun x H' y=>?_⟩
  obtain⟨e,y⟩:=y
  subst e y
  exact hs i σ _ hlt p
 ·have e:i=n:=by omega
  subst e
  exact .inl ⟨QC _,hd σ H p⟩
abbrev R2:=V->V->Hp->VK->Prop
noncomputable def jM(X:Cx)(f:Qi->Qi->Sem Qi)(r:R2):Prop:=
 ∀(pins:List (Qh×Qo))(s:Qk)(σ:St)(H:Hp)(x y:V)(v u:Qi)(Q:VK),Inv X pins σ H s->RelV x v->RelV y u->r x y H Q->
  Ql (model X.prog X.w) X.A (f v u) (EP X pins σ Q) X.xe s
noncomputable def d4(X:Cx)(f:Qi)(r:List V->Hp->VK->Prop):Prop:=
 ∀(pins:List (Qh×Qo))(s:Qk)(σ:St)(H:Hp)(xs:List V)(us:List Qi)(Q:VK),Inv X pins σ H s->cu xs us->r xs H Q->
  Ql (model X.prog X.w) X.A (call f us) (EP X pins σ Q) X.xe s
def aN(r:R2)(ta tb:TE):TE:=fun σ H Q=>ta σ H fun x H1=>tb σ H1 fun y H2=>r x y H2 Q
def rI(C:Int->Int->Prop)(g:Int->Int->V):R2:=fun x y H Q=>∃i j,x=.int i/\y=.int j/\C i j/\Q (g i j) H
def D3(g:Int->Int->V):R2:=fun x y H Q=>∃i j,x=.int i/\y=.int j/\Q (g i j) H
section
variable {X:Cx}{a b c:Qp}{ta tb tc:TE}{pos:QH}
theorem MY(ha:PE X a ta)(hb:PE X b tb){pins:List (Qh×Qo)}{s:Qk}{σ:St}{H:Hp}{R:V->V->Hp->Prop}(I:Inv X pins σ H s)
  (h:ta σ H fun x H1=>tb σ H1 fun y H2=>R x y H2) {Q:Qi->Qk->Prop}{f:Qi->Qi->Sem Qi}
  (hf:∀v u s2 x y H2,Inv X pins σ H2 s2->RelV x v->RelV y u->R x y H2->Ql (model X.prog X.w) X.A (f v u) Q X.xe s2):
  Ql (model X.prog X.w) X.A (eval a X.env) (fun v s₁=>Ql (model X.prog X.w) X.A (eval b X.env) (fun u s₂=>Ql (model X.prog X.w) X.A (f v u) Q X.xe s₂) X.xe s₁) X.xe s:=by
 refine cX (ha pins s σ H _ I h) fun v s1 ⟨x,H1,I1,r1,q1⟩=>?_
 refine cX (hb pins s1 σ H1 _ I1 q1) fun u s2 ⟨y,H2,I2,r2,q2⟩=>?_
 exact hf v u s2 x y H2 I2 r1 r2 q2
theorem aA{op:Operator}{r:R2}(ho:jM X (RV op) r)(ha:PE X a ta)(hb:PE X b tb):PE X (.BinOp a op b pos) (aN r ta tb):=by
 intro pins s σ H Q I h
 exact wpAny_BinOp (MY ha hb I h fun v u s2 x y H2 I2 rx ry q=>ho pins s2 σ H2 x y v u Q I2 rx ry q)
theorem Ov{f:Qi->Qi->Sem Qi}{C:Int->Int->Prop}{g:Int->Int->Int}
  (rule:∀(i j:Int)(t u:Tok)(s:Qk)(Q:Qi->Qk->Prop)(E:Qi->Qk->Prop),C i j->Q (.int (g i j) s.toks) {s with toks:=s.toks+1}->Ql (model X.prog X.w) X.A (f (.int i t) (.int j u)) Q E s):
  jM X f (rI C fun i j=>.int (g i j)):=by
 intro pins s σ H x y v u Q I rx ry h
 obtain⟨i,j,rfl,rfl,hc,q⟩:=h
 obtain⟨t,rfl⟩:=rx
 obtain⟨t',rfl⟩:=ry
 exact rule i j t t' s _ _ hc ⟨.int (g i j),H,I.tok _,⟨_,rfl⟩,q⟩
theorem Lz{f:Qi->Qi->Sem Qi}{g:Int->Int->Int}
  (rule:∀(i j:Int)(t u:Tok)(s:Qk)(Q:Qi->Qk->Prop)(E:Qi->Qk->Prop),Q (.int (g i j) s.toks) {s with toks:=s.toks+1}->Ql (model X.prog X.w) X.A (f (.int i t) (.int j u)) Q E s):
  jM X f (D3 fun i j=>.int (g i j)):=by
 intro pins s σ H x y v u Q I rx ry h
 obtain⟨i,j,rfl,rfl,q⟩:=h
 obtain⟨t,rfl⟩:=rx
 obtain⟨t',rfl⟩:=ry
 exact rule i j t t' s _ _ ⟨.int (g i j),H,I.tok _,⟨_,rfl⟩,q⟩
theorem Ln{f:Qi->Qi->Sem Qi}{g:Int->Int->Bool}
  (rule:∀(i j:Int)(t u:Tok)(s:Qk)(Q:Qi->Qk->Prop)(E:Qi->Qk->Prop),Q (.bool (g i j)) s->Ql (model X.prog X.w) X.A (f (.int i t) (.int j u)) Q E s):
  jM X f (D3 fun i j=>.bl (g i j)):=by
 intro pins s σ H x y v u Q I rx ry h
 obtain⟨i,j,rfl,rfl,q⟩:=h
 obtain⟨t,rfl⟩:=rx
 obtain⟨t',rfl⟩:=ry
 exact rule i j t t' s _ _ ⟨.bl (g i j),H,I,rfl,q⟩
def Pw(i j:Int):Prop:=0<=j/\j<=1000000/\i.natAbs<2 ^ 64
def Lf(i j:Int):Prop:=(-(2 ^ 64)<i/\i<2 ^ 64)\/(-(2 ^ 64)<j/\j<2 ^ 64)
theorem Lf.ok{i j:Int}(h:Lf i j):IntMulOk i j:=by
 rcases h with⟨h1,h2⟩|⟨h1,h2⟩
 ·exact .of_left (intBits_le_64 h1 h2)
 ·exact .of_right (intBits_le_64 h1 h2)
theorem Nv:jM X (RV .Add) (D3 fun i j=>.int (i+j)):=Lz fun _ _ _ _ _ _ _ q=>add_int q
theorem MT:jM X (RV .Sub) (D3 fun i j=>.int (i-j)):=Lz fun _ _ _ _ _ _ _ q=>sub_int q
theorem Nu:jM X (RV .Mod) (rI (fun _ j=>0<j) fun i j=>.int (i%j)):=Ov fun i j _ _ _ _ _ hc q=>by
 have h1:(0:Int)<j:=hc
 exact mod_int' (by omega) (by rw[Int.fmod_eq_emod_of_nonneg i (by omega)];exact q)
theorem K6:jM X (Sx .Add) (D3 fun i j=>.int (i+j)):=Lz fun _ _ _ _ _ _ _ q=>iadd_int q
theorem La:jM X (Sx .Sub) (D3 fun i j=>.int (i-j)):=Lz fun _ _ _ _ _ _ _ q=>isub_int q
end
noncomputable def Ou:V->V->Bool
 |.non,.non=>true | .non,.int _=>true | .int _,.non=>true | .non,.bl _=>true | .bl _,.non=>true | .non,.str _=>true | .str _,.non=>true
 |.int _,.int _=>true | .bl _,.bl _=>true | .str _,.str _=>true | .byt _,.byt _=>true
 |.int _,.str _=>true | .str _,.int _=>true | .bl _,.str _=>true | .str _,.bl _=>true
 |_,_=>false
def gY:R2:=fun x y H Q=>Ou x y=true/\Q (.bl (decide (x=y))) H
def Ma:R2:=fun x y H Q=>Ou x y=true/\Q (.bl (!decide (x=y))) H
theorem F9{i j:Int}:decide (V.int i=V.int j)=(i==j):=by
 rw[RF]
 simp
theorem Kj{i j:Bool}:decide (V.bl i=V.bl j)=(i==j):=by
 rw[RF]
 simp
theorem FV{i j:Qg}:decide (V.str i=V.str j)=(i==j):=by
 rw[RF]
 simp
theorem Gj{i j:Array UInt8}:decide (V.byt i=V.byt j)=(i.toList==j.toList):=by
 rw[RF]
 cases i
 cases j
 simp
section
variable {X:Cx}{a b c:Qp}{ta tb tc:TE}{pos:QH}
theorem cm{pins:List (Qh×Qo)}{σ:St}{H:Hp}{s:Qk}{Q:VK}{k k':Bool}(I:Inv X pins σ H s)(q:Q (.bl k) H)(e:k=k'):EP X pins σ Q (.bool k') s:=by
 subst e
 exact⟨.bl k,H,I,rfl,q⟩
theorem bX:jM X (Rc .Eq) gY:=by
 intro pins s σ H x y v u Q I rx ry h
 obtain⟨hs,q⟩:=h
 cases x with
 |non=>
  cases rx
  cases y with
  |non=>cases ry;exact aas (cm I q ⋯)
  |bl j=>cases ry;exact Z2 (cm I q ⋯)
  |int j=>obtain⟨t',rfl⟩:=ry;exact aaL (cm I q ⋯)
  |str j=>obtain⟨t',rfl⟩:=ry;exact ZW (cm I q ⋯)
  |_=>exact absurd (show false=true from hs) Rf
 |bl i=>
  cases rx
  cases y with
  |non=>cases ry;exact Zc (cm I q ⋯)
  |bl j=>cases ry;exact eq_bool (cm I q Kj)
  |str j=>obtain⟨t',rfl⟩:=ry;exact ZF (cm I q ⋯)
  |_=>exact absurd (show false=true from hs) Rf
 |int i=>
  obtain⟨t,rfl⟩:=rx
  cases y with
  |non=>cases ry;exact Ze (cm I q ⋯)
  |int j=>obtain⟨t',rfl⟩:=ry;exact eq_int (cm I q F9)
  |str j=>obtain⟨t',rfl⟩:=ry;exact aaq (cm I q ⋯)
  |_=>exact absurd (show false=true from hs) Rf
 |str i=>
  obtain⟨t,rfl⟩:=rx
  cases y with
  |non=>cases ry;exact aap (cm I q ⋯)
  |bl j=>cases ry;exact aaP (cm I q ⋯)
  |int j=>obtain⟨t',rfl⟩:=ry;exact ZG (cm I q ⋯)
  |str j=>obtain⟨t',rfl⟩:=ry;exact eq_str (cm I q FV)
  |_=>exact absurd (show false=true from hs) Rf
 |byt i=>
  obtain⟨t,rfl⟩:=rx
  cases y with
  |byt j=>obtain⟨t',rfl⟩:=ry;exact aa7 (cm I q Gj)
  |_=>exact absurd (show false=true from hs) Rf
 |_=>cases y<;>exact absurd (show false=true from hs) Rf
theorem Gi:jM X (Rc .NotEq) Ma:=by
 intro pins s σ H x y v u Q I rx ry h
 obtain⟨hs,q⟩:=h
 cases x with
 |non=>
  cases rx
  cases y with
  |non=>cases ry;exact aaz (cm I q ⋯)
  |bl j=>cases ry;exact Z5 (cm I q ⋯)
  |int j=>obtain⟨t',rfl⟩:=ry;exact aan (cm I q ⋯)
  |str j=>obtain⟨t',rfl⟩:=ry;exact aao (cm I q ⋯)
  |_=>exact absurd (show false=true from hs) Rf
 |bl i=>
  cases rx
  cases y with
  |non=>cases ry;exact aau (cm I q ⋯)
  |bl j=>cases ry;exact ne_bool (cm I q (congrArg not Kj))
  |str j=>obtain⟨t',rfl⟩:=ry;exact aab (cm I q ⋯)
  |_=>exact absurd (show false=true from hs) Rf
 |int i=>
  obtain⟨t,rfl⟩:=rx
  cases y with
  |non=>cases ry;exact Zx (cm I q ⋯)
  |int j=>obtain⟨t',rfl⟩:=ry;exact ne_int (cm I q (congrArg not F9))
  |str j=>obtain⟨t',rfl⟩:=ry;exact Zh (cm I q ⋯)
  |_=>exact absurd (show false=true from hs) Rf
 |str i=>
  obtain⟨t,rfl⟩:=rx
  cases y with
  |non=>cases ry;exact aaM (cm I q ⋯)
  |bl j=>cases ry;exact Zv (cm I q ⋯)
  |int j=>obtain⟨t',rfl⟩:=ry;exact ZE (cm I q ⋯)
  |str j=>obtain⟨t',rfl⟩:=ry;exact ne_str (cm I q (congrArg not FV))
  |_=>exact absurd (show false=true from hs) Rf
 |byt i=>
  obtain⟨t,rfl⟩:=rx
  cases y with
  |byt j=>obtain⟨t',rfl⟩:=ry;exact aaO (cm I q (congrArg not Gj))
  |_=>exact absurd (show false=true from hs) Rf
 |_=>cases y<;>exact absurd (show false=true from hs) Rf
theorem OB:jM X (Rc .Lt) (D3 fun i j=>.bl (decide (i<j))):=Ln fun _ _ _ _ _ _ _ q=>lt_int q
theorem N9:jM X (Rc .LtE) (D3 fun i j=>.bl (decide (i<=j))):=Ln fun _ _ _ _ _ _ _ q=>le_int q
theorem Ot:jM X (Rc .Gt) (D3 fun i j=>.bl (decide (j<i))):=Ln fun _ _ _ _ _ _ _ q=>gt_int q
theorem OG:jM X (Rc .GtE) (D3 fun i j=>.bl (decide (j<=i))):=Ln fun _ _ _ _ _ _ _ q=>ge_int q
theorem Ie:jM X (Rc .In) (fun x y H Q=>∃i j,x=.str i/\y=.str j/\Q (.bl (!(UQ j i 0 j.length 1).isEmpty)) H):=by
 intro pins s σ H x y v u Q I rx ry h
 obtain⟨i,j,rfl,rfl,q⟩:=h
 obtain⟨t,rfl⟩:=rx
 obtain⟨t',rfl⟩:=ry
 exact in_str (cm I q rfl)
theorem BY:jM X (Rc .Is) (fun x y H Q=>y=.non/\Q (.bl (decide (x=.non))) H):=by
 intro pins s σ H x y v u Q I rx ry h
 obtain⟨rfl,q⟩:=h
 cases ry
 refine is_none_gen (cm I q ?_)
 cases x<;>first
  |(cases rx;rfl)
  |(obtain⟨t,rfl⟩:=rx;rfl)
theorem F4:jM X (Rc .IsNot) (fun x y H Q=>y=.non/\Q (.bl (!decide (x=.non))) H):=by
 intro pins s σ H x y v u Q I rx ry h
 obtain⟨rfl,q⟩:=h
 cases ry
 refine isnot_none_gen (cm I q ?_)
 cases x<;>first
  |(cases rx;rfl)
  |(obtain⟨t,rfl⟩:=rx;rfl)
theorem aJ(b:Qp){op:CmpOp}(h:op≠.In:=by decide)(h2:op≠.NotIn:=by decide):UM op b=false:=by
 have e1:(op==CmpOp.In)=false:=by cases op<;>first|rfl|exact absurd rfl h
 have e2:(op==CmpOp.NotIn)=false:=by cases op<;>first|rfl|exact absurd rfl h2
 cases b<;>simp[UM,e1,e2]
theorem dJ{op:CmpOp}{r:R2}(ho:jM X (Rc op) r)(ha:PE X a ta)(hb:PE X b tb)(hm:UM op b=false):PE X (.Compare a [op] [b] pos) (aN r ta tb):=by
 intro pins s σ H Q I h
 exact wpAny_Compare1 (MY ha hb I h fun v u s2 x y H2 I2 rx ry q=>ho pins s2 σ H2 x y v u Q I2 rx ry q) hm
def aZ(t:TE):TT:=fun σ H Q=>t σ H fun x H'=>∃k,x=.bl k/\Q k H'
theorem aE{op:CmpOp}{r:R2}(ho:jM X (Rc op) r)(ha:PE X a ta)(hb:PE X b tb)(hm:UM op b=false):PT X (.Compare a [op] [b] pos) (aZ (aN r ta tb)):=by
 intro pins s σ H Q I h
 refine wpAny_isTrue_Compare1 (cX (ha pins s σ H _ I h) fun v s1 ⟨x,H1,I1,r1,q1⟩=>cX (hb pins s1 σ H1 _ I1 q1) fun u s2 ⟨y,H2,I2,r2,q2⟩=>
  cX (ho pins s2 σ H2 x y v u _ I2 r1 r2 q2) fun c s3 ⟨z,H3,I3,r3,k,e,q3⟩=>?_) hm
 subst e
 cases r3
 exact TQ ⟨H3,I3,q3⟩
def B4(r r':R2)(ta tb tc:TE):TE:=fun σ H Q=>ta σ H fun x H1=>tb σ H1 fun y H2=>r x y H2 fun z H3=>∃k,z=.bl k/\
 (if k=true then tc σ H3 fun w' H4=>r' y w' H4 Q else Q (.bl false) H3)
theorem DM{op op':CmpOp}{r r':R2}(ho:jM X (Rc op) r)(ho':jM X (Rc op') r')(ha:PE X a ta)(hb:PE X b tb)(hc:PE X c tc)
  (hm:lastMarks [op,op'] [b,c]=false:=by with_unfolding_all rfl):PE X (.Compare a [op,op'] [b,c] pos) (B4 r r' ta tb tc):=by
 intro pins s σ H Q I h
 refine Compare_chain (cX (ha pins s σ H _ I h) fun v s1 ⟨x,H1,I1,r1,q1⟩=>chain_link (cX (hb pins s1 σ H1 _ I1 q1) fun u s2 ⟨y,H2,I2,r2,q2⟩=>
  cX (ho pins s2 σ H2 x y v u _ I2 r1 r2 q2) fun d s3 ⟨z,H3,I3,r3,k,e,q3⟩=>?_)) hm
 subst e
 cases r3
 refine TQ ?_
 cases k with
 |false=>exact ite_ff ⟨.bl false,H3,I3,rfl,q3⟩
 |true=>exact ite_tt (chain_last (cX (hc pins s3 σ H3 _ I3 q3) fun w' s4 ⟨z',H4,I4,r4,q4⟩=>ho' pins s4 σ H4 y z' u w' Q I4 r2 r4 q4))
theorem xA:(Qr:Nat)<2 ^ 63:=by rw[sizeLine_eq];decide
theorem Ep:jM X (RV .Add) (fun x y H Q=>∃i j,x=.str i/\y=.str j/\i.length+j.length<=Qr/\Q (.str (i++j)) H):=by
 intro pins s σ H x y v u Q I rx ry h
 obtain⟨i,j,rfl,rfl,hz,q⟩:=h
 obtain⟨t,rfl⟩:=rx
 obtain⟨t',rfl⟩:=ry
 exact add_str (fun t' tk=>⟨.str (i++j),H,I.tok _,⟨_,rfl⟩,q⟩) hz
theorem vals1{x:V}{us:List Qi}(r:cu [x] us):∃u,us=[u]/\RelV x u:=by
 cases r with
 |cons r1 r2=>cases r2;exact⟨_,rfl,r1⟩
theorem vals2{x y:V}{us:List Qi}(r:cu [x,y] us):∃u w',us=[u,w']/\RelV x u/\RelV y w':=by
 cases r with
 |cons r1 r2=>
  cases r2 with
  |cons r3 r4=>cases r4;exact⟨_,_,rfl,r1,r3⟩
theorem Hs(hc:X.calm=true):d4 X (.builtin "max") (fun xs H Q=>∃i j,xs=[.int i,.int j]/\Q (.int (if j>i then j else i)) H):=by
 intro pins s σ H xs us Q I r h
 obtain⟨i,j,rfl,q⟩:=h
 obtain⟨u,w',rfl,⟨t,rfl⟩,⟨t',rfl⟩⟩:=vals2 r
 refine max_two_ints (I.ok.hd hc) fun h' tk k=>⟨_,H,I.kept k,?_,q⟩
 by_cases hj:j>i
 ·rw[if_pos hj,if_pos hj];exact⟨_,rfl⟩
 ·rw[if_neg hj,if_neg hj];exact⟨_,rfl⟩
theorem HP(hc:X.calm=true):d4 X (.builtin "min") (fun xs H Q=>∃i j,xs=[.int i,.int j]/\Q (.int (if j<i then j else i)) H):=by
 intro pins s σ H xs us Q I r h
 obtain⟨i,j,rfl,q⟩:=h
 obtain⟨u,w',rfl,⟨t,rfl⟩,⟨t',rfl⟩⟩:=vals2 r
 refine min_two_ints (I.ok.hd hc) fun h' tk k=>⟨_,H,I.kept k,?_,q⟩
 by_cases hj:j<i
 ·rw[if_pos hj,if_pos hj];exact⟨_,rfl⟩
 ·rw[if_neg hj,if_neg hj];exact⟨_,rfl⟩
theorem GS:d4 X (.type "int") (fun xs H Q=>(∃i,xs=[.int i]/\Q (.int i) H)\/∃k,xs=[.bl k]/\Q (.int (if k then 1 else 0)) H):=by
 intro pins s σ H xs us Q I r h
 rcases h with⟨i,rfl,q⟩|⟨k,rfl,q⟩
 ·obtain⟨u,rfl,t,rfl⟩:=vals1 r
  exact call_int_int ⟨.int i,H,I,⟨_,rfl⟩,q⟩
 ·obtain⟨u,rfl,r1⟩:=vals1 r
  cases r1
  exact call_int_bool ⟨.int (if k then 1 else 0),H,I.tok _,⟨_,rfl⟩,q⟩
theorem rF:d4 X (.type "str") (fun xs H Q=>∃i,xs=[.int i]/\i.natAbs.log2<1920/\Q (.str (toString i)) H):=by
 intro pins s σ H xs us Q I r h
 obtain⟨i,rfl,hz,q⟩:=h
 obtain⟨u,rfl,t,rfl⟩:=vals1 r
 exact aa6 hz ⟨.str _,H,I.tok _,⟨_,rfl⟩,q⟩
end
structure E8(h:Qq)(x dx C:Qh)(mA:Qg->Option Qi):Prop where
 obj:h.get? x=some (SV C dx)
 ns:h.Ns1 dx mA
 ne:dx≠x
theorem HM{h:Qq}{dx:Qh}{mA:Qg->Option Qi}(n:h.Ns1 dx mA):∃od,h.get? dx=some od/\∀name,VA name od=some (mA name):=by
 obtain⟨o,es,ep,ho,hd,hk,_,hm⟩:=n
 refine⟨o,ho,fun name=>?_⟩
 have e:=hm name
 unfold nsFind findBy at e
 rw[<-Array.find?_toList]at e
 unfold VA
 rw[hd]
 dsimp only
 split
 ·rename_i y q
  rw[q]at e
  exact congrArg some e
 ·rename_i q
  rw[q]at e
  have a:es.toList.any (·.refKey)=false:=by
   rw[List.any_eq_false]
   intro y hy
   obtain⟨z,t,hkey⟩:=hk y (YZ.mp hy)
   simp[Zn,hkey]
  have a':¬es.toList.any (·.refKey)=true:=by rw[a];exact Rf
  rw[if_neg a']
  exact congrArg some e
theorem E8.look{h:Qq}{x dx C:Qh}{mA:Qg->Option Qi}(I:E8 h x dx C mA):∃od,Tw h x (SV C dx) C (some od)/\∀name,VA name od=some (mA name):=
 let ⟨od,ho,hl⟩:=HM I.ns
 ⟨od,⟨I.obj,rfl,rfl,ho⟩,hl⟩
section
variable {prog:Qy}{w:Qv}{A:QF}{E:Qi->Qk->Prop}{s:Qk}{K:Qj}{x dx C f:Qh}{mA:Qg->Option Qi}{name:Qg}{v:Qi}
theorem get_map{expr:Bool}{Q:Qi->Qk->Prop}(X:K.In s.heap)(I:E8 s.heap x dx C mA)(hg:Ux K C name=true)(hh:Vp K C=true)
  (ha:Rv K (.ref C) name=some none) (hv:mA name=some v) (hv':W2 v=true) (h:Q v {s with toks:=s.toks+1}):
  Ql (model prog w) A (getAttr (.ref x) name expr) Q E s:=by
 obtain⟨od,J,hl⟩:=I.look
 exact aaQ X J (V2 hg).1 (ZZ hh ha rfl (by rw[hl,hv])) hv' h
theorem JW{pl:Sem Bool}{Q:Qi×List Qi->Qk->Prop}(X:K.In s.heap)(I:E8 s.heap x dx C mA)(hg:Ux K C name=true)
  (hf:Rv K (.ref C) name=some (some (.ref f))) (ht:Vz K (.ref f)=true) (hv:mA name=none) (h:Q (.ref f,[.ref x]) s):
  Ql (model prog w) A (Sw (.ref x) name pl) Q E s:=by
 obtain⟨od,J,hl⟩:=I.look
 exact aag X J (V2 hg).1 (V2 hg).2 hf (beq_iff_eq.mp ht) (by show(VA name od).map (·.isSome)=some false;rw[hl,hv];rfl) h
theorem Lo{ns:List Qg}{Q:Unit->Qk->Prop}(X:K.In s.heap)(I:E8 s.heap x dx C mA)
  (hs:Rv K (.ref C) "__setattr__"=some (some (.builtin "object.__setattr__"))) (hp:WH K C=true) (ht:VG K C name=some none) (hh:Vp K C=true)
  (hw:Wp mA ns) (hsz:ns.length<=Qr)
  (h:∀h',E8 h' x dx C (fun y=>if y=name then some v else mA y)->Sh dx s.heap h'->Q () {s with heap:=h',toks:=s.toks+2}):
  Ql (model prog w) A (setAttr (.ref x) name v) Q E s:=by
 obtain⟨od,J,hl⟩:=I.look
 refine ZK X J hs (Zt (s:={s with toks:=s.toks+1}) (r:=none) X J hp ht fun b=>?_)
 obtain⟨cd,hc,hd'⟩:=ZO hh
 have hx:s.heap.get? x=some ⟨.ref C,some dx,.plain,#[]⟩:=I.obj
 refine Qm (QG (Qm (Qm (wpAny_loadPart hx (Qm (Z9 (s:={s with toks:=s.toks+1}) (Zk X hc) ?_))))))
 rw[hd']
 refine QG (a:=some dx) (Qm (QG (Qm ?_)))
 refine wpAny_nsSet1 (s:={s with toks:=s.toks+1}) I.ns fun h' hn2 hs2=>?_
 obtain⟨oD,esD,epD,hoD,hdD,hcD⟩:=hn2.count (Zl name v hw)
 refine Qm (wpAny_lookBehind hoD (by rw[hdD];exact pastItsLine_dict (Qt hcD (by rw[Rn];omega))) ?_)
 exact QG (h _ ⟨(hs2.2 _ (QT I.ne)).trans I.obj,hn2,I.ne⟩ hs2)
theorem Kb{R:Result->Qk->Prop}{vs:List Qi}{kw:List (Qg×Qi)}(X:K.In s.heap)(hm:VB K C=true)
  (hi:Rv K (.ref C) "__init__"=some (some (.ref f))) (hf:VH K (.ref f)=some (.type "function"))
  (h:Sj (model prog w) (A.under (.builtin "type.__call__" ⟨.ref C::vs,kw⟩)) (.call (.ref f) ⟨.ref (s.heap.objs.size+1)::vs,kw⟩) (aaU (s.heap.objs.size+1) R)
   {s with heap:=(s.heap.push SN).push (SV C s.heap.objs.size)}):
  Sj (model prog w) A (.call (.ref C) ⟨vs,kw⟩) R s:=by
 obtain⟨hh,g,d,t,os⟩:=s
 exact aaC (Zj X hm) (Z1 X hi) (fun self=>Zg X self hf) (.inl rfl) h
end
def cE(f:Qg)(v:V):List (Qg×V)->List (Qg×V)
 |[]=>[(f,v)]
 |(g,x)::r=>if g=f then(g,v)::r else(g,x)::cE f v r
theorem uw(f g:Qg)(v:V):∀fs:List (Qg×V),(cE f v fs).lookup g=if g=f then some v else fs.lookup g
 |[]=>by
  show RI g [(f,v)]=_
  by_cases h:g=f
  ·have hb:(g==f)=true:=beq_iff_eq.mpr h
   simp only[RI,hb,if_pos h]
  ·have hb:(g==f)=false:=beq_eq_false_iff_ne.mpr h
   simp only[RI,hb,if_neg h]
 |(k,x)::r=>by
  have ih:=uw f g v r
  rw[show cE f v ((k,x)::r)=(if k=f then(k,v)::r else(k,x)::cE f v r)from rfl]
  by_cases hk:k=f
  ·rw[if_pos hk]
   by_cases h:g=k
   ·have hb:(g==k)=true:=beq_iff_eq.mpr h
    simp only[RI,hb,if_pos (h.trans hk)]
   ·have hb:(g==k)=false:=beq_eq_false_iff_ne.mpr h
    simp only[RI,hb,if_neg (fun e:g=f=>h (e.trans hk.symm))]
  ·rw[if_neg hk]
   by_cases h:g=k
   ·have hb:(g==k)=true:=beq_iff_eq.mpr h
    simp only[RI,hb,if_neg (fun e:g=f=>hk (h.symm.trans e))]
   ·have hb:(g==k)=false:=beq_eq_false_iff_ne.mpr h
    simp only[RI,hb]
    exact ih
theorem tz(f:Qg)(v:V):∀fs:List (Qg×V),f∈(cE f v fs).map (·.1)/\∀g,g∈fs.map (·.1)->g∈(cE f v fs).map (·.1)
 |[]=>⟨by simp[cE],fun g h=>by simp at h⟩
 |(k,x)::r=>by
  obtain⟨i1,i2⟩:=tz f v r
  rw[show cE f v ((k,x)::r)=(if k=f then(k,v)::r else(k,x)::cE f v r)from rfl]
  by_cases hk:k=f
  ·rw[if_pos hk]
   subst hk
   exact⟨⋯,fun g h=>by simpa using h⟩
  ·rw[if_neg hk]
   refine⟨?_,fun g h=>?_⟩
   ·rw[QW]
    exact Q2 _ i1
   ·rw[QW]at h ⊢
    rcases QI.mp h with e|e
    ·exact QI.mpr (.inl e)
    ·exact Q2 _ (i2 g e)
theorem uC(f:Qg)(v:V):∀fs:List (Qg×V),(cE f v fs).length<=fs.length+1
 |[]=>by simp[cE]
 |(k,x)::r=>by
  have ih:=uC f v r
  rw[show cE f v ((k,x)::r)=(if k=f then(k,v)::r else(k,x)::cE f v r)from rfl]
  by_cases hk:k=f
  ·rw[if_pos hk,Rn,Rn];omega
  ·rw[if_neg hk,Rn,Rn];omega
theorem nN.some_of{v:V}{o:Option Qi}(r:nN (some v) o):∃u,o=some u/\RelV v u:=by
 cases o with
 |none=>exact(show False from r).elim
 |some u=>exact⟨u,rfl,r⟩
theorem nN.none_of{o:Option Qi}(r:nN none o):o=none:=by
 cases o with
 |none=>rfl
 |some u=>exact(show False from r).elim
theorem GR{v:V}{u:Qi}(r:RelV v u):W2 u=true:=by
 cases v with
 |non=>cases(show u=RC from r);rfl
 |bl b=>cases(show u=SW b from r);rfl
 |int i=>obtain⟨t,e⟩:=(show ∃t,u=So i t from r);cases e;rfl
 |str x=>obtain⟨t,e⟩:=(show ∃t,u=Tu x t from r);cases e;rfl
 |byt b=>obtain⟨t,e⟩:=(show ∃t,u=XI b t from r);cases e;rfl
 |flt b=>obtain⟨t,e⟩:=(show ∃t,u=XU b t from r);cases e;rfl
 |ref a=>cases(show u=QL a from r);rfl
 |ty n=>cases(show u=V6 n from r);rfl
section
variable {P:Qy}{w:Qv}{H H':Hp}{h h':Qq}{a C dx:Qh}{fs fs':List (Qg×V)}
theorem BL(hok:pB P w H h)(e:H a=some (.ins C dx fs)):∃mA,E8 h a dx C mA/\(∀f,nN (fs.lookup f) (mA f))/\Wp mA (fs.map (·.1))/\fs.length<=1000/\H dx=some (.own a):=by
 obtain⟨d,z,ne,ob,mA,n,r,q⟩:=(show de P w H h a (.ins C dx fs)from hok a _ e)
 exact⟨mA,⟨ob,n,ne⟩,r,q,z,d⟩
end
structure il(K:Qj)(C:Qh):Prop where
 pg:Ux K C QO=true
 hd:Vp K C=true
 po:WH K C=true
 sa:Rv K (.ref C) "__setattr__"=some (some (.builtin "object.__setattr__"))
theorem il.get{K:Qj}{C:Qh}(c:il K C)(f:Qg):Ux K C f=true:=c.pg
def dC(K:Qj)(C:Qh)(f:Qg):Prop:=Rv K (.ref C) f=some none
theorem dC.taker{K:Qj}{C:Qh}{f:Qg}(n:dC K C f):VG K C f=some none:=by
 unfold VG
 rw[show Rv K (.ref C) f=some none from n]
 rfl
structure G1(K:Qj)(C:Qh)(m:Qg)(f:Qh):Prop where
 at_:Rv K (.ref C) m=some (some (.ref f))
 fn:Vz K (.ref f)=true
 kp:R9 K (.ref f)=true
section
variable {X:Cx}{pins:List (Qh×Qo)}{σ:St}{H:Hp}{s:Qk}{a C dx:Qh}{fs:List (Qg×V)}{f:Qg}{v:V}{A:QF}{E:Qi->Qk->Prop}
theorem xg{b:Bool}{Q:Qi->Qk->Prop}(I:Inv X pins σ H s)(e:H a=some (.ins C dx fs))(c:il X.K C)(n:dC X.K C f)(l:fs.lookup f=some v)
  (h:∀u s',Inv X pins σ H s'->RelV v u->Q u s'):Ql (model X.prog X.w) A (getAttr (.ref a) f b) Q E s:=by
 obtain⟨mA,O,r,_,_,_⟩:=BL I.hok e
 obtain⟨u,hu,ru⟩:=nN.some_of (v:=v) (o:=mA f) (by rw[<-l];exact r f)
 exact get_map I.kIn O (c.get f) c.hd n hu (GR ru) (h u _ (I.tok _) ru)
theorem k7{m:Qg}{g:Qh}{pl:Sem Bool}{Q:Qi×List Qi->Qk->Prop}(I:Inv X pins σ H s)(e:H a=some (.ins C dx fs))(c:il X.K C)(k:G1 X.K C m g)(l:fs.lookup m=none)
  (h:Q (.ref g,[.ref a]) s):Ql (model X.prog X.w) A (Sw (.ref a) m pl) Q E s:=by
 obtain⟨mA,O,r,_,_,_⟩:=BL I.hok e
 have hn:mA m=none:=nN.none_of (by rw[<-l];exact r m)
 exact JW I.kIn O (c.get m) k.at_ k.fn hn h
theorem xW{y:V}{u:Qi}{Q:Unit->Qk->Prop}(I:Inv X pins σ H s)(e:H a=some (.ins C dx fs))(c:il X.K C)(n:dC X.K C f)(hl:fs.length<1000)(ry:RelV y u)
  (h:∀s',Inv X pins σ (upd H a (.ins C dx (cE f y fs))) s'->Q () s'):Ql (model X.prog X.w) A (setAttr (.ref a) f u) Q E s:=by
 obtain⟨mA,O,r,wi,_,ho⟩:=BL I.hok e
 have hz:(fs.map (·.1)).length<=Qr:=by rw[Qw,sizeLine_eq];omega
 refine Lo I.kIn O c.sa c.po n.taker c.hd wi hz fun h' O' sb=>h _ ?_
 have hd:∃o,h'.get? dx=some o:=let ⟨o,_,_,e',_⟩:=O'.ns;⟨o,e'⟩
 refine I.write (x:=a) (e:=dx) (by rw[e];exact SU) (.inr ho) (fun b q hb z=>(sb.2 b hb).trans z) hd ?_
 refine⟨by rw[ax O.ne];exact ho,?_,O.ne,O'.obj,_,O'.ns,fun g=>?_,fun g hg=>?_⟩
 ·have:=uC f y fs;omega
 ·show nN ((cE f y fs).lookup g) (if g=f then some u else mA g)
  rw[uw]
  by_cases q:g=f
  ·rw[if_pos q,if_pos q];exact ry
  ·rw[if_neg q,if_neg q];exact r g
 ·by_cases q:g=f
  ·rw[q];exact(tz f y fs).1
  ·refine(tz f y fs).2 g (wi g fun z=>hg ?_)
   show(if g=f then some u else mA g)=none
   rw[if_neg q];exact z
theorem Inv.made(I:Inv X pins σ H s):Inv X pins σ (upd (upd H s.heap.objs.size (.own (s.heap.objs.size+1))) (s.heap.objs.size+1) (.ins C s.heap.objs.size []))
  {s with heap:=(s.heap.push SN).push (SV C s.heap.objs.size)}:=by
 have e1:(s.heap.push SN).get? s.heap.objs.size=some SN:=QX s.heap rfl
 have e2:((s.heap.push SN).push (SV C s.heap.objs.size)).get? (s.heap.objs.size+1)=some (SV C s.heap.objs.size):=by
  have:=QX (s.heap.push SN) (o:=SV C s.heap.objs.size) rfl
  rwa [RS]at this
 have e3:(s.heap.push SN).Ns s.heap.objs.size (fun _=>none):=⟨SN,#[],_,e1,rfl,(fun e he=>absurd he ⋯),fun _=>rfl⟩
 have I1:=I.laid (a:=s.heap.objs.size) (o:=.own (s.heap.objs.size+1)) (h':=s.heap.push SN) (t':=s.toks) (fun b u q=>QS _ q) (QC _) ⟨_,e1⟩
 refine I1.laid (a:=s.heap.objs.size+1) (o:=.ins C s.heap.objs.size []) (t':=s.toks) (fun b u q=>QS _ q) (Ui (RS _ _)) ?_
 have ne:s.heap.objs.size≠s.heap.objs.size+1:=QV (Vi _)
 refine⟨by rw[ax ne,ay],Rm _,ne,e2,fun _=>none,(Zq e3).at fun o q=>QS _ q,fun _=>SU,fun y hy=>absurd rfl hy⟩
theorem Lm{prog:Qy}{w:Qv}{env:QP}{e:Qp}{f:Qg}{pos:QH}{s:Qk}{Q:Qi->Qk->Prop}(hb:Tp e f env (eval e env)=eval e env)
  (h:Ql (model prog w) A (eval e env) (fun o s₁=>Ql (model prog w) A (getAttr o f true) Q E s₁) E s):Ql (model prog w) A (eval (.Attribute e f pos) env) Q E s:=
 Attribute_any_ h (by rw[arm_eval_Attribute,hb])
end
def dk(K:Qj)(ta:TE)(f:Qg):TE:=fun σ H Q=>ta σ H fun x H1=>∃a C dx fs v,x=.ref a/\H1 a=some (.ins C dx fs)/\il K C/\dC K C f/\fs.lookup f=some v/\Q v H1
def sE(K:Qj)(ta tv:TE)(f:Qg):TS:=fun D σ H=>tv σ H fun y H1=>ta σ H1 fun x H2=>∃a C dx fs,x=.ref a/\H2 a=some (.ins C dx fs)/\il K C/\dC K C f/\fs.length<1000/\
 D.nx σ (upd H2 a (.ins C dx (cE f y fs)))
noncomputable def MX(X:Cx)(op:Operator)(rd:V->V->Hp->VK->Prop):Prop:=
 ∀(pins:List (Qh×Qo))(s:Qk)(σ:St)(H:Hp)(x y:V)(u v:Qi)(Q:VK),Inv X pins σ H s->RelV x u->RelV y v->rd x y H Q->Ql (model X.prog X.w) X.A (Sx op u v) (EP X pins σ Q) X.xe s
noncomputable def j4(K:Qj)(ta tv:TE)(rd:V->V->Hp->VK->Prop)(f:Qg):TS:=fun D σ H=>ta σ H fun x H1=>∃a C dx fs v,x=.ref a/\H1 a=some (.ins C dx fs)/\il K C/\dC K C f/\fs.lookup f=some v/\
 tv σ H1 fun y H2=>rd v y H2 fun z H3=>∃dx' fs',H3 a=some (.ins C dx' fs')/\fs'.length<1000/\D.nx σ (upd H3 a (.ins C dx' (cE f z fs')))
section
variable {X:Cx}{o e value:Qp}{f:Qg}{pos pos' tpos:QH}{ta tv:TE}
theorem bK(he:PE X e ta)(hb:Tp e f X.env (eval e X.env)=eval e X.env):PE X (.Attribute e f pos) (dk X.K ta f):=by
 intro pins s σ H Q I h
 refine Lm hb (cX (he pins s σ H _ I h) fun u s1 ⟨x,H1,I1,rx,a,C,dx,fs,v,ex,ea,c,n,l,q⟩=>?_)
 subst ex
 obtain rfl:u=QL a:=rx
 exact xg I1 ea c n l fun u' s2 I2 ru=>⟨v,H1,I2,ru,q⟩
theorem ip(ha:PE X o ta)(hv:PE X value tv)(hs:swapsWith value (some (.Attribute o f pos')) pos.line X.env=pure false):PS X (.Assign [.Attribute o f pos'] value pos) (sE X.K ta tv f):=by
 intro pins s σ H D I h
 refine plainObj_wpAny_Assign_Attribute (cX (hv pins s σ H _ I h) fun u s1 ⟨y,H1,I1,ry,q⟩=>cX (ha pins s1 σ H1 _ I1 q) fun ov s2 ⟨x,H2,I2,rx,a,C,dx,fs,ex,ea,c,n,l,q2⟩=>?_) hs
 subst ex
 obtain rfl:ov=QL a:=rx
 exact xW I2 ea c n l ry fun s3 I3=>⟨σ,_,I3,q2⟩
theorem i0{op:Operator}{rd:V->V->Hp->VK->Prop}(ha:PE X o ta)(hv:PE X value tv)(hop:MX X op rd):PS X (.AugAssign (.Attribute o f tpos) op value pos) (j4 X.K ta tv rd f):=by
 intro pins s σ H D I h
 refine wpAny_AugAssign_AttributeAny (cX (ha pins s σ H _ I h) fun ov s1 ⟨x,H1,I1,rx,a,C,dx,fs,v,ex,ea,c,n,l,q⟩=>?_)
 subst ex
 obtain rfl:ov=QL a:=rx
 refine xg I1 ea c n l fun u s2 I2 ru=>cX (hv pins s2 σ H1 _ I2 q) fun w3 s3 ⟨y,H2,I3,ry,q3⟩=>cX (hop pins s3 σ H2 v y u w3 _ I3 ru ry q3) fun w4 s4 ⟨z,H3,I4,rz,dx',fs',ea',l',q4⟩=>?_
 exact xW I4 ea' c n l' rz fun s5 I5=>⟨σ,_,I5,q4⟩
def Gx:V->V->Hp->VK->Prop:=fun x y H Q=>∃i j,x=.int i/\y=.int j/\Q (.int (i+j)) H
def O1:V->V->Hp->VK->Prop:=fun x y H Q=>∃i j,x=.int i/\y=.int j/\Q (.int (i-j)) H
theorem xV:MX X .Add Gx:=by
 rintro pins s σ H x y u v Q I rx ry ⟨i,j,rfl,rfl,q⟩
 obtain⟨t,rfl⟩:=(show ∃t,u=So i t from rx)
 obtain⟨t',rfl⟩:=(show ∃t',v=So j t' from ry)
 exact Zy ⟨.int (i+j),H,I.tok _,⟨_,rfl⟩,q⟩
theorem Mw:MX X .Sub O1:=by
 rintro pins s σ H x y u v Q I rx ry ⟨i,j,rfl,rfl,q⟩
 obtain⟨t,rfl⟩:=(show ∃t,u=So i t from rx)
 obtain⟨t',rfl⟩:=(show ∃t',v=So j t' from ry)
 exact Zp ⟨.int (i-j),H,I.tok _,⟨_,rfl⟩,q⟩
theorem L8{pl:Sem Bool}{m:Qg}{apos:QH}{args:List Qp}{pins:List (Qh×Qo)}{s:Qk}{σ:St}{H:Hp}{Q:Qi->Qk->Prop}{te:TE}(he:PE X e te)(I:Inv X pins σ H s)
  (h:te σ H fun x H1=>∃a C dx fs g,x=.ref a/\H1 a=some (.ins C dx fs)/\il X.K C/\G1 X.K C m g/\fs.lookup m=none/\
   ∀s1,Inv X pins σ H1 s1->Ql (model X.prog X.w) X.A (callWith pos (.ref g) [.ref a] (Q1 pos (Qx args X.env)) (Sg pos (Sf [] X.env))) Q X.xe s1)
  (ht:eval (.Call (.Attribute e m apos) args [] pos) X.env=(do
   let ov <-eval e X.env
   standAt apos.atName
   let (f,first) <-holding [ov] (Sw ov m pl)
   callWith pos f first (Q1 pos (Qx args X.env)) (Sg pos (Sf [] X.env)))):
  Ql (model X.prog X.w) X.A (eval (.Call (.Attribute e m apos) args [] pos) X.env) Q X.xe s:=by
 refine Vv (pl:=pl) (cX (he pins s σ H _ I h) fun u s1 ⟨x,H1,I1,rx,a,C,dx,fs,g,ex,ea,c,k,l,q⟩=>?_) ht
 subst ex
 obtain rfl:u=QL a:=rx
 exact k7 I1 ea c k l (q s1 I1)
end
section
variable {X:Cx}{pins:List (Qh×Qo)}{σ:St}{H:Hp}{s:Qk}{A:QF}{E:Qi->Qk->Prop}{Q:Qi->Qk->Prop}{c:Qi}{b:Bool}
end
structure dv(k:Nat)(A:QF):Prop where
 hd:A.handled=none
 dp:A.depth+3*k+5<recursionLimit
 un:A.units+16*k+200<cLine
theorem dv.mono{j k:Nat}{A:QF}(r:dv k A)(h:j<=k):dv j A:=⟨r.hd,by have:=r.dp;omega,by have:=r.un;omega⟩
theorem dv.deeper{k:Nat}{A:QF}(r:dv (k+1) A)(env:QP):dv k (A.deeper env):=
 ⟨r.hd,by have:=r.dp;show A.depth+1+3*k+5<_;omega,by have:=r.un;show A.units+3+16*k+200<_;omega⟩
theorem Ea{A:QF}{C:Qh}{us:List Qi}{kw:List (Qg×Qi)}:(A.under (.builtin "type.__call__" ⟨.ref C::us,kw⟩)).depth=A.depth+1:=by
 first|rfl|simp[WB,Code.weight,Code.isCreation,Code.isGuard,Code.isCaller,Yi,Wx,guardIds]
theorem ES{A:QF}{C:Qh}{us:List Qi}{kw:List (Qg×Qi)}:(A.under (.builtin "type.__call__" ⟨.ref C::us,kw⟩)).units=A.units+1:=by
 first|rfl|simp[WB,Code.cUnits,Yi,Wx]
theorem dv.make{k:Nat}{A:QF}(r:dv (k+1) A)(C:Qh)(us:List Qi)(kw:List (Qg×Qi)):dv k (A.under (.builtin "type.__call__" ⟨.ref C::us,kw⟩)):=
 ⟨r.hd,by have:=r.dp;rw[Ea];omega,by have:=r.un;rw[ES];omega⟩
theorem dv.depth{k:Nat}{A:QF}(r:dv k A):A.depth<recursionLimit:=by have:=r.dp;omega
theorem dv.units{k:Nat}{A:QF}(r:dv k A):A.units+64<cLine:=by have:=r.un;omega
def au:TA:=fun _ H Q=>Q [] H
def ae(ta:TE)(tr:TA):TA:=fun σ H Q=>ta σ H fun x H1=>tr σ H1 fun xs H2=>Q (x::xs) H2
section
variable {X:Cx}{e:Qp}{es:List Qp}{te:TE}{t:TA}{pos:QH}
theorem ag:PA X [] au:=fun _ _ _ _ H Q I h=>V9 ⟨[],H,I,.nil,h⟩
theorem aa(ha:PE X e te)(hr:PA X es t)(hs:Qx (e::es) X.env=(false,eval e X.env)::Qx es X.env:=by rfl):PA X (e::es) (ae te t):=by
 intro pos pins s σ H Q I h
 rw[hs]
 show Ql _ _ (spliced ((false,eval e X.env)::Q1 pos (Qx es X.env))) _ _ s
 refine VP (cX (ha pins s σ H _ I h) fun u s1 ⟨x,H1,I1,r1,q1⟩=>?_)
 exact cX (hr pos pins s1 σ H1 _ I1 q1) fun us s2 ⟨xs,H2,I2,r2,q2⟩=>⟨x::xs,H2,I2,.cons r1 r2,q2⟩
def kg(t:TA):TE:=fun σ H Q=>t σ H fun xs H1=>xs.length<=Qr/\∀p,H1 p=none->Q (.ref p) (upd H1 p (.tup xs))
def fK(t:TA):TE:=fun σ H Q=>t σ H fun xs H1=>xs.length<=Qr/\∀p,H1 p=none->Q (.ref p) (upd H1 p (.lst xs))
theorem dN{x1}(h:PA X es t):PE X (.Tuple es x1 pos) (kg t):=by
 intro pins s σ H Q I hq
 refine wpAny_Tuple_spliced (cX (h pos pins s σ H _ I hq) fun us s1 ⟨xs,H1,I1,r,z,q⟩=>⟨by rw[<-r.length];exact z,?_⟩)
 have hf:H1 s1.heap.objs.size=none:=I1.hok.fresh (QC _)
 refine⟨.ref s1.heap.objs.size,upd H1 s1.heap.objs.size (.tup xs),I1.laid (t':=s1.toks) (fun b u e=>QS _ e) (QC _) ?_,rfl,q _ hf⟩
 exact⟨z,us,r,⟨_,QX _ rfl,rfl,_,rfl⟩⟩
theorem cO(h:PA X es t):PE X (.List es pos) (fK t):=by
 intro pins s σ H Q I hq
 refine wpAny_List_spliced (cX (h pos pins s σ H _ I hq) fun us s1 ⟨xs,H1,I1,r,z,q⟩=>⟨by rw[<-r.length];exact z,?_⟩)
 have hf:H1 s1.heap.objs.size=none:=I1.hok.fresh (QC _)
 refine⟨.ref s1.heap.objs.size,upd H1 s1.heap.objs.size (.lst xs),I1.laid (t':=s1.toks) (fun b u e=>QS _ e) (QC _) ?_,rfl,q _ hf⟩
 exact⟨z,us,0,r,QX _ rfl⟩
end
abbrev Sp:=List V->Hp->VK->XK->Prop
abbrev GU:=List QP->Hp->Qk->XK->Qi->Qk->Prop
structure Ft(P:Qy)(w:Qv)(K:Qj)(mg:Qg->Option Qi)(base:Qq)(A:QF)(outer:List QP)(s:Qk)(H:Hp):Prop where
 frames:A.frames=some outer
 mod:Mod K mg base
 bs:∀b o,base.get? b=some o->s.heap.get? b=some o/\H b=none
 bsz:base.objs.size<=s.heap.objs.size
 funs:s.heap.FunFrames base outer
 frf:∀b∈AS outer,H b=none
 hok:pB P w H s.heap
 bare:Su s.gens
def CE(outer:List QP)(P:Qy)(w:Qv)(H:Hp)(s:Qk)(Q:VK)(u:Qi)(s':Qk):Prop:=
 ∃v H',s'.os=s.os/\Su s'.gens/\Un (AS outer) [] H H' s.heap s'.heap/\pB P w H' s'.heap/\RelV v u/\Q v H'
def CR(CX:GU)(outer:List QP)(P:Qy)(w:Qv)(H:Hp)(s:Qk)(Q:VK)(E:XK)(r:Result)(s':Qk):Prop:=
 match r with
 |.ok (.ret u)=>CE outer P w H s Q u s'
 |.ok _=>False
 |.error e=>CX outer H s E e s'
structure nj(P:Qy)(w:Qv)(K:Qj)(mg:Qg->Option Qi)(base:Qq)(CX:GU)(k:Nat)(f:Qh)(fd:R1)(ps:List Qg)(sp:Sp):Prop where
 len:∀vs H Q E,sp vs H Q E->vs.length=ps.length
 run:∀(A:QF)(outer:List QP)(s:Qk)(H:Hp)(args:Args)(us:List Qi)(vs:List V)(Q:VK)(E:XK),dv k A->Ft P w K mg base A outer s H->BindsTo s fd args (ps.zip us)->cu vs us->sp vs H Q E->
  Sj (model P w) A (.call (.ref f) args) (CR CX outer P w H s Q E) s
theorem Ft.make{P:Qy}{w:Qv}{K:Qj}{mg:Qg->Option Qi}{base:Qq}{A:QF}{outer:List QP}{s:Qk}{H:Hp}(e:Ft P w K mg base A outer s H)(C:Qh)(us:List Qi)(kw:List (Qg×Qi)):
  Ft P w K mg base (A.under (.builtin "type.__call__" ⟨.ref C::us,kw⟩)) outer s H:=⟨by first|exact e.frames|(simpa[WB,Code.envs,Wx,pushEnvs]using e.frames),e.mod,e.bs,e.bsz,e.funs,e.frf,e.hok,e.bare⟩
section
variable {X:Cx}{pins:List (Qh×Qo)}{σ:St}{H:Hp}{s s':Qk}
theorem Inv.env0(I:Inv X pins σ H s):Ft X.prog X.w X.K X.mg X.base X.A X.stack s H:=
 ⟨I.ok.frames,I.ok.mod,I.bs,Qt I.ok.bsz I.sz,I.stack,I.stkFree,I.hok,I.bare⟩
theorem Inv.after{Q:VK}{u:Qi}(I:Inv X pins σ H s)(h:CE X.stack X.prog X.w H s Q u s'):EP X pins σ Q u s':=by
 obtain⟨v,H',os,bare,un,hok,r,q⟩:=h
 obtain⟨hh,g,d,t,os'⟩:=s'
 obtain rfl:os'=s.os:=os
 exact⟨v,H',I.call (h':=hh) (g':=g) (d':=d) (t':=t) (ch:=[]) un hok bare (fun b z=>absurd z ⋯),r,q⟩
end
def aO(sp:Sp)(dvs:List V)(E:XK)(t:TA):TE:=fun σ H Q=>t σ H fun vs H1=>sp (vs++dvs) H1 Q E
def bP(C:Qh)(m:Qg)(sp:Sp)(dvs:List V)(E:XK)(ta:TE)(t:TA):TE:=fun σ H Q=>ta σ H fun x H1=>∃a dx fs,x=.ref a/\H1 a=some (.ins C dx fs)/\fs.lookup m=none/\
 t σ H1 fun vs H2=>sp (x::(vs++dvs)) H2 Q E
def zx(C:Qh)(sp:Sp)(dvs:List V)(E:XK)(t:TA):TE:=fun σ H Q=>t σ H fun vs H1=>∀x dx,H1 x=none->H1 dx=none->dx≠x->
 sp (.ref x::(vs++dvs)) (upd (upd H1 dx (.own x)) x (.ins C dx [])) (fun v H2=>v=.non/\Q (.ref x) H2) E
def Binds(K:Qj)(fd:R1)(ps:List Qg)(ds:List Qi):Prop:=
 ∀(s:Qk)(us:List Qi),K.In s.heap->(us++ds).length=ps.length->BindsTo s fd ⟨us,[]⟩ (ps.zip (us++ds))
theorem Binds.all{K:Qj}{fd:R1}{ps:List Qg}(h:∀us:List Qi,us.length=ps.length->bindArgs fd ⟨us,[]⟩=pure (ps.zip us)):Binds K fd ps []:=fun s us _ hl=>by
 rw[UL]at hl ⊢
 exact .of_eq (h us hl)
def ml(CX:GU)(X:Cx)(E:XK):Prop:=∀(pins:List (Qh×Qo))(σ:St)(H:Hp)(s:Qk)(e:Qi)(s':Qk),Inv X pins σ H s->CX X.stack H s E e s'->X.xe e s'
section
variable {X:Cx}{CX:GU}{k:Nat}{f C:Qh}{fd:R1}{ps:List Qg}{sp:Sp}{dvs:List V}{ds:List Qi}{E:XK}{x m:Qg}{p pos apos:QH}{e o:Qp}{es:List Qp}{ta:TE}{t:TA}
theorem Fd{pins:List (Qh×Qo)}{σ:St}{H:Hp}{s:Qk}{Q:VK}{us:List Qi}{vs:List V}(F:nj X.prog X.w X.K X.mg X.base CX k f fd ps sp)(hr:dv k X.A)(hb:Binds X.K fd ps ds)(hd:cu dvs ds)(hx:ml CX X E)
  (I:Inv X pins σ H s) (r:cu vs us) (h:sp (vs++dvs) H Q E):Ql (model X.prog X.w) X.A (call (.ref f) us) (EP X pins σ Q) X.xe s:=by
 have r2:cu (vs++dvs) (us++ds):=r.append hd
 have hl:(us++ds).length=ps.length:=by rw[<-r2.length];exact F.len _ _ _ _ h
 refine wpAny_call (codeAny_mono (F.run X.A X.stack s H ⟨us,[]⟩ (us++ds) (vs++dvs) Q E hr I.env0 (hb s us I.kIn hl) r2 h) fun r s' hq=>?_)
 cases r with
 |error e=>exact hx pins σ H s e s' I hq
 |ok fl=>
  cases fl with
  |ret u=>exact I.after hq
  |next=>exact RG hq
  |brk=>exact RG hq
  |cont=>exact RG hq
theorem FR(F:nj X.prog X.w X.K X.mg X.base CX k f fd ps sp)(hr:dv k X.A)(hg:Gl X x)(hm:X.mg x=some (.ref f))(hk:R9 X.K (.ref f)=true)(hb:Binds X.K fd ps ds)(hd:cu dvs ds)(hx:ml CX X E)
  (ha:PA X (e::es) t) (hdb:(x==("__debug__":Qg))=false:=by decide) (he:Qx (e::es) X.env=(false,eval e X.env)::Qx es X.env:=by rfl) (hpl:(Q1 pos (Qx es X.env)).any (·.1)=false:=by rfl):
  PE X (.Call (.Name x p) (e::es) [] pos) (aO sp dvs E t):=by
 intro pins s σ H Q I h
 refine UC (lV I hg hm ?_ hdb)
 refine U3 (h₀:=X.base) I.ok.mod.kin hk (cX (ha pos pins s σ H _ I h) fun us s1 ⟨vs,H1,I1,r,q⟩=>⟨I1.kIn,?_⟩) he hpl
 exact Fd F hr hb hd hx I1 r q
theorem A9{pl:Sem Bool}(he:PE X o ta)(c:il X.K C)(hm:G1 X.K C m f)(F:nj X.prog X.w X.K X.mg X.base CX k f fd ps sp)(hr:dv k X.A)(hb:Binds X.K fd ps ds)(hd:cu dvs ds)(hx:ml CX X E)(ha:PA X (e::es) t)
  (hst:Qx (e::es) X.env=(false,eval e X.env)::Qx es X.env:=by rfl) (hpl:(Q1 pos (Qx es X.env)).any (·.1)=false:=by rfl)
  (ht:eval (.Call (.Attribute o m apos) (e::es) [] pos) X.env=(do
   let ov <-eval o X.env
   standAt apos.atName
   let (f,first) <-holding [ov] (Sw ov m pl)
   callWith pos f first (Q1 pos (Qx (e::es) X.env)) (Sg pos (Sf [] X.env))):=by rfl):
  PE X (.Call (.Attribute o m apos) (e::es) [] pos) (bP C m sp dvs E ta t):=by
 intro pins s σ H Q I h
 refine Vv (pl:=pl) (cX (he pins s σ H _ I h) fun u s1 ⟨x,H1,I1,rx,a,dx,fs,ex,ea,l,q⟩=>?_) ht
 subst ex
 obtain rfl:u=QL a:=rx
 refine k7 I1 ea c hm l ?_
 refine U3 (first:=[.ref a]) (h₀:=X.base) I.ok.mod.kin hm.kp (cX (ha pos pins s1 σ H1 _ I1 q) fun us s2 ⟨vs,H2,I2,r,q2⟩=>⟨I2.kIn,?_⟩) hst hpl
 exact Fd (us:=.ref a::us) (vs:=.ref a::vs) F hr hb hd hx I2 (.cons rfl r) q2
theorem JL{pl:Sem Bool}(he:PE X o ta)(c:il X.K C)(hm:G1 X.K C m f)(F:nj X.prog X.w X.K X.mg X.base CX k f fd ps sp)(hr:dv k X.A)(hb:Binds X.K fd ps ds)(hd:cu dvs ds)(hx:ml CX X E)
  (ht:eval (.Call (.Attribute o m apos) [] [] pos) X.env=(do
   let ov <-eval o X.env
   standAt apos.atName
   let (f,first) <-holding [ov] (Sw ov m pl)
   callWith pos f first (Q1 pos (Qx [] X.env)) (Sg pos (Sf [] X.env))):=by rfl):
  PE X (.Call (.Attribute o m apos) [] [] pos) (bP C m sp dvs E ta au):=by
 intro pins s σ H Q I h
 refine Vv (pl:=pl) (cX (he pins s σ H _ I h) fun u s1 ⟨x,H1,I1,rx,a,dx,fs,ex,ea,l,q⟩=>?_) ht
 subst ex
 obtain rfl:u=QL a:=rx
 refine k7 I1 ea c hm l ?_
 exact WV (first:=[.ref a]) I1.kIn hm.kp (Fd (us:=[.ref a]) (vs:=[.ref a]) F hr hb hd hx I1 (.cons rfl .nil) q)
structure Mk(K:Qj)(C f:Qh):Prop where
 makes:VB K C=true
 init:Rv K (.ref C) "__init__"=some (some (.ref f))
 fn:Vz K (.ref f)=true
 kp:R9 K (.ref C)=true
theorem Iz{pins:List (Qh×Qo)}{σ:St}{H:Hp}{s:Qk}{Q:VK}{us:List Qi}{vs:List V}(M:Mk X.K C f)(F:nj X.prog X.w X.K X.mg X.base CX k f fd ps sp)(hr:dv (k+1) X.A)(hb:Binds X.K fd ps ds)(hd:cu dvs ds)
  (hx:ml CX X E) (I:Inv X pins σ H s) (r:cu vs us)
  (h:∀x dx,H x=none->H dx=none->dx≠x->sp (.ref x::(vs++dvs)) (upd (upd H dx (.own x)) x (.ins C dx [])) (fun v H2=>v=.non/\Q (.ref x) H2) E):
  Ql (model X.prog X.w) X.A (call (.ref C) us) (EP X pins σ Q) X.xe s:=by
 have hq:=h (s.heap.objs.size+1) s.heap.objs.size (I.hok.fresh (RM _)) (I.hok.fresh (QC _)) (QV (Vi _))
 have I2:=Inv.made (C:=C) I
 have r2:cu (V.ref (s.heap.objs.size+1)::(vs++dvs)) (QL (s.heap.objs.size+1)::(us++ds)):=.cons rfl (r.append hd)
 have hl:(QL (s.heap.objs.size+1)::us++ds).length=ps.length:=by
  have e:=r2.length
  rw[F.len _ _ _ _ hq]at e
  exact e.symm
 refine wpAny_call (Kb (f:=f) I.kIn M.makes M.init (beq_iff_eq.mp M.fn) (codeAny_mono (F.run _ X.stack _ _ ⟨QL (s.heap.objs.size+1)::us,[]⟩ (QL (s.heap.objs.size+1)::(us++ds)) _ _ E (hr.make C us [])
  (I2.env0.make C us []) (hb _ (QL (s.heap.objs.size+1)::us) I2.kIn hl) r2 hq) fun r s' hq'=>?_))
 cases r with
 |error e=>exact hx pins σ _ _ e s' I2 hq'
 |ok fl=>
  cases fl with
  |ret u=>
   obtain⟨v,H',I3,rv,ev,q3⟩:=I2.after hq'
   subst ev
   exact⟨rv,⟨V.ref (s.heap.objs.size+1),H',I3,rfl,q3⟩⟩
  |next=>exact RG hq'
  |brk=>exact RG hq'
  |cont=>exact RG hq'
theorem Ka(M:Mk X.K C f)(F:nj X.prog X.w X.K X.mg X.base CX k f fd ps sp)(hr:dv (k+1) X.A)(hg:Gl X x)(hm:X.mg x=some (.ref C))(hb:Binds X.K fd ps ds)(hd:cu dvs ds)(hx:ml CX X E)
  (hdb:(x==("__debug__":Qg))=false:=by decide):PE X (.Call (.Name x p) [] [] pos) (zx C sp dvs E au):=by
 intro pins s σ H Q I h
 refine UC (lV I hg hm ?_ hdb)
 exact WV I.kIn M.kp (Iz (us:=[]) M F hr hb hd hx I .nil h)
end
section
variable {X:Cx}{CX:GU}{k:Nat}{f C:Qh}{fd:R1}{ps ks:List Qg}{sp:Sp}{E:XK}{x m:Qg}{p pos apos kpos:QH}{e o:Qp}{es:List Qp}{kws:List Keyword}{te ta:TE}{t tk:TA}{nm:Option Qg}
variable {g:List Qi->List Qi->List Qi}{gV:List V->List V->List V}
end
structure aC(N P:List Qg)(sc:Rh):Prop where
 kind:sc.kind=.function
 co:sc.isCoroutine=false
 gen:sc.isGenerator=false
 nd:N.Nodup
 pre:N.take P.length=P
 par:∀x∈P,sc.names.lookup x=some .local\/sc.names.lookup x=some .cell
 nofree:∀y∈sc.names,y.2≠.free
theorem zV{RW:Qg->Option Ru}{x:Qg}:∀{binds:List (Qg×Qi)}{m:Qg->Option Qi},(∀v,(x,v)∉binds)->bindL RW binds m x=m x
 |[],_,_=>rfl
 |(n,v)::r,m,h=>by
  unfold bindL
  rw[zV fun w hw=>h w (Q2 _ hw)]
  split
  ·have:x≠n:=by rintro rfl;exact h v Ri
   simp[this]
  ·rfl
theorem Ab{RW:Qg->Option Ru}{x:Qg}:∀{binds:List (Qg×Qi)}{m:Qg->Option Qi},(∀v,(x,v)∉binds)->bindC RW binds m x=m x
 |[],_,_=>rfl
 |(n,v)::r,m,h=>by
  unfold bindC
  rw[Ab fun w hw=>h w (Q2 _ hw)]
  split
  ·rfl
  ·have:x≠n:=by rintro rfl;exact h v Ri
   simp[this]
theorem zK{RW:Qg->Option Ru}{x:Qg}{v:Qi}:∀{P:List Qg}{vs:List Qi}{i:Nat}{m:Qg->Option Qi},P.Nodup->P[i]?=some x->vs[i]?=some v->RW x=some .local->
  bindL RW (P.zip vs) m x=some v
 |[],_,_,_,_,h,_,_=>by simp at h
 |_::_,[],_,_,_,_,h,_=>by simp at h
 |p::P,w::vs,0,m,nd,h1,h2,hk=>by
  simp at h1 h2;subst h1;subst h2
  show bindL RW ((p,w)::P.zip vs) m p=_
  unfold bindL
  rw[zV fun v hv=>(Sb.mp nd).1 (UD hv).1,if_pos hk]
  simp
 |p::P,w::vs,i+1,m,nd,h1,h2,hk=>by
  show bindL RW ((p,w)::P.zip vs) m x=_
  unfold bindL
  exact zK (i:=i) (Sb.mp nd).2 (by simpa using h1) (by simpa using h2) hk
theorem zO{RW:Qg->Option Ru}{x:Qg}{v:Qi}:∀{P:List Qg}{vs:List Qi}{i:Nat}{m:Qg->Option Qi},P.Nodup->P[i]?=some x->vs[i]?=some v->RW x≠some .local->
  bindC RW (P.zip vs) m x=some v
 |[],_,_,_,_,h,_,_=>by simp at h
 |_::_,[],_,_,_,_,h,_=>by simp at h
 |p::P,w::vs,0,m,nd,h1,h2,hk=>by
  simp at h1 h2;subst h1;subst h2
  show bindC RW ((p,w)::P.zip vs) m p=_
  unfold bindC
  rw[Ab fun v hv=>(Sb.mp nd).1 (UD hv).1,if_neg hk]
  simp
 |p::P,w::vs,i+1,m,nd,h1,h2,hk=>by
  show bindC RW ((p,w)::P.zip vs) m x=_
  unfold bindC
  exact zO (i:=i) (Sb.mp nd).2 (by simpa using h1) (by simpa using h2) hk
def start(N:List Qg)(vs:List V):St:=vs.map some++UX (N.length-vs.length) none
noncomputable def cJ(CX:GU)(P:Qy)(w:Qv)(K:Qj)(mg:Qg->Option Qi)(base:Qq)(N:List Qg)(qual:Qg)(scope:Rh)(f:Qh)(cd:Qi)(A:QF)(outer:List QP)(s:Qk)(H:Hp)(E:XK):Cx where
 prog:=P
 w:=w
 K:=K
 mg:=mg
 base:=base
 A:=A.deeper (Rt qual scope s.heap.objs.size f cd)
 N:=N
 s₀:=s
 H₀:=H
 env:=Rt qual scope s.heap.objs.size f cd
 outer:=outer
 stack:=Rt qual scope s.heap.objs.size f cd::outer
 ex:=[]
 calm:=true
 fn:=fun _=>true
 pn:=[]
 xe:=fun e s'=>Ql (model P w) (A.deeper (Rt qual scope s.heap.objs.size f cd)) (leaving (Rt qual scope s.heap.objs.size f cd) e) (fun _ s''=>CX outer H s E e s'') (fun e' s''=>CX outer H s E e' s'') s'
theorem CQ{sc:Rh}{n:Nat}{x:Qg}(h:sc.names.lookup x=some .cell):∃c,(Rq n sc.names []).lookup x=some c:=by
 have q:=YB sc.names n [] (.inl h)
 exact Wo.mp q
theorem HQ{CX:GU}{P:Qy}{w:Qv}{K:Qj}{mg:Qg->Option Qi}{base:Qq}{N ps:List Qg}{qual:Qg}{scope:Rh}{f:Qh}{cd:Qi}{A:QF}{outer:List QP}{s s1:Qk}{H:Hp}{E:XK}{us:List Qi}{vs:List V}
  (S:aC N ps scope) (hd:A.handled=none) (e0:Ft P w K mg base A outer s H) (hl:vs.length=ps.length) (r:cu vs us)
  (x:InCallC s s.heap.objs.size (bindL (Rt qual scope s.heap.objs.size f cd).kindOf (ps.zip us) fun _=>none) (Rq (s.heap.objs.size+1) scope.names []) (bindC (Rt qual scope s.heap.objs.size f cd).kindOf (ps.zip us) fun _=>none) s1):
  Inv (cJ CX P w K mg base N qual scope f cd A outer s H E) [] (start N vs) H s1:=by
 have hpl:ps.length<=N.length:=by have:=congrArg U9 S.pre;rw[Rw]at this;omega
 obtain⟨h1,tk,rfl,hk⟩:=x.done
 have noA:∀b:Qh,b∉(cJ CX P w K mg base N qual scope f cd A outer s H E).ex:=fun b z=>absurd (show b∈([]:List Qh)from z) ⋯
 refine⟨⟨e0.mod,S.kind,rfl,rfl,QC _,fun y z c h1 h2=>?_,fun y hy=>?_,fun y c _ h=>?_,fun _=>hd,Around.frames_deeper e0.frames,.inr ⟨rfl,rfl⟩,fun b z=>absurd z (noA b),e0.bs,e0.bsz,fun b _ _=>noA b,fun b z=>absurd z (noA b),e0.funs,e0.frf⟩,
  rfl,e0.bare,Un.kept hk,⟨_,x.toInCall.ns,fun i y v h1 h2 h3=>?_⟩,fun y c h=>⟨_,x.cell y c h⟩,e0.hok.fresh (QC _),fun y c h=>?_,fun p hp=>absurd (show p∈([]:List (Qh×Qo))from hp) ⋯,e0.hok.kept hk,?_⟩
 ·exact name_of_addr x.apart (UE h1) (UE h2)
 ·have hy:scope.names.lookup y=some .cell\/scope.names.lookup y=some .free:=hy
  rcases hy with hy|hy
  ·exact CQ hy
  ·exact absurd rfl (S.nofree _ (UE hy))
 ·exact SA (x.above y c (UE h))
 ·have hi:i<vs.length:=by
   unfold start at h2
   by_cases hi:i<vs.length
   ·exact hi
   ·rw[TV (by simpa using hi)]at h2
    rw[List.getElem?_replicate]at h2
    split at h2<;>cases h2
  have ha:vs[i]?=some v:=by
   unfold start at h2
   rw[S6 (by simpa using hi),SM]at h2
   cases e:vs[i]? with
   |none=>rw[e]at h2;cases h2
   |some a=>rw[e]at h2;cases h2;rfl
  obtain⟨u,hu,rv⟩:=r.get ha
  have hp:ps[i]?=some y:=by
   rw[<-S.pre,List.getElem?_take_of_lt (by omega)];exact h1
  have ndP:ps.Nodup:=by rw[<-S.pre];exact S.nd.sublist (List.take_sublist _ _)
  exists u,rv
  rcases S.par y (SH hp)with k|k
  ·exact .inl ⟨k,zK ndP hp hu k⟩
  ·obtain⟨c,e⟩:=CQ (n:=s.heap.objs.size+1) k
   refine .inr ⟨.inl k,c,e,?_⟩
   have q:=x.cell y c e
   rw[zO ndP hp hu (by show scope.names.lookup y≠_;rw[k];decide)]at q
   exact q
 ·exact e0.hok.fresh (SA (x.above y c (UE h)))
 ·unfold start
  show _=N.length
  rw[Rz,Qw,List.length_replicate]
  omega
theorem Mf{CX:GU}{P:Qy}{w:Qv}{K:Qj}{mg:Qg->Option Qi}{base:Qq}{k:Nat}{f:Qh}{name qual:Qg}{params:Arguments}{body:List Qs}{scope:Rh}{dV kV doc pm cdv ct oc:Qi}{an od:Option Qh}
  {osl:Array (Option Qi)}{N ps:List Qg}{sp:Sp} (lk:K.lookup f=some ⟨oc,od,.func (SD name qual params body scope dV kV doc pm an cdv ct),osl⟩) (hcd:UT K cdv qual=true) (S:aC N ps scope)
  (len:∀vs H Q E,sp vs H Q E->vs.length=ps.length)
  (hbody:∀(A:QF)(outer:List QP)(s:Qk)(H:Hp)(vs:List V)(Q:VK)(E:XK),dv k (A.deeper (Rt qual scope s.heap.objs.size f cdv))->sp vs H Q E->
   ∃t,xc (cJ CX P w K mg base N qual scope f cdv A outer s H E) body t/\t {nx:=fun _ H'=>Q .non H',rt:=Q} (start N vs) H):
  nj P w K mg base CX (k+1) f (SD name qual params body scope dV kV doc pm an cdv ct) ps sp:=by
 refine⟨len,fun A outer s H args us vs Q E hr e0 hb r hsp=>?_⟩
 have hl:=len _ _ _ _ hsp
 have KX:K.In s.heap:=e0.mod.kin.keeps fun b o e=>(e0.bs b o e).1
 have lim:s.heap.NoLimit:=e0.mod.nolimit.keeps fun b o e=>(e0.bs b o e).1
 have hkind:∀y∈ps.zip us,scope.names.lookup y.1=some .local\/(scope.names.lookup y.1=some .cell/\((Rq (s.heap.objs.size+1) scope.names []).lookup y.1).isSome=true):=fun ⟨n,v⟩ hy=>by
  rcases S.par n (UD hy).1 with q|q
  ·exact .inl q
  ·exact .inr ⟨q,YB _ _ _ (.inl q)⟩
 refine codeAny_call_function hr.depth (KX _ _ lk) rfl S.co S.gen rfl (aaf KX hcd) (hb _ _ _ _ ?_)
 refine wpAny_newFunctionEnv_cells S.kind hkind fun env he s1 x=>?_
 subst he
 refine⟨lim.keeps x.toInCall.keep,codeAny_func ?_⟩
 obtain⟨t,ht,hq⟩:=hbody A outer s H vs Q E (hr.deeper _) hsp
 have I:Inv (cJ CX P w K mg base N qual scope f cdv A outer s H E) [] (start N vs) H s1:=HQ S hr.hd e0 hl r x
 refine Rl (ht [] s1 (start N vs) H _ I hq) (fun fl s' hs=>?_) fun e s' hs=>hs
 have fin:∀{σ':St}{H':Hp}{v:V}{u:Qi},Inv (cJ CX P w K mg base N qual scope f cdv A outer s H E) [] σ' H' s'->RelV v u->Q v H'->CE outer P w H s Q u s':=
  fun {σ' H' v u} J rv q=>⟨v,H',J.os,J.bare,J.base,J.hok,rv,q⟩
 cases fl with
 |ret u=>
  obtain⟨v,σ',H',J,rv,q⟩:=hs
  exact fin J rv q
 |next=>
  obtain⟨σ',H',J,q⟩:=hs
  exact fin (v:=V.non) (u:=RC) J rfl q
 |brk=>
  obtain⟨_,_,_,q⟩:=hs
  exact RG q
 |cont=>
  obtain⟨_,_,_,q⟩:=hs
  exact RG q
section
variable {X:Cx}{x:Qg}{p pos:QH}{e:Qp}{es:List Qp}{t:TA}{id T:String}{r:List V->Hp->VK->Prop}
def eX(r:List V->Hp->VK->Prop)(t:TA):TE:=fun σ H Q=>t σ H fun vs H1=>r vs H1 Q
theorem bf(hc:d4 X (.builtin id) r)(hg:Gl X x)(hm:X.mg x=none)(hv:T8 x=some (.builtin id))(ha:PA X (e::es) t)(hn:x≠"__name__":=by decide)(hdb:(x==("__debug__":Qg))=false:=by decide)
  (he:Qx (e::es) X.env=(false,eval e X.env)::Qx es X.env:=by rfl) (hpl:(Q1 pos (Qx es X.env)).any (·.1)=false:=by rfl):PE X (.Call (.Name x p) (e::es) [] pos) (eX r t):=by
 intro pins s σ H Q I h
 refine UC (kh I hg hm hv ?_ hn hdb)
 exact Zr (cX (ha pos pins s σ H _ I h) fun us s1 ⟨vs,H1,I1,r1,q1⟩=>hc pins s1 σ H1 vs us Q I1 r1 q1) he hpl
theorem bR(hc:d4 X (.type T) r)(hg:Gl X x)(hm:X.mg x=none)(hv:T8 x=some (.type T))(ha:PA X (e::es) t)(hn:x≠"__name__":=by decide)(hdb:(x==("__debug__":Qg))=false:=by decide)
  (he:Qx (e::es) X.env=(false,eval e X.env)::Qx es X.env:=by rfl) (hpl:(Q1 pos (Qx es X.env)).any (·.1)=false:=by rfl):PE X (.Call (.Name x p) (e::es) [] pos) (eX r t):=by
 intro pins s σ H Q I h
 refine UC (kh I hg hm hv ?_ hn hdb)
 exact Td (cX (ha pos pins s σ H _ I h) fun us s1 ⟨vs,H1,I1,r1,q1⟩=>hc pins s1 σ H1 vs us Q I1 r1 q1) he hpl
end
end L2
namespace HT
open PySem PyProof.Rows
section
open PySem.SeqAt
open PySem.AutoSeq1 (wpAny_loadPart')
open PySem.MeetsSeq PySem.MeetsSeq2 PySem.MeetsSeq3
end
section
variable {prog:Qy}{w:Qv}{A:QF}{E:Qi->Qk->Prop}{s:Qk}
def Ad(n d:Nat):Option Int->Nat
 |none=>d
 |some v=>if v<0 then(v+(n:Int)).toNat else min v.toNat n
theorem Jy(n d:Nat):Ad n d none=d:=rfl
theorem BD(n d k:Nat):Ad n d (some (k:Int))=min k n:=by
 show(if(k:Int)<0 then((k:Int)+(n:Int)).toNat else min (k:Int).toNat n)=min k n
 rw[if_neg (by omega),VY]
end
end HT
namespace L2
open PySem PySem.Spec PyProof.Rows
abbrev TO:=St->Hp->(Option Int->Hp->Prop)->Prop
noncomputable def PO(X:Cx)(e:Option Qp)(t:TO):Prop:=
 ∀(pins:List (Qh×Qo))(s:Qk)(σ:St)(H:Hp)(Q:Option Int->Hp->Prop),Inv X pins σ H s->t σ H Q->
  Ql (model X.prog X.w) X.A (evalPart e X.env) (fun u s'=>∃o H',Inv X pins σ H' s'/\IsPart u o/\Q o H') X.xe s
def hJ:TO:=fun _ H Q=>Q none H
def jV(t:TE):TO:=fun σ H Q=>t σ H fun x H1=>∃i,x=.int i/\Q (some i) H1
theorem intsAre_of{ns:List Int}:∀{us:List Qi},cu (ns.map V.int) us->Ta us ns:=by
 induction ns with
 |nil=>intro us r;rw[Tq]at r;cases r;exact .nil
 |cons n ns ih=>
  intro us r
  rw[QW]at r
  cases r with
  |cons r1 r2=>
   obtain⟨t,e⟩:=r1
   subst e
   exact .cons n t (ih r2)
section
variable {X:Cx}{e:Qp}{te:TE}{lo hi:Option Qp}{tl th:TO}{pos p2:QH}
theorem j2:PO X none hJ:=by
 intro pins s σ H Q I h
 rw[evalPart_none]
 exact QG ⟨none,H,I,.none,h⟩
theorem fg(h:PE X e te):PO X (some e) (jV te):=by
 intro pins s σ H Q I hw
 rw[evalPart_some]
 refine cX (h pins s σ H _ I hw) fun u s1 ⟨x,H1,I1,r1,q1⟩=>?_
 obtain⟨i,rfl,q⟩:=q1
 obtain⟨t,rfl⟩:=r1
 exact⟨some i,H1,I1,.int i t,q⟩
noncomputable def P4(X:Cx)(r:V->Option Int->Option Int->Hp->VK->Prop):Prop:=
 ∀(pins:List (Qh×Qo))(s:Qk)(σ:St)(H:Hp)(x:V)(v vl vu:Qi)(lo hi:Option Int)(sl:Qh)(Q:VK),Inv X pins σ H s->RelV x v->s.heap.IsSliceOf sl vl vu .none->IsPart vl lo->IsPart vu hi->r x lo hi H Q->
  ∃T id,UJ (.type T) "__getitem__"=pure (some (.builtin id))/\s.TypeIs v T/\Ql (model X.prog X.w) X.A (getItem v (.ref sl)) (EP X pins σ Q) X.xe s
def Ik(r:V->Option Int->Option Int->Hp->VK->Prop)(te:TE)(tl th:TO):TE:=fun σ H Q=>te σ H fun x H1=>tl σ H1 fun l H2=>th σ H2 fun u H3=>r x l u H3 Q
theorem eW{r:V->Option Int->Option Int->Hp->VK->Prop}(hr:P4 X r)(he:PE X e te)(hl:PO X lo tl)(hu:PO X hi th):PE X (.Subscript e (.Slice lo hi none p2) pos) (Ik r te tl th):=by
 intro pins s σ H Q I h
 refine Subscript_ (cX (he pins s σ H _ I h) fun v s1 ⟨x,H1,I1,r1,q1⟩=>?_)
 refine wpAny_Slice (cX (hl pins s1 σ H1 _ I1 q1) fun vl s2 ⟨l,H2,I2,pl,q2⟩=>cX (hu pins s2 σ H2 _ I2 q2) fun vu s3 ⟨u,H3,I3,pu,q3⟩=>?_)
 rw[evalPart_none]
 refine QG ?_
 have I4:Inv X pins σ H3 {s3 with heap:=s3.heap.push {cls:=.type "slice",data:=.fields #[vl,vu,.none]}}:=I3.kept (t':=s3.toks) fun b ob q=>QS _ q
 obtain⟨T,id,hT,ht,hg⟩:=hr pins {s3 with heap:=s3.heap.push {cls:=.type "slice",data:=.fields #[vl,vu,.none]}} σ H3 x v vl vu l u s3.heap.objs.size Q I4 r1 (aaV ..) pl pu q3
 show Ql (model X.prog X.w) X.A (subscriptTail e (.Slice lo hi none p2) v (.ref s3.heap.objs.size)) (EP X pins σ Q) X.xe {s3 with heap:=s3.heap.push {cls:=.type "slice",data:=.fields #[vl,vu,.none]}}
 exact tail_any (ops:=[.ref s3.heap.objs.size,v]) ht hT hg (by with_unfolding_all rfl)
def sY(xs:List V)(lo hi:Option Int):List V:=(xs.drop (HT.Ad xs.length 0 lo)).take (HT.Ad xs.length xs.length hi-HT.Ad xs.length 0 lo)
theorem DN(xs:List V)(lo hi:Option Int):(sY xs lo hi).length<=xs.length:=by
 unfold sY
 rw[Rw,SE]
 omega
end
def N2(n:Nat)(i:Int):Option Nat:=if 0<=i then(if i<n then some i.toNat else none)else if -(n:Int)<=i then some (i+n).toNat else none
def BF{α:Type}(xs:List α)(i:Int):Option α:=(N2 xs.length i).bind fun j=>xs[j]?
theorem Le{n:Nat}{i:Int}{j:Nat}(h:N2 n i=some j):seqIndex? i n=some j/\j<n/\-(n:Int)<=i/\i<n:=by
 unfold N2 at h
 by_cases h0:0<=i
 ·rw[if_pos h0]at h
  by_cases h1:i<n
  ·rw[if_pos h1]at h
   have e:i.toNat=j:=Rk h
   exact⟨by rw[seqIndex_of h0 h1,e],by omega,by omega,h1⟩
  ·rw[if_neg h1]at h;cases h
 ·rw[if_neg h0]at h
  by_cases h1:-(n:Int)<=i
  ·rw[if_pos h1]at h
   have e:(i+n).toNat=j:=Rk h
   exact⟨by rw[seqIndex_neg (by omega) h1,e],by omega,h1,by omega⟩
  ·rw[if_neg h1]at h;cases h
theorem Bd{α:Type}{xs:List α}{i:Int}{v:α}(h:BF xs i=some v):∃j,seqIndex? i xs.length=some j/\xs[j]?=some v/\j<xs.length/\-(xs.length:Int)<=i/\i<xs.length:=by
 unfold BF at h
 cases e:N2 xs.length i with
 |none=>rw[e]at h;cases h
 |some j=>
  rw[e]at h
  obtain⟨h1,h2,h3,h4⟩:=Le e
  exact⟨j,h1,h,h2,h3,h4⟩
theorem bI{α:Type}{xs:List α}{j:Nat}{v:α}(h:xs[j]?=some v):BF xs (j:Int)=some v:=by
 have hj:j<xs.length:=(Q0.mp h).1
 have e:N2 xs.length (j:Int)=some j:=by
  unfold N2
  rw[if_pos (by omega),if_pos (by omega)];simp
 unfold BF;rw[e];exact h
def KW(b:Qp):Prop:=∀o i,subscripted b false o i=operate [o,i] (getItem o i)
noncomputable def Pf(X:Cx)(r:R2):Prop:=
 ∀(value slice:Qp)(pins:List (Qh×Qo))(s:Qk)(σ:St)(H:Hp)(x y:V)(v u:Qi)(Q:VK),Inv X pins σ H s->RelV x v->RelV y u->r x y H Q->
  subscripted slice false v u=operate [v,u] (getItem v u)->Ql (model X.prog X.w) X.A (subscriptTail value slice v u) (EP X pins σ Q) X.xe s
noncomputable def Po(X:Cx)(id:String)(r:V->List V->Hp->VK->Prop):Prop:=
 ∀(pins:List (Qh×Qo))(s:Qk)(σ:St)(H:Hp)(x:V)(xs:List V)(v:Qi)(us:List Qi)(Q:VK),Inv X pins σ H s->RelV x v->cu xs us->r x xs H Q->
  Ql (model X.prog X.w) X.A (call (.builtin id) (v::us)) (EP X pins σ Q) X.xe s
section
variable {X:Cx}{a b:Qp}{ta tb:TE}{pos:QH}
theorem bF{r:R2}(hr:Pf X r)(ha:PE X a ta)(hb:PE X b tb)(hs:KW b):PE X (.Subscript a b pos) (aN r ta tb):=by
 intro pins s σ H Q I h
 exact Subscript_ (MY ha hb I h fun v u s2 x y H2 I2 rx ry q=>hr a b pins s2 σ H2 x y v u Q I2 rx ry q (hs _ _))
def cP(K:Qj):R2:=fun x y H Q=>∃p xs i v,x=.ref p/\y=.int i/\bo K H p xs/\BF xs i=some v/\Q v H
def Ko(K:Qj):R2:=fun x y H Q=>∃p xs i v,x=.ref p/\y=.int i/\iM K H p xs/\BF xs i=some v/\Q v H
def yM:R2:=fun x y H Q=>∃z i c,x=.str z/\y=.int i/\z.length<=Qr/\BF z.cps.toList i=some c/\Q (.str ⟨#[c]⟩) H
theorem aU:Pf X (cP X.K):=by
 intro value slice pins s σ H x y v u Q I rx ry h hs
 obtain⟨p,xs,i,z,rfl,rfl,hq,he,q⟩:=h
 cases rx
 obtain⟨t,rfl⟩:=ry
 obtain⟨its,r,pl,hz⟩:=I.list hq
 obtain⟨j,h1,h2,h3,h4,h5⟩:=Bd he
 obtain⟨w,ew,rw'⟩:=r.get h2
 have hl:=r.length
 have hn:=xA
 have fin:EP X pins σ Q w s:=⟨z,H,I,rw',q⟩
 by_cases h0:0<=i
 ·have hj:i.toNat=j:=by
   rw[seqIndex_of h0 h5]at h1
   exact Rk h1
  exact item_listR pl.isList h0 (by omega) (by rw[hj];simpa using ew) fin hs
 ·have hj:(i+(its.toArray.size:Int)).toNat=j:=by
   rw[seqIndex_neg (by omega) h4]at h1
   rw[Rr,<-hl]
   exact Rk h1
  exact subscriptTail_builtinR (x:=w) pl.isList.typeIs slot_list_getitem.lookup
   (wpAny_getItem_list_neg (Q:=fun r s'=>r=w/\EP X pins σ Q r s') pl.isList (by omega) (by rw[Rr]<;>omega) (by omega) (by rw[hj];simpa using ew) ⟨rfl,fin⟩) hs
theorem Ej:Pf X (Ko X.K):=by
 intro value slice pins s σ H x y v u Q I rx ry h hs
 obtain⟨p,xs,i,z,rfl,rfl,hq,he,q⟩:=h
 cases rx
 obtain⟨t,rfl⟩:=ry
 obtain⟨its,r,pl,hz⟩:=I.tuple hq
 obtain⟨j,h1,h2,h3,h4,h5⟩:=Bd he
 obtain⟨w,ew,rw'⟩:=r.get h2
 have hl:=r.length
 have hn:=xA
 have fin:EP X pins σ Q w s:=⟨z,H,I,rw',q⟩
 exact subscriptTail_builtinR (x:=w) pl.typeIs slot_tuple_getitem.lookup
  (getItem_tuple (j:=j) (Q:=fun r s'=>r=w/\EP X pins σ Q r s') pl (by omega) (by omega) (by rw[Rr,<-hl];exact h1) (by simpa using ew) ⟨rfl,fin⟩) hs
theorem tI:Pf X yM:=by
 intro value slice pins s σ H x y v u Q I rx ry h hs
 obtain⟨z,i,c,rfl,rfl,hz,he,q⟩:=h
 obtain⟨t,rfl⟩:=rx
 obtain⟨t',rfl⟩:=ry
 obtain⟨j,h1,h2,h3,h4,h5⟩:=Bd he
 have hl:z.cps.toList.length=z.length:=by simp[UZ]
 rw[hl]at h1 h4 h5
 have hn:=xA
 exact tail_any (typeIs_str s z t) slot_str_getitem.lookup (getItem_str (c:=c) (by
  have e1:decide (i < -(2 ^ 63:Int))=false:=decide_eq_false (by omega)
  have e2:decide (i≥2 ^ 63)=false:=decide_eq_false (by omega)
  rw[e1,e2,Bool.or_false]) (by rw[h1];simpa using h2) ⟨.str ⟨#[c]⟩,H,I.tok _,⟨_,rfl⟩,q⟩) hs
theorem BR(lo hi:Option Int)(n:Nat):(Tg lo hi none n).1=((HT.Ad n 0 lo:Nat):Int)/\(Tg lo hi none n).2.1=((HT.Ad n n hi:Nat):Int)/\(Tg lo hi none n).2.2=1:=by
 refine⟨?_,?_,rfl⟩
 ·cases lo with
  |none=>simp[Tg,HT.Ad]
  |some i=>
   simp only[Tg,HT.Ad,Xa,show(1:Int)>0 by decide,if_true]
   by_cases h:i<0
   ·simp only[h,if_true]<;>omega
   ·simp only[h,if_false]<;>omega
 ·cases hi with
  |none=>simp[Tg,HT.Ad]
  |some i=>
   simp only[Tg,HT.Ad,Xa,show(1:Int)>0 by decide,if_true]
   by_cases h:i<0
   ·simp only[h,if_true]<;>omega
   ·simp only[h,if_false]<;>omega
theorem yp(its:List Qi)(lo hi:Option Int):slicePick its.toArray lo hi none=((its.drop (HT.Ad its.length 0 lo)).take (HT.Ad its.length its.length hi-HT.Ad its.length 0 lo)).toArray:=by
 obtain⟨h1,h2,h3⟩:=BR lo hi its.toArray.size
 unfold slicePick
 rw[h1,h2,h3]
 simp only[sliceRange_one,pick_run,Rr]<;>rfl
def GQ(K:Qj):V->Option Int->Option Int->Hp->VK->Prop:=fun x lo hi H Q=>∃a xs,x=.ref a/\bo K H a xs/\∀p,H p=none->Q (.ref p) (upd H p (.lst (sY xs lo hi)))
theorem AG:P4 X (GQ X.K):=by
 intro pins s σ H x v vl vu lo hi sl Q I rx hs pl pu h
 obtain⟨a,xs,rfl,hx,q⟩:=h
 cases rx
 obtain⟨its,r,ht,hz⟩:=I.list hx
 have hlen:=r.length
 refine⟨"list",_,slot_list_getitem.lookup,ht.isList.typeIs,?_⟩
 refine wpAny_getItem_list_slice ht.isList hs pl pu .none ⋯ ?_ (by rw[Rr]<;>omega)
 rw[yp,<-hlen]
 refine⟨.ref s.heap.objs.size,_,I.laid (t':=s.toks) (o:=.lst (sY xs lo hi)) (fun b ob q=>QS _ q) (QC _) ?_,rfl,q _ (I.hok.fresh (QC _))⟩
 exact⟨Qt (DN xs lo hi) hz,_,0,(r.drop (HT.Ad xs.length 0 lo)).take (HT.Ad xs.length xs.length hi-HT.Ad xs.length 0 lo),QX _ rfl⟩
def pO:V->Bool
 |.non=>true
 |.bl _=>true
 |.int _=>true
 |.str _=>true
 |_=>false
def Mm:V->V->Bool
 |.non,.non=>true
 |.bl a,.bl b=>a==b
 |.bl a,.int b=>(if a then 1 else 0)==b
 |.int a,.bl b=>a==(if b then 1 else 0)
 |.int a,.int b=>a==b
 |.str a,.str b=>a==b
 |_,_=>false
theorem NA{A:QF}{s:Qk}{y x:V}{u v:Qi}(ry:RelV y u)(rx:RelV x v)(fy:pO y=true)(fx:pO x=true):Yr A s u v (Mm y x):=by
 cases y with
 |non=>
  cases ry
  cases x with
  |non=>cases rx;exact aac _
  |bl b=>cases rx;exact Zu b
  |int b=>obtain⟨t,rfl⟩:=rx;exact aaa b t
  |str b=>obtain⟨t,rfl⟩:=rx;exact ZX b t
  |_=>exact absurd (show false=true from fx) Rf
 |bl a=>
  cases ry
  cases x with
  |non=>cases rx;exact ZU a
  |bl b=>cases rx;exact aam a b
  |int b=>obtain⟨t,rfl⟩:=rx;exact aai a b t
  |str b=>obtain⟨t,rfl⟩:=rx;exact aay a b t
  |_=>exact absurd (show false=true from fx) Rf
 |int a=>
  obtain⟨t',rfl⟩:=ry
  cases x with
  |non=>cases rx;exact aaI a t'
  |bl b=>cases rx;exact aaN a t' b
  |int b=>obtain⟨t,rfl⟩:=rx;exact aaF a t' b t
  |str b=>obtain⟨t,rfl⟩:=rx;exact XZ a t' b t
  |_=>exact absurd (show false=true from fx) Rf
 |str a=>
  obtain⟨t',rfl⟩:=ry
  cases x with
  |non=>cases rx;exact Y8 a t'
  |bl b=>cases rx;exact aa1 a t' b
  |int b=>obtain⟨t,rfl⟩:=rx;exact YH a t' b t
  |str b=>obtain⟨t,rfl⟩:=rx;exact Y9 a t' b t
  |_=>exact absurd (show false=true from fx) Rf
 |_=>exact absurd (show false=true from fy) Rf
def Lp(x:V)(u:Qi):Bool:=match u with
 |.none=>Mm .non x
 |.bool b=>Mm (.bl b) x
 |.int i _=>Mm (.int i) x
 |.str z _=>Mm (.str z) x
 |_=>false
theorem Jl{x y:V}{u:Qi}(r:RelV y u)(f:pO y=true):Lp x u=Mm y x:=by
 cases y with
 |non=>cases r;rfl
 |bl b=>cases r;rfl
 |int i=>obtain⟨t,rfl⟩:=r;rfl
 |str z=>obtain⟨t,rfl⟩:=r;rfl
 |_=>exact absurd (show false=true from f) Rf
theorem Bq{x:V}:∀{xs:List V}{us:List Qi},cu xs us->xs.all pO=true->us.any (Lp x)=xs.any fun y=>Mm y x
 |_,_,.nil,_=>rfl
 |y::xs,u::us,.cons r t,f=>by
  rw[XT,Rj]at f
  rw[SK,SK,Jl r f.1,Bq t f.2]
theorem xQ{A:QF}{s:Qk}{x:V}{v:Qi}(rx:RelV x v)(fx:pO x=true):∀{xs:List V}{us:List Qi},cu xs us->xs.all pO=true->∀u∈us,Yr A s u v (Lp x u)
 |_,_,.nil,_=>fun u hu=>by cases hu
 |y::xs,u::us,.cons r t,f=>fun u' hu=>by
  rw[XT,Rj]at f
  rcases QI.mp hu with rfl|hu
  ·rw[Jl r f.1];exact NA r rx f.1 fx
  ·exact xQ rx fx t f.2 u' hu
def NV(x:V)(xs:List V):Bool:=xs.any fun y=>Mm y x
def Nm(K:Qj)(neg:Bool):R2:=fun x y H Q=>∃p xs,y=.ref p/\(bo K H p xs\/iM K H p xs)/\pO x=true/\xs.all pO=true/\Q (.bl (if neg then !NV x xs else NV x xs)) H
theorem o8:jM X (Rc .In) (Nm X.K false):=by
 intro pins s σ H x y v u Q I rx ry h
 obtain⟨p,xs,rfl,hq,fx,fs,q⟩:=h
 cases ry
 rcases hq with hq|hq
 ·obtain⟨its,r,pl,hz⟩:=I.list hq
  refine SeqAt.in_listAt (Lp x) pl.isList (fun w hw=>xQ rx fx r fs w (by simpa using hw)) ⟨.bl _,H,I,rfl,?_⟩
  rw[show its.toArray.any (Lp x)=its.any (Lp x) by simp,Bq r fs]
  exact q
 ·obtain⟨its,r,pl,hz⟩:=I.tuple hq
  refine SeqAt.in_tupleAt (Lp x) pl (fun w hw=>xQ rx fx r fs w (by simpa using hw)) ⟨.bl _,H,I,rfl,?_⟩
  rw[show its.toArray.any (Lp x)=its.any (Lp x) by simp,Bq r fs]
  exact q
theorem cA:d4 X (.builtin "len") (fun xs H Q=>∃p ys,xs=[.ref p]/\(bo X.K H p ys\/iM X.K H p ys)/\Q (.int ys.length) H):=by
 intro pins s σ H xs us Q I r h
 obtain⟨p,ys,rfl,hq,q⟩:=h
 obtain⟨u,rfl,rx⟩:=vals1 r
 cases rx
 have hn:=xA
 rcases hq with hq|hq
 ·obtain⟨its,r',pl,hz⟩:=I.list hq
  have hlen:=r'.length
  exact Calls.call_len_list pl.isList (by simp only[Rr]<;>omega) ⟨.int ys.length,H,I.tok _,⟨s.toks+1,by rw[Rr,hlen]⟩,q⟩
 ·obtain⟨its,r',pl,hz⟩:=I.tuple hq
  have hlen:=r'.length
  exact len_tuple pl (by simp only[Rr]<;>omega) ⟨.int ys.length,H,I.tok _,⟨s.toks+1,by rw[Rr,hlen]⟩,q⟩
theorem Ay:d4 X (.builtin "len") (fun xs H Q=>∃z,xs=[.str z]/\z.length<=Qr/\Q (.int z.length) H):=by
 intro pins s σ H xs us Q I r h
 obtain⟨z,rfl,hz,q⟩:=h
 obtain⟨u,rfl,t,rfl⟩:=vals1 r
 have hn:=xA
 exact len_str (by omega) ⟨.int z.length,H,I.tok _,⟨_,rfl⟩,q⟩
noncomputable def LK(K:Qj)(T:String)(x:V)(H:Hp):Prop:=match x with
 |.str _=>T="str"
 |.int _=>T="int"
 |.ref p=>(T="list"/\∃xs,bo K H p xs)\/(T="tuple"/\∃o,K.lookup p=some o/\o.cls=.type "tuple"/\o.dict=none)\/
   (T="dict"/\((∃kvs,H p=some (.dK kvs))\/∃kvs,H p=some (.dT kvs)))\/(T="set"/\∃S n,H p=some (.set S n))
 |_=>False
theorem Ju{pins:List (Qh×Qo)}{σ:St}{H:Hp}{s:Qk}{T:String}{x:V}{v:Qi}(I:Inv X pins σ H s)(r:RelV x v)(ty:LK X.K T x H):
  s.TypeIs v T/\∀a,v=.ref a->∃ob,s.heap.get? a=some ob/\ob.dict=none:=by
 cases x with
 |str z=>
  obtain⟨t,rfl⟩:=r
  cases(show T="str" from ty)
  exact⟨typeIs_str s z t,fun _ e=>nomatch e⟩
 |int i=>
  obtain⟨t,rfl⟩:=r
  cases(show T="int" from ty)
  exact⟨typeIs_int s i t,fun _ e=>nomatch e⟩
 |ref p=>
  cases r
  rcases ty with⟨rfl,xs,hq⟩|⟨rfl,o,hk,hc,hd⟩|⟨rfl,hk⟩|⟨rfl,S,n,hk⟩
  ·obtain⟨its,_,pl,_⟩:=I.list hq
   refine⟨pl.isList.typeIs,fun a e=>?_⟩
   cases e
   obtain⟨o,n,e,c,hd,_⟩:=pl
   exact⟨o,e,hd⟩
  ·refine⟨⟨o,I.kIn p o hk,hc⟩,fun a e=>?_⟩
   cases e
   exact⟨o,I.kIn _ o hk,hd⟩
  ·have z:∃o,s.heap.get? p=some o/\o.ExactDict:=by
    rcases hk with⟨kvs,hk⟩|⟨kvs,hk⟩
    ·obtain⟨_,_,_,_,o,_,_,e,ex,_⟩:=I.hok p _ hk
     exact⟨o,e,ex⟩
    ·obtain⟨_,_,_,_,o,_,_,e,ex,_⟩:=I.hok p _ hk
     exact⟨o,e,ex⟩
   obtain⟨o,e,ex⟩:=z
   refine⟨⟨o,e,ex.1⟩,fun a e2=>?_⟩
   cases e2
   exact⟨o,e,ex.2.1⟩
  ·obtain⟨o,_,_,_,e,ex,_⟩:=I.hok p _ hk
   refine⟨⟨o,e,ex.1⟩,fun a e2=>?_⟩
   cases e2
   exact⟨o,e,ex.2.1⟩
 |_=>exact RG ty
def IG(K:Qj)(T:String)(r:V->List V->Hp->VK->Prop)(to:TE):TE:=fun σ H Q=>to σ H fun x H1=>LK K T x H1/\r x [] H1 Q
def zW(K:Qj)(T:String)(r:V->List V->Hp->VK->Prop)(to:TE)(t:TA):TE:=fun σ H Q=>to σ H fun x H1=>LK K T x H1/\t σ H1 fun xs H2=>r x xs H2 Q
variable {o e:Qp}{es:List Qp}{to:TE}{t:TA}{name:Qg}{apos cpos:QH}{T id:String}{r:V->List V->Hp->VK->Prop}
theorem Ex(pa:PlainAttrs T)(slot:Slot T name id)(hty:typeOf (.builtin id)=pure (.type "method_descriptor"))(hm:Po X id r)(ho:PE X o to)
  (hbase:Tp o name X.env (eval o X.env)=eval o X.env:=by rfl) (hline:(apos.endLine==cpos.line)=true:=by rfl):PE X (.Call (.Attribute o name apos) [] [] cpos) (IG X.K T r to):=by
 intro pins s σ H Q I h
 refine wpAny_Call_method0_late hbase hline (cX (ho pins s σ H _ I h) fun v s1 ⟨x,H1,I1,r1,ty,q1⟩=>?_)
 obtain⟨h1,h2⟩:=Ju I1 r1 ty
 exact⟨T,id,pa,slot,hty,h1,h2,Ut rfl (Wt (hm pins s1 σ H1 x [] v [] Q I1 r1 .nil q1))⟩
theorem gG(pa:PlainAttrs T)(slot:Slot T name id)(hty:typeOf (.builtin id)=pure (.type "method_descriptor"))(hm:Po X id r)(ho:PE X o to)(ha:PA X (e::es) t)
  (hbase:Tp o name X.env (eval o X.env)=eval o X.env:=by rfl)
  (hfew:((Q1 cpos (Qx (e::es) X.env)).all (fun x=>!x.1)&&(Sg cpos (Sf [] X.env)).all (fun x=>x.1.isSome)
   && decide ((e::es).length+([]:List Keyword).length+(if([]:List Keyword).isEmpty then 0 else 1)<30))=true:=by rfl)
  (hline:(apos.endLine==cpos.line)=true:=by rfl) (hs:Qx (e::es) X.env=(false,eval e X.env)::Qx es X.env:=by rfl) (hplain:(Q1 cpos (Qx es X.env)).any (·.1)=false:=by rfl):
  PE X (.Call (.Attribute o name apos) (e::es) [] cpos) (zW X.K T r to t):=by
 intro pins s σ H Q I h
 refine wpAny_Call_method_late hbase hfew hline rfl (cX (ho pins s σ H _ I h) fun v s1 ⟨x,H1,I1,r1,ty,q1⟩=>?_)
 obtain⟨h1,h2⟩:=Ju I1 r1 ty
 exists T,id,pa,slot,hty,h1,h2
 have hA:=ha cpos pins s1 σ H1 _ I1 q1
 rw[hs]at hA ⊢
 refine Ut (by show(false || (Q1 cpos (Qx es X.env)).any (·.1))=false;rw[hplain]<;>rfl) (VU ?_)
 exact cX hA fun us s2 ⟨vs,H2,I2,r2,q2⟩=>hm pins s2 σ H2 x vs v us Q I2 r1 r2 q2
end
noncomputable def NS(X:Cx)(id:String)(r:V->List V->Hp->VK->Prop):Prop:=
 ∀(pins:List (Qh×Qo))(s:Qk)(σ:St)(H:Hp)(x:V)(xs:List V)(v:Qi)(us:List Qi)(Q:VK),Inv X pins σ H s->RelV x v->cu xs us->r x xs H Q->
  Ql (model X.prog X.w) X.A (call (.builtin id) (v::us)) (EP X pins σ Q) X.xe s
theorem cu.one:∀{x:V}{us:List Qi},cu [x] us->∃u,us=[u]/\RelV x u
 |_,_,.cons r .nil=>⟨_,rfl,r⟩
section
variable {X:Cx}{pins:List (Qh×Qo)}{σ:St}{H:Hp}{s:Qk}{l b:Qh}{xs ys zs:List V}
theorem Inv.lset{its its':List Qi}{n:Nat}{f:Array Qi->Array Qi}{t':Nat}(I:Inv X pins σ H s)(hH:H l=some (.lst xs))
  (e:s.heap.get? l=some {cls:=.type "list",data:=.seq its.toArray n}) (hf:f its.toArray=its'.toArray) (hv:cu ys its') (hz:ys.length<=Qr):
  Inv X pins σ (upd H l (.lst ys)) {s with heap:=s.heap.update l (Yw f),toks:=t'}:=by
 have q:=Za e f
 rw[hf]at q
 refine I.write (x:=l) (e:=l) (by rw[hH];exact trivial) (.inl rfl) (fun b' u hb hu=>(S3 s.heap (Yw f) (QT hb)).trans hu) ⟨_,q⟩ ?_
 exact⟨hz,its',_,hv,q⟩
theorem Inv.lnew{its:List Qi}{t':Nat}(I:Inv X pins σ H s)(hv:cu ys its)(hz:ys.length<=Qr):
  Inv X pins σ (upd H s.heap.objs.size (.lst ys)) {s with heap:=s.heap.push {cls:=.type "list",data:=.seq its.toArray},toks:=t'}:=
 I.laid (fun _ _ q=>QS _ q) (QC _) ⟨hz,its,0,hv,QX _ rfl⟩
theorem Inv.fresh(I:Inv X pins σ H s):H s.heap.objs.size=none:=I.hok.fresh (QC _)
theorem Inv.lstM(I:Inv X pins σ H s)(hH:H l=some (.lst xs)):xs.length<=Qr/\∃(its:List Qi)(n:Nat),cu xs its/\xs.length=its.length/\s.heap.get? l=some {cls:=.type "list",data:=.seq its.toArray n}:=by
 obtain⟨z,its,n,r,e⟩:=I.hok l _ hH
 exact⟨z,its,n,r,r.length,e⟩
theorem J7{n:Nat}(h:n<=Qr):Ws n=false:=by
 unfold Ws
 exact decide_eq_false (by omega)
end
section
variable {X:Cx}
def jU:V->List V->Hp->VK->Prop:=fun x vs H Q=>∃l xs y,x=.ref l/\vs=[y]/\H l=some (.lst xs)/\xs.length<Qr/\Q .non (upd H l (.lst (xs++[y])))
theorem gI:NS X "list.append" jU:=by
 intro pins s σ H x vs v us Q I rx rv h
 obtain⟨l,xs,y,rfl,rfl,hH,hz,q⟩:=h
 cases rx
 obtain⟨u,rfl,ru⟩:=rv.one
 obtain⟨z,its,n,r,hl,e⟩:=I.lstM hH
 refine Sn Tf ⟨_,e,rfl⟩ F.entry_list_append (F.args_list_append_2 _ _) (PySem.list_append l its.toArray n u (by rw[Rr];omega)) ⟨e,?_⟩
 refine⟨.non,_,I.lset (its':=its++[u]) hH e ⋯ (r.append (.cons ru .nil)) ?_,rfl,q⟩
 rw[Rz,TY]
 omega
def KR:V->List V->Hp->VK->Prop:=fun x vs H Q=>∃l b xs zs,x=.ref l/\vs=[.ref b]/\H l=some (.lst xs)/\H b=some (.lst zs)/\xs.length+zs.length<=Qr/\Q .non (upd H l (.lst (xs++zs)))
theorem N1:NS X "list.extend" KR:=by
 intro pins s σ H x vs v us Q I rx rv h
 obtain⟨l,b,xs,zs,rfl,rfl,hH,hB,hz,q⟩:=h
 cases rx
 obtain⟨u,rfl,ru⟩:=rv.one
 cases ru
 obtain⟨z,its,n,r,hl,e⟩:=I.lstM hH
 obtain⟨z2,its2,n2,r2,hl2,e2⟩:=I.lstM hB
 have hsz:its.toArray.size+its2.toArray.size<=Qr:=by rw[Rr,Rr];omega
 have hlong:¬(!its.toArray.isEmpty&&Ws (its.toArray.size+its2.toArray.size))=true:=by
  rw[J7 hsz,V4]
  exact Rf
 refine Sn F.slot_list_extend ⟨_,e,rfl⟩ F.entry_list_extend (F.args_list_extend_2 _ _)
  (aaw l its.toArray n b its2.toArray n2 hlong (by rw[Rr];omega) (by omega)) ⟨e,e2,?_⟩
 refine⟨.non,_,I.lset (its':=its++its2) hH e ⋯ (r.append r2) ?_,rfl,q⟩
 rw[Rz]
 omega
def E7:R2:=fun x y H Q=>∃l b xs zs,x=.ref l/\y=.ref b/\H l=some (.lst xs)/\H b=some (.lst zs)/\xs.length+zs.length<=Qr/\∀p,H p=none->Q (.ref p) (upd H p (.lst (xs++zs)))
theorem wR:jM X (RV .Add) E7:=by
 intro pins s σ H x y v u Q I rx ry h
 obtain⟨l,b,xs,zs,rfl,rfl,hH,hB,hz,q⟩:=h
 cases rx
 cases ry
 obtain⟨z,its,n,r,hl,e⟩:=I.lstM hH
 obtain⟨z2,its2,n2,r2,hl2,e2⟩:=I.lstM hB
 refine Zo e e2 ?_ (by rw[Rr,Rr];omega)
 have ea:its.toArray++its2.toArray=(its++its2).toArray:=⋯
 rw[ea]
 exact⟨.ref _,_,I.lnew (t':=s.toks) (r.append r2) (by rw[Rz];omega),rfl,q _ I.fresh⟩
end
section
variable {prog:Qy}{w:Qv}{A:QF}{E:Qi->Qk->Prop}{s:Qk}
end
section
variable {X:Cx}
end
end L2
namespace Att
open PySem PySem.W PySem.Calls PyProof.Rows
theorem uX{P:Params}{h:Qq}:∀(ns:List Int)(vs:List Qi),WellAll P h vs (ns.map Yd)->Ta vs ns:=by
 intro ns
 induction ns with
 |nil=>
  intro vs w
  rw[Tq]at w
  cases w
  exact .nil
 |cons n ns ih=>
  intro vs w
  rw[QW]at w
  cases w with
  |cons a b=>
   cases a
   exact .cons _ _ (ih _ b)
theorem Ih{l:OpenLaw}{n:Nat}(hn:l.most=some n){P:Params}{h:Qq}{args:List WData}{vals:List Qi}
  (hpre:l.row.toRowW.claim.pre args=true) (hwl:WellAll P h vals args):
  ∃a vs ns,vals=[QL a]/\args=[WData.list (ns.map Yd)]/\h.get? a=some {cls:=.type "list",data:=.seq vs.toArray}/\Ta vs ns/\ns.length<=n:=by
 have hsh:WShape.hasAll [] args [.list .int]=true:=(pre_splitW hpre).1
 have hc:l.pre.holds [] {args:=args}=true:=(pre_splitW hpre).2
 obtain⟨d,r,rfl,h1,h2⟩:=hasAllW_cons hsh
 obtain rfl:=hasAllW_nil h2
 obtain⟨xs,rfl,h3⟩:=hasW_list h1
 obtain⟨ns,rfl⟩:=items_int h3
 have hlen:ns.length<=n:=by
  unfold aaR at hc
  have h4:(WTm.not (.lt (.lit (.int (n:Int))) (.len (.arg 0)))).holds [] {args:=[.list (ns.map .int)]}=true:=by
   have h4:=(holds_andW hc).1
   rw[hn]at h4
   exact h4
  have h5:=condW_of h4 (w_not (w_lt w_lit (w_len_list (w_arg rfl))))
  rw[Qw]at h5
  refine Yx fun q=>?_
  have q':(n:Int)<((ns.length:Nat):Int):=by omega
  first
   |(rw[decide_eq_true q']at h5;exact absurd h5 (by decide))
   |(simp at h5;omega)
 cases hwl with
 |cons w1 w2=>
  cases w2
  cases w1 with
  |list ho hall=>exact⟨_,_,ns,rfl,rfl,ho,uX ns _ hall,hlen⟩
theorem GX(l:OpenLaw)(args:List WData):l.row.toRowW.claim.post args (.bool true) args=true:=
 postW_of (r:=l.row.toRowW) (X:=(true==true))
  (show Yo [] (.bool true) .bool=true by first|rfl|decide|simp[Yo,WShape.arms,WShape.armsAll])
  (show(WTm.eq .res (.lit (.bool true))).value [] {args:=args,res:=some (.bool true),after:=args}=some (.bool (true==true))from w_eq_bool (w_res rfl) w_lit) rfl
theorem Ca{l:OpenLaw}{n:Nat}{q:Qy}{loose:List Qg}{XP:(Qg->Option Qi)->Qq->Prop}{YP:Qv->Qq->Prop}{d:DefRec}
  (hn:l.most=some n) (hdf:d.params.defaults=[])
  (call:∀(w:Qv)(s₀ s₁:Qk)(mg mb:Qg->Option Qi)(fa:Qh)(o:Qo)(pm cd doc:Qi)(a:Qh)(vs:List Qi)(ns:List Int),
   Ground q loose [] XP w s₀ mg mb s₁.heap->YP w s₁.heap->
   s₁.heap.get? fa=some o->o.data=.func (docDef d.name d.params d.body d.scope pm cd doc)->s₁.heap.CodeRec cd d.name->mg d.name=some (.ref fa)->
   s₁.heap.get? a=some {cls:=.type "list",data:=.seq vs.toArray}->Ta vs ns->ns.length<=n->s₁.gens=#[]->
   Sj (model l.prog w) callerA (.call (.ref fa) ⟨[.ref a],[]⟩) (fun r s'=>r=.ok (.ret (.bool true))/\OldK s₁.heap s'.heap/\s'.os=s₁.os/\Su s'.gens) s₁):
  WalkO q loose XP YP l.row.toRowW d [] (fun f vs=>Wn f vs):=by
 intro w s₀ s₁ mg mb G Y fa o pm cd doc dV kV ho hd hcd hD hmg hg args vals as hpre hlay hrd hwl hlo
 obtain rfl:dV=.none:=Dflts.none hD hdf
 obtain rfl:kV=.none:=Dflts.noKw hD
 obtain⟨a,vs,ns,rfl,rfl,hobj,hints,hlen⟩:=Ih hn hpre hwl
 refine enter_call (codeAny_mono (call w s₀ s₁ mg mb fa o pm cd doc a vs ns G Y ho (fd_plain hd) hcd hmg hobj hints hlen hg) fun r s' hq=>?_)
 obtain⟨rfl,h2,h3,h4⟩:=hq
 exact⟨.inl ⟨.bool true,.bool true,[],rfl,fun _=>rfl,.bool true,GX l _,fun _=>⟨aaG,fun _ hm=>(nomatch hm)⟩⟩,h2,h3,h4⟩
section
variable {prog:Qy}{w:Qv}{A:QF}{E:Qi->Qk->Prop}{s:Qk}{K:Frag}
end
end Att
namespace L2
open PySem PySem.Spec PyProof.Rows
theorem tM:∀{vs:List Qi}{ns:List Int},Ta vs ns->cu (ns.map V.int) vs
 |_,_,.nil=>.nil
 |_,_,.cons n t h=>.cons ⟨t,rfl⟩ (tM h)
def Nz(H:Hp):Prop:=∀b,H b=none\/∃o xs,H b=some (.frz o (.lst xs))
theorem JG{P:Qy}{w:Qv}{K:Qj}{mg mb:Qg->Option Qi}{CX:GU}{k:Nat}{fa a:Qh}{fd:R1}{x:Qg}{sp:Sp}{s₁:Qk}{vs:List Qi}{ns:List Int}
  (KX:K.In s₁.heap) (hns:s₁.heap.Ns Q6 mg) (hb:s₁.heap.Ns builtinsNs mb) (hbb:∀x:Qg,x≠"__name__"->mb x=T8 x) (hlim:s₁.heap.NoLimit) (hg:s₁.gens=#[])
  (ha:s₁.heap.get? a=some {cls:=.type "list",data:=.seq vs.toArray}) (hi:Ta vs ns) (hl:ns.length<=Qr) (hr:dv k callerA)
  (F:∀base:Qq,K.In base->base.Ns Q6 mg->nj P w K mg base CX k fa fd [x] sp) (hbind:∀(s:Qk)(u:Qi),BindsTo s fd ⟨[u],[]⟩ [(x,u)])
  (hsp:∀H:Hp,Nz H->bo K H a (ns.map V.int)->sp [.ref a] H (fun v _=>v=.bl true) fun _ _ _=>False)
  (hCX:∀H e s',CX [] H s₁ (fun _ _ _=>False) e s'->False):
  Sj (model P w) callerA (.call (.ref fa) ⟨[.ref a],[]⟩) (fun r s'=>r=.ok (.ret (.bool true))/\OldK s₁.heap s'.heap/\s'.os=s₁.os/\Su s'.gens) s₁:=by
 have rv:=tM hi
 have lenV:=hi.length
 have core:∀H:Hp,Nz H->bo K H a (ns.map V.int)->pB P w H s₁.heap->(∀b,H b≠none->b=a)->(H a≠none->K.lookup a=none)->
   Sj (model P w) callerA (.call (.ref fa) ⟨[.ref a],[]⟩) (fun r s'=>r=.ok (.ret (.bool true))/\OldK s₁.heap s'.heap/\s'.os=s₁.os/\Su s'.gens) s₁:=by
  intro H hO hS hok hA hK
  have base_of:∀{b:Qh}{o:Qo},s₁.heap.get? b=some o->H b=none->(Bx s₁.heap H).get? b=some o:=fun e n=>KC e n
  have noA:∀{b:Qh}{o:Qo}{es:Array Si}{ep:Nat},s₁.heap.get? b=some o->o.data=.dict es ep->H b=none:=fun {b o es ep} e d=>by
   cases q:H b with
   |none=>rfl
   |some u=>
    have e':b=a:=hA b (by rw[q];simp)
    subst e'
    rw[ha]at e;cases e
    have d':Wy vs.toArray _=Data.dict es ep:=d
    cases d'
  have nsK:∀{b:Qh}{m:Qg->Option Qi},s₁.heap.Ns b m->(Bx s₁.heap H).Ns b m:=fun {b m} ⟨o,es,ep,e,d,r⟩=>⟨o,es,ep,base_of e (noA e d),d,r⟩
  have hKb:K.In (Bx s₁.heap H):=fun b o e=>base_of (KX b o e) (by
   cases q:H b with
   |none=>rfl
   |some u=>
    have e':b=a:=hA b (by rw[q];simp)
    subst e'
    rw[hK (by rw[q];simp)]at e;cases e)
  have hM:Mod K mg (Bx s₁.heap H):=⟨hKb,nsK hns,⟨mb,nsK hb,hbb⟩,let ⟨mc,h1,h2⟩:=hlim;⟨mc,nsK h1,h2⟩⟩
  have e0:Ft P w K mg (Bx s₁.heap H) callerA [] s₁ H:=⟨rfl,hM,fun b o e=>Lx e,Ui (Hj _ _),trivial,fun b hb=>absurd (show b∈([]:List Qh)from hb) ⋯,hok,.of_eq hg⟩
  refine codeAny_mono ((F _ hKb (nsK hns)).run callerA [] s₁ H ⟨[.ref a],[]⟩ [.ref a] [.ref a] _ _ hr e0 (hbind s₁ (.ref a)) (.cons rfl .nil) (hsp H hO hS)) fun r s' h=>?_
  cases r with
  |error e=>exact(hCX H e s' h).elim
  |ok fl=>
   cases fl with
   |next=>exact RG h
   |brk=>exact RG h
   |cont=>exact RG h
   |ret u=>
    obtain⟨v,H',os,bare,un,hok',r',q⟩:=h
    have q':v=.bl true:=q
    subst q'
    obtain rfl:u=SW true:=r'
    refine⟨rfl,OldK.of_keep fun b o e=>?_,os,bare⟩
    cases q:H b with
    |none=>exact un.keep b o e q (by intro z;exact absurd (show b∈([]:List Qh)from z) ⋯) ⋯
    |some u=>
     rcases hO b with z|⟨ob,xs,z⟩
     ·rw[q]at z;cases z
     ·have z2:=un.frzs b ob _ z
      obtain⟨e1,_⟩:=hok b _ z
      obtain⟨e2,_⟩:=hok' b _ z2
      rw[e]at e1;cases e1
      exact e2
 cases hk:K.lookup a with
 |some o=>
  have e:=KX a o hk
  rw[ha]at e
  cases e
  refine core (fun _=>none) (fun _=>.inl rfl) (.inr ⟨_,vs.toArray,_,hk,rfl,rfl,rfl,by rw[Rr,lenV];exact hl,by simpa using rv⟩) (fun b u z=>by have z':(none:Option HO)=some u:=z;cases z') (fun b z=>absurd rfl z) fun z=>absurd rfl z
 |none=>
  refine core (fun b=>if b=a then some (.frz {cls:=.type "list",data:=.seq vs.toArray} (.lst (ns.map V.int)))else none) (fun b=>?_) (.inl (.inr ⟨{cls:=.type "list",data:=.seq vs.toArray},if_pos rfl⟩)) (fun b u z=>?_) (fun b z=>?_) fun _=>hk
  ·by_cases hb:b=a
   ·exact .inr ⟨_,_,if_pos hb⟩
   ·exact .inl (if_neg hb)
  ·by_cases hb:b=a
   ·have z':=(if_pos hb).symm.trans z
    cases z'
    subst hb
    exact⟨ha,by rw[Qw];exact hl,vs,_,rv,ha⟩
   ·have z':=(if_neg hb).symm.trans z
    cases z'
  ·by_cases hb:b=a
   ·exact hb
   ·exact absurd (if_neg hb) z
abbrev zQ{K:Qj}{h:Qq}(_:K.In h):Qj:=K
theorem K5{l:Xb}{n k:Nat}{q:Qy}{loose:List Qg}{XP:(Qg->Option Qi)->Qq->Prop}{YP:Qv->Qq->Prop}{d:DefRec}{K:Params->Qj}{CX:Qv->GU}{sp:Qv->Sp}{x:Qg}
  (hn:l.most=some n) (hn2:n<=Qr) (hdf:d.params.defaults=[]) (hr:dv k callerA)
  (hY:∀(w:Qv)(h:Qq),YP w h->(K w.params).In h)
  (F:∀(w:Qv)(mg:Qg->Option Qi)(fa:Qh)(h:Qq),(K w.params).In h->h.Ns Q6 mg->mg d.name=some (.ref fa)->
   ∃fd:R1,(∀(s:Qk)(u:Qi),BindsTo s fd ⟨[u],[]⟩ [(x,u)])/\
    ∀base:Qq,(K w.params).In base->base.Ns Q6 mg->nj l.prog w (K w.params) mg base (CX w) k fa fd [x] (sp w))
  (hsp:∀(w:Qv)(H:Hp)(a:Qh)(ns:List Int),ns.length<=n->Nz H->bo (K w.params) H a (ns.map V.int)->sp w [.ref a] H (fun v _=>v=.bl true) fun _ _ _=>False)
  (hCX:∀(w:Qv)(H:Hp)(s:Qk)(e:Qi)(s':Qk),CX w [] H s (fun _ _ _=>False) e s'->False):
  XD q loose XP YP l.row.toRowW d [] (fun f vs=>Wn f vs):=by
 refine Att.Ca hn hdf fun w s₀ s₁ mg mb fa o pm cd doc a vs ns G Y ho hd hcd hmg hobj hints hlen hg=>?_
 have KX:=hY w _ Y
 obtain⟨fd,hb,hF⟩:=F w mg fa _ KX G.T.g hmg
 exact JG KX G.T.g G.T.b G.T.builtins G.T.nolimit hg hobj hints (Qt hlen hn2) hr hF hb (fun H hO hS=>hsp w H a ns hlen hO hS) fun H e s'=>hCX w H s₁ e s'
def inClass(s:Qs)(j:Nat):Qs:=match s with
 |.ClassDef _ _ _ body _ _ _ _ _ _ _=>body.getD j (.Pass ⟨0,0,0,0⟩)
 |_=>.Pass ⟨0,0,0,0⟩
def l9(s:Qs):Arguments:=match s with
 |.FunctionDef _ a _ _ _ _ _ _ _ _=>a
 |_=>{posonlyargs:=[],args:=[],vararg:=none,kwonlyargs:=[],kw_defaults:=[],kwarg:=none,defaults:=[]}
def dO(s:Qs):List Qs:=match s with
 |.FunctionDef _ _ b _ _ _ _ _ _ _=>b
 |_=>[]
def ao(s:Qs):Rh:=match s with
 |.FunctionDef _ _ _ _ _ _ sc _ _ _=>sc
 |_=>{kind:=.function,names:=[],isGenerator:=false,isCoroutine:=false}
abbrev sL:GU:=fun _ _ _ _ _ _=>False
abbrev E0:XK:=fun _ _ _=>False
theorem Gh{X:Cx}:ml sL X E0:=fun _ _ _ _ _ _ _ h=>h.elim
structure MB(K:Qj)(x qual:Qg)(st:Qs)(f:Qh)(fd:R1):Prop where
 ex:∃(oc:Qi)(od:Option Qh)(kV doc pm:Qi)(an:Option Qh)(cdv ct:Qi)(osl:Array (Option Qi)),
  fd=SD x qual (l9 st) (dO st) (ao st) .none kV doc pm an cdv ct/\K.lookup f=some ⟨oc,od,.func fd,osl⟩/\UT K cdv qual=true
 kp:R9 K (.ref f)=true
section
variable {P:Qy}{w:Qv}{K:Qj}{mg:Qg->Option Qi}{base:Qq}
theorem MB.ok{x qual:Qg}{st:Qs}{f:Qh}{fd:R1}{N ps:List Qg}{k:Nat}{sp:Sp}(F:MB K x qual st f fd)(S:aC N ps (ao st))(len:∀vs H Q E,sp vs H Q E->vs.length=ps.length)
  (hbody:∀(cdv:Qi)(A:QF)(outer:List QP)(s:Qk)(H:Hp)(vs:List V)(Q:VK)(E:XK),dv k (A.deeper (Rt qual (ao st) s.heap.objs.size f cdv))->sp vs H Q E->
   ∃t,xc (cJ sL P w K mg base N qual (ao st) f cdv A outer s H E).nox (dO st) t/\t {nx:=fun _ H'=>Q .non H',rt:=Q} (start N vs) H):nj P w K mg base sL (k+1) f fd ps sp:=by
 obtain⟨oc,od,kV,doc,pm,an,cdv,ct,osl,rfl,lk,hcd⟩:=F.ex
 refine Mf lk hcd S len fun A outer s H vs Q E hr hsp=>?_
 obtain⟨t,h,q⟩:=hbody cdv A outer s H vs Q E hr hsp
 exact⟨t,h.nox,q⟩
theorem Jf{x qual:Qg}{st:Qs}{f:Qh}{oc:Qi}{od an:Option Qh}{osl:Array (Option Qi)}{kV doc pm cdv ct:Qi}(l:K.lookup f=some ⟨oc,od,.func (SD x qual (l9 st) (dO st) (ao st) .none kV doc pm an cdv ct),osl⟩)
  (c:UT K cdv qual=true) (k:R9 K (.ref f)=true):MB K x qual st f (SD x qual (l9 st) (dO st) (ao st) .none kV doc pm an cdv ct):=⟨⟨oc,od,kV,doc,pm,an,cdv,ct,osl,rfl,l,c⟩,k⟩
end
theorem yf{A:QF}{k:Nat}(hr:dv k A):A.units+1<cLine:=Wz (Nat.add_le_add_left (by decide:1<=64) _) hr.units
theorem GJ{n:Nat}(h:n<=1000):n<Qr:=Wz h (by decide)
section
variable {X:Cx}
theorem pv(i:Nat){x:Qg}{pos:QH}(hN:X.N[i]?=some x:=by rfl)(hv:M5 X.env.scope x:=by first|exact Qn rfl|exact Ti (Qn rfl)|exact Ti (Ti rfl))(hd:(x==("__debug__":Qg))=false:=by decide)
  (hcd:(x==("__classdict__":Qg))=false:=by decide):PE X (.Name x pos) (af i):=MP hN hv hd hcd
end
theorem Km{A B:Prop}(h:B):if false=true then A else B:=by
 rw[if_neg Rf]
 exact h
theorem E1{A B:Prop}(h:A):if true=true then A else B:=by
 rw[if_pos rfl]
 exact h
theorem LN{c A B:Prop}[Decidable c](h1:c->A)(h2:¬c->B):if c then A else B:=by
 by_cases h:c
 ·rw[if_pos h]
  exact h1 h
 ·rw[if_neg h]
  exact h2 h
theorem L7{c A B:Prop}[Decidable c](hc:c)(h:B):if(!decide c)=true then A else B:=by
 rw[decide_eq_true hc]
 exact Km h
def ar(H H':Hp):Prop:=∀b o,H b=some o->H' b=some o
theorem ar.refl(H:Hp):ar H H:=fun _ _ h=>h
theorem ar.trans{H H1 H2:Hp}(a:ar H H1)(b:ar H1 H2):ar H H2:=fun c o h=>b c o (a c o h)
theorem ar.free{H H':Hp}(e:ar H H'){l:Qh}(h:H' l=Xy):H l=Xy:=by
 cases q:H l with
 |none=>rfl
 |some o=>
  rw[e l o q]at h
  cases h
theorem ar.seq{K:Qj}{H H':Hp}{a:Qh}{xs:List V}(e:ar H H')(h:bo K H a xs):bo K H' a xs:=by
 rcases h with(h|⟨o,h⟩)|h
 ·exact .inl (.inl (e _ _ h))
 ·exact .inl (.inr ⟨o,e _ _ h⟩)
 ·exact .inr h
section
variable {prog:Qy}{w:Qv}{A:QF}{R:Result->Qk->Prop}{s:Qk}
theorem Bo{elt target iter:Qp}{ifs:List Qp}{scope:Rh}{pos:QH}{it acc:Qi}{env:QP}(I:Nat->Qk->Prop)
  (turn:∀n s,I n s->Ql (model prog w) A (RB it) (fun r s₁=>match r with
   |none=>R (.ok .next) s₁
   |some v=>Ql (model prog w) A (letOwnedTupleGo target it v) (fun _ s₀=>Ql (model prog w) A (assign target env v) (fun _ s₂=>
     Ql (model prog w) A (forIn ifs true fun c r=>if r=true then do let ok <-isTrue c env (eval c env);pure (Ue ok)else pure (Ue r)) (fun ok s₃=>
      if ok=true then Ql (model prog w) A (eval elt env) (fun x s₄=>
       Ql (model prog w) A (call (.builtin "list.append") [acc,x]) (fun _ s₅=>∃m,m<n/\I m s₅) (fun _ _=>False) s₄) (fun _ _=>False) s₃
      else ∃m,m<n/\I m s₃) (fun _ _=>False) s₂) (fun _ _=>False) s₀) (fun _ _=>False) s₁) (fun _ _=>False) s)
  (n:Nat) (h:I n s):
  Sj (model prog w) A (.compLoop (.ListComp elt [⟨target,iter,ifs,0⟩] scope pos) 0 it acc env) R s:=by
 refine codeAny_loop rfl I (fun n s hI=>?_) n h
 show Ql _ A ((compTurn (.ListComp elt [⟨target,iter,ifs,0⟩] scope pos) 0 it acc env).onRaise (fun x=>do noteFrame x env;theTreesLotGoes x)) _ _ s
 refine wpAny_noted ?_
 rw[compTurn_list]
 refine Qm (wpAny_standAt (Qm (Rl (turn n s hI) (fun r s₁ h₁=>?_) fun _ _ h'=>h'.elim)))
 cases r with
 |none=>exact QG h₁
 |some v=>
  refine Qm (Rl h₁ (fun _ s₀ h₀=>?_) fun _ _ h'=>h'.elim)
  refine Qm (Rl h₀ (fun _ s₂ h₂=>Qm (Rl h₂ (fun ok s₃ h₃=>?_) fun _ _ h'=>h'.elim)) fun _ _ h'=>h'.elim)
  cases ok with
  |false=>exact QG ⟨rfl,h₃⟩
  |true=>
   exact Qm (Qm (Rl h₃ (fun x s₄ h₄=>Qm (Rl h₄ (fun _ s₅ h₅=>QG (QG ⟨rfl,h₅⟩)) fun _ _ h'=>h'.elim)) fun _ _ h'=>h'.elim))
end
def bD(env:QP):List (Qg×Ru)->List (Qg×Qh)->List (Qg×Qh)
 |[],acc=>acc
 |(x,k)::r,acc=>if k==.free then bD env r ((x,(env.cells.lookup x).getD 0)::acc)else bD env r acc
theorem mX{scope:Rh}{env:QP}(h:∀x∈scope.names,x.2=.free->∃c,env.cells.lookup x.1=some c):closureFor scope env=pure (bD env scope.names []):=by
 have all:∀(names:List (Qg×Ru))(acc:List (Qg×Qh)),(∀x∈names,x.2=.free->∃c,env.cells.lookup x.1=some c)->
   (forIn names acc fun (x:Qg×Ru) (r:List (Qg×Qh))=>(if(x.2==R5)=true then do let a <-cellOf env x.1;pure (Ue ((x.1,a)::r))else pure (Ue r):Sem (ForInStep (List (Qg×Qh)))))=pure (bD env names acc):=by
  intro names
  induction names with
  |nil=>intro acc _;rfl
  |cons x r ih=>
   intro acc hx
   obtain⟨n,k⟩:=x
   have hr:=fun y hy=>hx y (Q2 _ hy)
   rw[UA]
   unfold bD
   by_cases hk:(k==R5)=true
   ·obtain⟨c,hc⟩:=hx (n,k) Ri (by simpa using hk)
    have hc':env.cells.lookup n=some c:=hc
    have e1:cellOf env n=pure c:=by unfold cellOf;rw[hc']
    simp only[hk,if_true,e1,pure_bind,hc',Option.getD_some]
    exact ih _ hr
   ·simp only[hk,SO,if_false,pure_bind]
    exact ih _ hr
 have:=all scope.names [] h
 simp only[closureFor]
 first
  |exact this
  |(refine Uw ?_ (this);rfl)
  |(rw[show(forIn scope.names ([]:List (Qg×Qh)) _:Sem _)=_ from this];rfl)
theorem ly{env:QP}:∀(names:List (Qg×Ru))(acc:List (Qg×Qh))(x:Qg)(c:Qh),(x,c)∈bD env names acc->((x,R5)∈names/\c=(env.cells.lookup x).getD 0)\/(x,c)∈acc
 |[],_,_,_,h=>.inr h
 |(y,k)::r,acc,x,c,h=>by
  unfold bD at h
  split at h
  ·rename_i hk
   have hk:k=.free:=by simpa using hk
   rcases ly r _ x c h with⟨h1,h2⟩|h1
   ·exact .inl ⟨Q2 _ h1,h2⟩
   ·rcases QI.mp h1 with e|h1
    ·cases e;subst hk;exact .inl ⟨Ri,rfl⟩
    ·exact .inr h1
  ·rcases ly r _ x c h with⟨h1,h2⟩|h1
   ·exact .inl ⟨Q2 _ h1,h2⟩
   ·exact .inr h1
theorem lY{env:QP}:∀(names:List (Qg×Ru))(acc:List (Qg×Qh))(p:Qg×Qh),p∈acc->p∈bD env names acc
 |[],_,_,h=>h
 |(y,k)::r,acc,p,h=>by
  unfold bD
  split
  ·exact lY r _ p (Q2 _ h)
  ·exact lY r _ p h
theorem lJ{env:QP}:∀(names:List (Qg×Ru))(acc:List (Qg×Qh))(x:Qg),(x,R5)∈names->(x,(env.cells.lookup x).getD 0)∈bD env names acc
 |[],_,_,h=>nomatch h
 |(y,k)::r,acc,x,h=>by
  unfold bD
  rcases QI.mp h with e|h
  ·cases e
   rw[if_pos (by rfl)]
   exact lY r _ _ Ri
  ·split
   ·exact lJ r _ x h
   ·exact lJ r _ x h
theorem mem_lookup{α:Type}:∀{l:List (Qg×α)}{x:Qg}{c:α},(x,c)∈l->∃d,l.lookup x=some d
 |(k,v)::r,x,c,h=>by
  rw[R8]
  cases hb:x==k with
  |true=>exact⟨v,rfl⟩
  |false=>
   rcases QI.mp h with e|h
   ·cases e;simp at hb
   ·exact mem_lookup h
theorem mV{env:QP}{names:List (Qg×Ru)}{x:Qg}{c:Qh}(h:(bD env names []).lookup x=some c)(hh:∀y∈names,y.2=.free->∃c,env.cells.lookup y.1=some c):
  (x,R5)∈names/\env.cells.lookup x=some c:=by
 rcases ly names [] x c (mem_of_lookup h)with⟨h1,h2⟩|h1
 ·obtain⟨d,hd⟩:=hh _ h1 rfl
  have hd':env.cells.lookup x=some d:=hd
  rw[hd']at h2
  exact⟨h1,by rw[h2];exact hd'⟩
 ·exact nomatch h1
theorem pP{env:QP}{names:List (Qg×Ru)}{x:Qg}(hx:(x,R5)∈names)(hh:∀y∈names,y.2=.free->∃c,env.cells.lookup y.1=some c):
  ∃c,(bD env names []).lookup x=some c/\env.cells.lookup x=some c:=by
 obtain⟨d,hd⟩:=mem_lookup (lJ names [] x hx)
 exact⟨d,hd,(mV hd hh).2⟩
theorem tV:∀(names:List (Qg×Ru))(n:Nat)(acc:List (Qg×Qh))(x:Qg),(x,RP)∉names->(Rq n names acc).lookup x=acc.lookup x
 |[],_,_,_,_=>rfl
 |(y,k)::r,n,acc,x,h=>by
  unfold Rq
  have hr:(x,RP)∉r:=fun z=>h (Q2 _ z)
  split
  ·rename_i hk
   have hk:k=.cell:=by simpa using hk
   rw[tV r _ _ x hr,R8]
   cases hb:x==y with
   |true=>
    have e:x=y:=by simpa using hb
    exact absurd Ri (by subst e;subst hk;exact h)
   |false=>rfl
  ·exact tV r n acc x hr
theorem B1:∀(names:List (Qg×Ru))(n:Nat)(acc:List (Qg×Qh))(x:Qg),(x,RP)∈names->∃c,n<=c/\(Rq n names acc).lookup x=some c
 |[],_,_,_,h=>nomatch h
 |(y,k)::r,n,acc,x,h=>by
  unfold Rq
  by_cases hr:(x,RP)∈r
  ·split
   ·obtain⟨c,h1,h2⟩:=B1 r (n+1) ((y,n)::acc) x hr
    exact⟨c,by omega,h2⟩
   ·exact B1 r n acc x hr
  ·have e:(x,RP)=(y,k):=(QI.mp h).resolve_right hr
   injection e with e1 e2
   subst e1
   subst e2
   rw[if_pos (by rfl),tV r _ _ x hr,R8]
   simp
theorem Io:∀(names:List (Qg×Ru))(h:Qq)(acc:List (Qg×Qh))(x:Qg)(c:Qh),(Rq h.objs.size names acc).lookup x=some c->(S8 h names).IsCell c none\/acc.lookup x=some c
 |[],_,_,_,_,h=>.inr h
 |(y,k)::r,h,acc,x,c,e=>by
  unfold Rq at e
  unfold S8
  by_cases hk:(k==RP)=true
  ·rw[if_pos hk]at e ⊢
   have e':(Rq (h.push {cls:=.type "cell",data:=.cell none}).objs.size r ((y,h.objs.size)::acc)).lookup x=some c:=by rw[RS];exact e
   rcases Io r _ _ x c e' with q|q
   ·exact .inl q
   ·rw[R8]at q
    cases hb:x==y with
    |true=>
     rw[hb]at q
     have q':h.objs.size=c:=Rk q
     subst q'
     exact .inl ((show(h.push {cls:=.type "cell",data:=.cell none}).IsCell h.objs.size none from⟨_,QX _ rfl,rfl⟩).keeps (pushCells_keeps _ _))
    |false=>rw[hb]at q;exact .inr q
  ·rw[if_neg hk]at e ⊢
   exact Io r h acc x c e
theorem Fv:∀(names:List (Qg×Ru))(n:Nat)(acc:List (Qg×Qh)),(∀x c,acc.lookup x=some c->c<n)->(∀x y c,acc.lookup x=some c->acc.lookup y=some c->x=y)->
  ∀x y c,(Rq n names acc).lookup x=some c->(Rq n names acc).lookup y=some c->x=y
 |[],_,_,_,h=>h
 |(z,k)::r,n,acc,h1,h2=>by
  unfold Rq
  split
  ·refine Fv r (n+1) _ (fun x c e=>?_) fun x y c e e'=>?_
   ·rw[R8]at e
    cases hb:x==z with
    |true=>rw[hb]at e;exact(Rk e)▸Vi n
    |false=>rw[hb]at e;exact Vm (h1 x c e)
   ·rw[R8]at e e'
    cases hb:x==z with
    |true=>
     rw[hb]at e
     have ec:n=c:=Rk e
     cases hb':y==z with
     | true => have a : x = z := by simpa using hb
               have b:y=z:=by simpa using hb'
               rw[a,b]
     |false=>rw[hb']at e';exact absurd (h1 y c e') (by rw[<-ec];exact RQ n)
    |false=>
     rw[hb]at e
     cases hb':y==z with
     |true=>
      rw[hb']at e'
      have ec:n=c:=Rk e'
      exact absurd (h1 x c e) (by rw[<-ec];exact RQ n)
     |false=>rw[hb']at e';exact h2 x y c e e'
  ·exact Fv r n acc h1 h2
structure ua(N0:List Qg)(sc:Rh)(N:List Qg)(scope:Rh)(mp:List (Option Nat)):Prop where
 kind:scope.kind=.function
 nd:(scope.names.map (·.1)).Nodup
 freeB:(scope.names.all fun x=>!decide (x.2=.free) || (decide (sc.names.lookup x.1=some .cell) || decide (sc.names.lookup x.1=some .free)))=true
 len:mp.length=N.length
 map:((QM mp.length).all fun i=>match mp[i]? with
  |some (some j)=>(match N[i]?,N0[j]? with
   |some x,some y=>decide (x=y)&&decide (scope.names.lookup x=some .free)
   |_,_=>false)
  |_=>true)=true
theorem ua.free{N0:List Qg}{sc:Rh}{N:List Qg}{scope:Rh}{mp:List (Option Nat)}(S:ua N0 sc N scope mp):∀x∈scope.names,x.2=.free->sc.names.lookup x.1=some .cell\/sc.names.lookup x.1=some .free:=fun x hx e=>by
 have q:=RL.mp S.freeB x hx
 rw[decide_eq_true e]at q
 simpa using q
theorem ua.at{N0:List Qg}{sc:Rh}{N:List Qg}{scope:Rh}{mp:List (Option Nat)}(S:ua N0 sc N scope mp){i j:Nat}(h:mp[i]?=some (some j)):
  ∃x,N[i]?=some x/\N0[j]?=some x/\scope.names.lookup x=some .free:=by
 have hi:i<mp.length:=(Q0.mp h).1
 have q:=RL.mp S.map i (Ss.mpr hi)
 rw[h]at q
 simp only at q
 cases e1:N[i]? with
 |none=>rw[e1]at q;simp at q
 |some x=>
  cases e2:N0[j]? with
  |none=>rw[e1,e2]at q;simp at q
  |some y=>
   rw[e1,e2]at q
   simp only[Rj,decide_eq_true_eq]at q
   obtain⟨q1,q2⟩:=q
   subst q1
   exact⟨x,rfl,rfl,q2⟩
theorem eO{α:Type}:∀{l:List (Qg×α)}{x:Qg}{a:α},(l.map (·.1)).Nodup->(x,a)∈l->l.lookup x=some a
 |(k,v)::r,x,a,nd,h=>by
  have nd:(k::r.map (·.1)).Nodup:=nd
  obtain⟨n1,n2⟩:=Sb.mp nd
  rw[R8]
  rcases QI.mp h with e|h'
  ·cases e;simp
  ·have ne:(x==k)=false:=by
    cases hb:x==k with
    |false=>rfl
    |true=>
     have e:x=k:=by simpa using hb
     subst e
     exact(n1 (Qu.mpr ⟨(x,a),h',rfl⟩)).elim
   rw[ne]
   exact eO n2 h'
def dM(mp:List (Option Nat))(σ:St):St:=mp.map fun o=>o.bind fun j=>(σ[j]?).join
noncomputable def gm(X:Cx)(N:List Qg)(scope:Rh)(C:Qh)(cl:List (Qg×Qh))(s:Qk)(H:Hp)(fp:List Qh)(pins:List (Qh×Qo)):Cx where
 prog:=X.prog
 w:=X.w
 K:=X.K
 mg:=X.mg
 base:=X.base
 A:=X.A
 N:=N
 s₀:=s
 H₀:=H
 env:=compEnvC scope (Rq (C+1) scope.names cl) C X.env
 outer:=X.stack
 stack:=X.stack
 ex:=fp
 fn:=fun x=>decide (scope.names.lookup x=some .cell)
 calm:=X.calm
 pn:=X.pn++pins
 xe:=fun _ _=>False
theorem gp{env:QP}:∀{names:List (Qg×Ru)}{x:Qg}{k:Ru},(names.map fun (n,k)=>if(k==R5&&env.scope.kind==.function&&env.kindOf n==some .cell)then(n,RP)else(n,k)).lookup x=some k->
  names.lookup x=some k\/(names.lookup x=some .free/\k=.cell/\env.kindOf x=some .cell)
 |[],_,_,h=>by simp at h
 |(n,k')::r,x,k,h=>by
  have ih:=@gp env r x k
  rw[QW]at h
  rw[R8]
  cases hx:x==n with
  |true=>
   have e:x=n:=by simpa using hx
   subst e
   by_cases hc:(k'==R5&&env.scope.kind==.function&&env.kindOf x==some .cell)=true
   ·simp only[hc,if_true,R8,beq_self_eq_true,Xw]at h
    rw[Rj,Rj]at hc
    obtain⟨⟨c1,_⟩,c3⟩:=hc
    exact .inr ⟨by rw[show k'=.free by simpa using c1],h.symm,by simpa using c3⟩
   ·simp only[hc,SO,if_false,R8,beq_self_eq_true,Xw]at h
    exact .inl (by rw[h])
  |false=>
   refine ih ?_
   by_cases hc:(k'==R5&&env.scope.kind==.function&&env.kindOf n==some .cell)=true
   ·simpa only[hc,if_true,R8,hx]using h
   ·simpa only[hc,SO,if_false,R8,hx]using h
theorem M3{M:Model}{A:QF}{E:Qi->Qk->Prop}{s:Qk}{scope:Rh}{globals:Qh}{cl:List (Qg×Qh)}{qual:Qg}{env:QP}{Q:QP->Qk->Prop}
  (h:Q {scope:=scope,locals:=s.heap.objs.size,globals:=globals,cells:=Rq (s.heap.objs.size+1) scope.names cl,qual:=qual,func:=none,code:=env.code,frame:=env.frame,builtins:=env.builtins}
   {s with heap:=S8 (s.heap.push {cls:=.type "dict",data:=.dict #[]}) scope.names}):
  Ql M A (newFunctionEnv scope globals cl [] qual none .none (some env)) Q E s:=by
 simp only[newFunctionEnv,YN,if_true]
 refine Qm (wpAny_alloc ?_)
 refine Qm (wpAny_layCells _ (fun name kind cells=>by cases hkc:kind==RP<;>simp[hkc]) _ _ _ _ ?_)
 rw[show({s with heap:=s.heap.push {cls:=.type "dict",data:=.dict #[]}}:Qk).heap.objs.size=s.heap.objs.size+1 from RS ..]
 first
  |exact Qm (QG (QG h))
  |exact QG h
  |(rw[UU];exact Qm (QG (QG h)))
section
variable {X:Cx}{pins:List (Qh×Qo)}{σ:St}{H:Hp}{s:Qk}
theorem He{N:List Qg}{scope:Rh}{mp:List (Option Nat)}{fp:List Qh}(S:ua X.N X.env.scope N scope mp)(I:Inv X pins σ H s)(f:∀b∈fp,rj X pins H b)(fo:∀b∈fp,b<s.heap.objs.size):
  Inv (gm X N scope s.heap.objs.size (bD X.env scope.names []) s H fp pins) [] (dM mp σ) H {s with heap:=S8 (s.heap.push {cls:=.type "dict",data:=.dict #[]}) scope.names}:=by
 have hk:∀b o,s.heap.get? b=some o->(S8 (s.heap.push {cls:=.type "dict",data:=.dict #[]}) scope.names).get? b=some o:=fun b o e=>pushCells_keeps _ _ b o (QS _ e)
 have hfree:∀y∈scope.names,y.2=.free->∃c,X.env.cells.lookup y.1=some c:=fun y hy hf=>I.ok.has y.1 (S.free y hy hf)
 have clo:∀x c,(bD X.env scope.names []).lookup x=some c->(x,R5)∈scope.names/\X.env.cells.lookup x=some c:=fun x c e=>mV e hfree
 have old:∀x c,X.env.cells.lookup x=some c->c<s.heap.objs.size:=fun x c e=>by
  obtain⟨v,q⟩:=I.cell x c e
  exact q.lt
 have cell_of:∀x c,(Rq (s.heap.objs.size+1) scope.names (bD X.env scope.names [])).lookup x=some c->(s.heap.objs.size+1<=c/\(x,RP)∈scope.names)\/((x,R5)∈scope.names/\X.env.cells.lookup x=some c):=fun x c e=>by
  by_cases hx:(x,RP)∈scope.names
  ·obtain⟨d,h1,h2⟩:=B1 scope.names (s.heap.objs.size+1) (bD X.env scope.names []) x hx
   rw[h2]at e
   cases e
   exact .inl ⟨h1,hx⟩
  ·rw[tV _ _ _ x hx]at e
   exact .inr (clo x c e)
 have isCell:∀x c,(Rq (s.heap.objs.size+1) scope.names (bD X.env scope.names [])).lookup x=some c->∃v,(S8 (s.heap.push {cls:=.type "dict",data:=.dict #[]}) scope.names).IsCell c v:=fun x c e=>by
  have e':(Rq (s.heap.push {cls:=.type "dict",data:=.dict #[]}).objs.size scope.names (bD X.env scope.names [])).lookup x=some c:=by rw[RS];exact e
  rcases Io scope.names _ _ x c e' with q|q
  ·exact⟨none,q⟩
  ·obtain⟨v,z⟩:=I.cell x c (clo x c q).2
   exact⟨v,z.keeps hk⟩
 refine⟨⟨I.ok.mod,S.kind,I.ok.glob,I.ok.blt,QC _,?_,?_,?_,I.ok.hd,I.ok.frames,.inl rfl,?_,I.bs,Qt I.ok.bsz I.sz,?_,?_,I.stack,I.stkFree⟩,
  rfl,I.bare,Un.kept hk,⟨fun _=>none,?_,?_⟩,isCell,I.hok.fresh (QC _),?_,?_,I.hok.kept hk,?_⟩
 ·
  refine Fv scope.names _ _ (fun x c e=>?_) fun x y c e e'=>I.ok.inj x y c (clo x c e).2 (clo y c e').2
  exact Vm (old x c (clo x c e).2)
 ·
  intro x hx
  have key:(x,RP)∈scope.names\/(x,R5)∈scope.names:=by
   have hx':(relabel scope X.env).names.lookup x=some .cell\/(relabel scope X.env).names.lookup x=some .free:=hx
   rcases hx' with q|q
   ·rcases gp q with z|⟨z,_,_⟩
    ·exact .inl (mem_of_lookup z)
    ·exact .inr (mem_of_lookup z)
   ·rcases gp q with z|⟨z,_,_⟩
    ·exact .inr (mem_of_lookup z)
    ·exact .inr (mem_of_lookup z)
  by_cases hc:(x,RP)∈scope.names
  ·obtain⟨d,_,h2⟩:=B1 scope.names (s.heap.objs.size+1) (bD X.env scope.names []) x hc
   exact⟨d,h2⟩
  ·obtain⟨d,h2,_⟩:=pP (key.resolve_left hc) hfree
   exact⟨d,by show(Rq (s.heap.objs.size+1) scope.names (bD X.env scope.names [])).lookup x=some d;rw[tV _ _ _ x hc];exact h2⟩
 ·
  intro x c hf e
  have hc:(x,RP)∈scope.names:=mem_of_lookup (of_decide_eq_true hf)
  rcases cell_of x c e with⟨h1,_⟩|⟨h1,_⟩
  ·exact VQ h1
  ·have q1:=eO S.nd hc
   have q2:=eO S.nd h1
   rw[q1]at q2;cases q2
 ·
  intro b hb
  refine⟨QV (fo b hb),fun x c e z=>?_⟩
  subst z
  rcases cell_of x c e with⟨h1,_⟩|⟨_,h1⟩
  ·exact absurd (Q4 (fo c hb) (VQ h1)) (RQ _)
  ·exact(f c hb).2.2.2.2.1 x c h1 rfl
 ·
  intro b o e hb
  rcases(f b hb).2.2.2.1 with z|z
  ·exact I.ok.noex b o e z
  ·exact absurd (Q4 (Q4 (QJ e) I.ok.bsz) z) (RQ _)
 ·
  intro b hb hs
  rcases QI.mp (I.stkSub b hs)with z|z
  ·exact(f b hb).2.1 z
  ·exact(f b hb).2.2.1 z
 ·
  exact(aaJ s.heap (.type "dict")).keeps (pushCells_keeps _ _)
 ·
  intro i x v e1 e2 _
  have e2':(mp.map fun o=>o.bind fun j=>(σ[j]?).join)[i]?=some (some v):=e2
  rw[SM]at e2'
  cases em:mp[i]? with
  |none=>rw[em]at e2';cases e2'
  |some o=>
   rw[em]at e2'
   cases o with
   |none=>cases e2'
   |some j=>
    have e3:(σ[j]?).join=some v:=Rk e2'
    have e4:σ[j]?=some (some v):=by
     cases q:σ[j]? with
     |none=>rw[q]at e3;cases e3
     |some z=>rw[q]at e3;exact congrArg some e3
    obtain⟨y,h1,h2,h3⟩:=S.at em
    have h1':some x=some y:=e1.symm.trans h1
    cases h1'
    have hm:=mem_of_lookup h3
    have vis:M5 X.env.scope x:=(S.free _ hm rfl).elim (fun z=>.inr (.inl z)) fun z=>.inr (.inr z)
    obtain⟨m,hn,hl⟩:=I.loc
    obtain⟨u,r,l⟩:=hl j x v h2 e4 vis
    refine⟨u,r,.inr ?_⟩
    have nc:(x,RP)∉scope.names:=fun z=>by
     have q2:=eO S.nd z
     rw[h3]at q2;cases q2
    obtain⟨c,hc1,hc2⟩:=pP hm hfree
    have hc3:(Rq (s.heap.objs.size+1) scope.names (bD X.env scope.names [])).lookup x=some c:=by rw[tV _ _ _ x nc];exact hc1
    have hcell:s.heap.IsCell c (some u):=by
     rcases l with⟨hk',_⟩|⟨_,c',e5,e6⟩
     ·exfalso
      have hk':X.env.scope.names.lookup x=some .local:=hk'
      rcases S.free _ hm rfl with z|z
      ·have z:X.env.scope.names.lookup x=some .cell:=z
       rw[hk']at z;cases z
      ·have z:X.env.scope.names.lookup x=some .free:=z
       rw[hk']at z;cases z
     ·rw[hc2]at e5;cases e5;exact e6
    refine⟨?_,c,hc3,hcell.keeps hk⟩
    rename_i hv
    have hv:M5 (relabel scope X.env) x:=hv
    rcases hv with z|z|z
    ·exfalso
     rcases gp (show(relabel scope X.env).names.lookup x=some .local from z)with q|⟨_,q,_⟩
     ·rw[h3]at q;cases q
     ·cases q
    ·exact .inl z
    ·exact .inr z
 ·
  intro x c e
  rcases cell_of x c e with⟨h1,_⟩|⟨_,h1⟩
  ·exact I.hok.fresh (VQ h1)
  ·exact I.freeC x c h1
 ·
  intro p hp
  have hp':p∈X.pn++pins:=by simpa[gm]using hp
  obtain⟨e,n,ne,nf,d⟩:=I.pin p hp'
  refine⟨hk _ _ e,n,QV (QJ e),fun z=>?_,d⟩
  rcases QI.mp (I.stkSub _ z)with q|q
  ·exact ne q
  ·exact nf q
 ·show(mp.map _).length=N.length
  rw[Qw]
  exact S.len
end
noncomputable def JY(X:Cx)(ifs:List Qp)(t:TT):Prop:=
 ∀(pins:List (Qh×Qo))(s:Qk)(σ:St)(H:Hp)(Q:Bool->Hp->Prop),Inv X pins σ H s->t σ H Q->
  Ql (model X.prog X.w) X.A (forIn ifs true fun c r=>if r=true then do let ok <-isTrue c X.env (eval c X.env);pure (Ue ok)else pure (Ue r)) (TP X pins σ Q) X.xe s
def eA:TT:=fun _ H Q=>Q true H
theorem bQ{X:Cx}:JY X [] eA:=fun _ _ _ H _ I h=>wpAny_tests_nil ⟨H,I,h⟩
theorem jq{X:Cx}{c:Qp}{t:TT}(h:PT X c t):JY X [c] t:=fun pins s σ H Q I q=>wpAny_tests_one (h pins s σ H Q I q)
noncomputable def dP(mp:List (Option Nat))(g:TG)(tt:TT)(te:TE)(J:It)(σ:St)(H:Hp)(Q:VK):Prop:=
 ∀l,H l=none->∃W:Nat->Nat->List V->St->Hp->Prop,(∃m,W 0 m [] (dM mp σ) (upd H l (.lst [])))/\∀i m acc σ' H',W i m acc σ' H'->
  (J.stop i H'/\Q (.ref l) H')\/(J.go i H'/\acc.length<Qr/\∃Nx:List V->St->Hp->Prop,(∀acc' σ2 H2,Nx acc' σ2 H2->∃m',m'<m/\W (i+1) m' acc' σ2 H2)/\
   ∀x H2,J.yld i H' x H2->g x σ' H2 fun σ2 H3=>tt σ2 H3 fun b H4=>if b=true then te σ2 H4 fun v H5=>H5 l=some (.lst acc)/\Nx (acc++[v]) σ2 (upd H5 l (.lst (acc++[v])))else Nx acc σ2 H4)
def cy(mp:List (Option Nat))(wi:TI)(g:TG)(tt:TT)(te:TE):TE:=fun σ H Q=>wi σ H fun J H1=>dP mp g tt te J σ H1 Q
section
variable {X:Cx}{elt iter tg:Qp}{ifs:List Qp}{scope:Rh}{pos:QH}{N:List Qg}{mp:List (Option Nat)}{wi:TI}{g:TG}{tt:TT}{te:TE}
theorem xt{pins:List (Qh×Qo)}{σ:St}{H2:Hp}{s2:Qk}{it:Qh}{fp:List Qh}{tn:Nat->Qq->Prop}{J:It}{Q:VK}{RR:Qi->Qh->Result->Qk->Prop}{E:Qi->Qk->Prop}
  (hc:X.calm=true) (S:ua X.N X.env.scope N scope mp) (I2:Inv X pins σ H2 s2) (T:Turn X.prog X.w X.K tg J fp it tn) (st2:tn 0 s2.heap) (f2:∀b∈fp,rj X pins H2 b)
  (hg:∀C cl s H fp pins,PG (gm X N scope C cl s H fp pins) tg g) (ht:∀C cl s H fp pins,JY (gm X N scope C cl s H fp pins) ifs tt) (he:∀C cl s H fp pins,PE (gm X N scope C cl s H fp pins) elt te)
  (k:dP mp g tt te J σ H2 Q)
  (fin:∀(l C:Qh)(m:Qg->Option Qi)(s':Qk)(H':Hp),Inv X pins σ H' s'->s'.heap.Ns C m->H' C=none->C≠X.env.locals->X.s₀.heap.objs.size<=C->(∀x c,X.env.cells.lookup x=some c->c≠C)->(∀p∈X.pn++pins,p.1≠C)->
   Q (.ref l) H'->RR (.ref l) C (.ok .next) s'):
  Ql (model X.prog X.w) X.A (newList []) (fun acc s₃=>Ql (model X.prog X.w) X.A (newFunctionEnv scope X.env.globals (bD X.env scope.names []) [] X.env.qual none .none (some X.env)) (fun cenv s₄=>
   Sj (model X.prog X.w) X.A (.compStart (.ListComp elt [⟨tg,iter,ifs,0⟩] scope pos) 0 (.ref it) acc {cenv with scope:=relabel scope X.env}) (RR acc cenv.locals) s₄) E s₃) E s2:=by
 refine wpAny_newList ?_ (Rm _)
 have I3:Inv X pins σ (upd H2 s2.heap.objs.size (.lst [])) {s2 with heap:=s2.heap.push {cls:=.type "list",data:=.seq ([]:List Qi).toArray}}:=I2.lnew (t':=s2.toks) (its:=[]) .nil (Rm _)
 have fl:H2 s2.heap.objs.size=none:=I2.fresh
 have nfl:s2.heap.objs.size∉fp:=fun z=>by
  obtain⟨o,e,_⟩:=T.obj 0 _ st2 _ z
  exact absurd (QJ e) (RQ _)
 have fo2:∀b∈fp,b<s2.heap.objs.size:=fun b hb=>by
  obtain⟨o,e,_⟩:=T.obj 0 _ st2 b hb
  exact QJ e
 have f3:∀b∈fp,rj X pins (upd H2 s2.heap.objs.size (.lst [])) b:=fun b hb=>by
  obtain⟨h0,hr⟩:=f2 b hb
  exact⟨by rw[ax (QV (fo2 b hb))];exact h0,hr⟩
 have k3:=k s2.heap.objs.size fl
 clear k
 have st3:tn 0 (s2.heap.push {cls:=.type "list",data:=.seq ([]:List Qi).toArray}):=T.keep 0 _ _ st2 fun b _ o e=>QS _ e
 have fo3:∀b∈fp,b<(s2.heap.push {cls:=.type "list",data:=.seq ([]:List Qi).toArray}).objs.size:=fun b hb=>by rw[RS];exact Vm (fo2 b hb)
 generalize hs3:({s2 with heap:=s2.heap.push {cls:=.type "list",data:=.seq ([]:List Qi).toArray}}:Qk)=s3 at I3 ⊢
 have st3:tn 0 s3.heap:=by rw[<-hs3];exact st3
 have fo3:∀b∈fp,b<s3.heap.objs.size:=by rw[<-hs3];exact fo3
 generalize s2.heap.objs.size=l at *
 generalize upd H2 l (.lst [])=H3 at *
 refine M3 ?_
 have I4:=He S I3 f3 fo3
 obtain⟨W,⟨m0,w0⟩,turn⟩:=k3
 have st4:tn 0 (S8 (s3.heap.push {cls:=.type "dict",data:=.dict #[]}) scope.names):=T.keep 0 _ _ st3 fun b _ o e=>pushCells_keeps _ _ b o (QS _ e)
 generalize hs4:({s3 with heap:=S8 (s3.heap.push {cls:=.type "dict",data:=.dict #[]}) scope.names}:Qk)=s4 at I4 ⊢
 have st4:tn 0 s4.heap:=by rw[<-hs4];exact st4
 have stat:∀{H':Hp},(∀b∈fp,H' b=none)->∀b∈fp,rj (gm X N scope s3.heap.objs.size (bD X.env scope.names []) s3 H3 fp pins) [] H' b:=fun {H'} hn b hb=>by
  refine⟨hn b hb,(I4.ok.exf b hb).1,I4.ok.exfs b hb,.inl hb,(I4.ok.exf b hb).2,fun p hp=>?_⟩
  exact(f3 b hb).2.2.2.2.2 p (by simpa[gm]using hp)
 have back:∀{σ':St}{H':Hp}{s':Qk}{ps:List (Qh×Qo)},Inv (gm X N scope s3.heap.objs.size (bD X.env scope.names []) s3 H3 fp pins) ps σ' H' s'->Inv X pins σ H' s':=fun {σ' H' s' ps} I'=>
  I3.call' (ch:=fp) I'.os I'.base I'.hok I'.bare fun b hb=>⟨(f3 b hb).2.2.2.1,(f3 b hb).2.1,(f3 b hb).2.2.2.2.1,(f3 b hb).2.2.2.2.2⟩
 have loop:Sj (model X.prog X.w) X.A (.compLoop (.ListComp elt [⟨tg,iter,ifs,0⟩] scope pos) 0 (.ref it) (.ref l) (compEnvC scope (Rq (s3.heap.objs.size+1) scope.names (bD X.env scope.names [])) s3.heap.objs.size X.env)) (RR (.ref l) s3.heap.objs.size) s4:=by
  refine Bo (fun n s'=>∃i acc σ' H',Inv (gm X N scope s3.heap.objs.size (bD X.env scope.names []) s3 H3 fp pins) [] σ' H' s'/\tn i s'.heap/\(∀b∈fp,H' b=none)/\W i n acc σ' H') ?_ m0
   ⟨0,[],dM mp σ,H3,I4,st4,fun b hb=>(f3 b hb).1,w0⟩
  rintro n s5 ⟨i,acc,σ5,H5,I5,st5,fr5,w5⟩
  rcases turn i n acc σ5 H5 w5 with⟨stop,q⟩|⟨go,hz,Nx,hN,step⟩
  ·refine cX (T.done (gm X N scope s3.heap.objs.size (bD X.env scope.names []) s3 H3 fp pins) rfl rfl rfl hc i [] s5 σ5 H5 _ I5 (stat fr5) st5 stop) fun r s6 ⟨hr,I6⟩=>?_
   subst hr
   obtain⟨m,hn,_⟩:=I6.loc
   refine fin l _ m s6 H5 (back I6) hn I6.free ?_ I3.sz (fun x c e z=>?_) (fun p hp z=>?_) q
   ·exact RK I3.lt
   ·obtain⟨v,y⟩:=I3.cell x c e
    exact absurd y.lt (by rw[z];exact RQ _)
   ·exact absurd (QJ (I3.pin p hp).1) (by rw[z];exact RQ _)
  ·refine cX (T.item (gm X N scope s3.heap.objs.size (bD X.env scope.names []) s3 H3 fp pins) rfl rfl rfl hc i [] s5 σ5 H5 _ I5 (stat fr5) st5 go) fun r s6 ⟨u,hr,h6⟩=>?_
   subst hr
   refine cX h6 fun _ s7 ⟨x,H7,I7,r7,y7,st7,fr7⟩=>?_
   have I7':=I7.pinned (stat fr7) (T.obj _ _ st7)
   have again:∀{s8:Qk}{acc':List V}{σ8:St}{H8:Hp},Inv (gm X N scope s3.heap.objs.size (bD X.env scope.names []) s3 H3 fp pins) ([]++vR fp s7.heap) σ8 H8 s8->Nx acc' σ8 H8->
     ∃m,m<n/\∃i acc σ' H',Inv (gm X N scope s3.heap.objs.size (bD X.env scope.names []) s3 H3 fp pins) [] σ' H' s8/\tn i s8.heap/\(∀b∈fp,H' b=none)/\W i m acc σ' H':=fun {s8 acc' σ8 H8} I8 n8=>by
    obtain⟨m',hm,w8⟩:=hN acc' σ8 H8 n8
    refine⟨m',hm,i+1,acc',σ8,H8,I8.unpinned,T.keep _ _ _ st7 fun b hb o e=>(I8.pin (b,o) (RH _ (RH _ (mC hb e)))).1,fun b hb=>?_,w8⟩
    obtain⟨o,e,d⟩:=T.obj _ _ st7 b hb
    exact(I8.pin (b,o) (RH _ (RH _ (mC hb e)))).2.1
   refine cX (hg _ _ _ _ _ _ _ s7 σ5 H7 x u _ I7' r7 (step x H7 y7)) fun _ s8 ⟨σ8,H8,I8,q8⟩=>?_
   refine cX (ht _ _ _ _ _ _ _ s8 σ8 H8 _ I8 q8) fun b s9 ⟨H9,I9,q9⟩=>?_
   cases b with
   |false=>
    rw[if_neg Rf]at q9 ⊢
    exact again I9 q9
   |true=>
    rw[if_pos rfl]at q9 ⊢
    refine cX (he _ _ _ _ _ _ _ s9 σ8 H9 _ I9 q9) fun v s10 ⟨y,H10,I10,r10,q10,n10⟩=>?_
    refine cX (gI _ s10 σ8 H10 (.ref l) [y] (.ref l) [v] (fun _ H'=>Nx (acc++[y]) σ8 H') I10 rfl (.cons r10 .nil) ⟨l,acc,y,rfl,rfl,q10,hz,n10⟩) fun _ s11 ⟨_,H11,I11,_,q11⟩=>?_
    exact again I11 q11
 exact codeAny_compStart_list loop (T.self _ 0 _ _ _ st4 loop)
theorem cg(hc:X.calm=true)(S:ua X.N X.env.scope N scope mp)(hi:PI X tg iter wi)
  (hg:∀C cl s H fp pins,PG (gm X N scope C cl s H fp pins) tg g) (ht:∀C cl s H fp pins,JY (gm X N scope C cl s H fp pins) ifs tt) (he:∀C cl s H fp pins,PE (gm X N scope C cl s H fp pins) elt te)
  (hs:∀x,foldedSetIterable iter X.env x=pure x:=by intro _;rfl):PE X (.ListComp elt [⟨tg,iter,ifs,0⟩] scope pos) (cy mp wi g tt te):=by
 intro pins s σ H Q I h
 rw[eval_ListComp]
 have hfree:∀y∈scope.names,y.2=.free->∃c,X.env.cells.lookup y.1=some c:=fun y hy hf=>I.ok.has y.1 (S.free y hy hf)
 refine wpAny_comprehension_free (use:=none) rfl hs (mX hfree) S.kind (fun x hx e=>eO S.nd (by rw[<-e];exact hx)) ?_
 show Ql _ _ (eval iter X.env) _ _ _
 refine cX (hi pins s σ H _ I h) fun v s1 h1=>cX h1 fun itv s2 h2=>?_
 obtain⟨it,fp,tn,J,H2,e,I2,T,st2,f2,k⟩:=h2
 subst e
 refine xt (RR:=fun acc C=>compPost (model X.prog X.w) X.A X.xe none (EP X pins σ Q) acc C) hc S I2 T st2 f2 hg ht he k ?_
 intro l C m s' H' I' hn hC h1 h2 h3 h4 q
 exact⟨m,hn,fun h' hb=>⟨.ref l,H',I'.turned (t':=s'.toks) (it:=C) (fun b o hbC e=>hb.extBut b o hbC e) hC (QT (QT h1)) (.inr h2) h3 h4,rfl,q⟩⟩
theorem oU{i:Nat}{x:Qg}{pos' spos:QH}(hN:X.N.Nodup)(hxi:X.N[i]?=some x)(hx:Loc X.env.scope x)(hc:X.calm=true)(S:ua X.N X.env.scope N scope mp)(hi:PI X tg iter wi)
  (hg:∀C cl s H fp pins,PG (gm X N scope C cl s H fp pins) tg g) (ht:∀C cl s H fp pins,JY (gm X N scope C cl s H fp pins) ifs tt) (he:∀C cl s H fp pins,PE (gm X N scope C cl s H fp pins) elt te)
  (hsw:swapsWith (.ListComp elt [⟨tg,iter,ifs,0⟩] scope pos) (some (.Name x pos')) spos.line X.env=pure true)
  (hf:X.fn x=true\/X.env.scope.names.lookup x=some .local:=by first|exact .inl rfl|exact .inr rfl|assumption)
  (hs:∀x,foldedSetIterable iter X.env x=pure x:=by intro _;rfl):PS X (.Assign [.Name x pos'] (.ListComp elt [⟨tg,iter,ifs,0⟩] scope pos) spos) (bM (cy mp wi g tt te) (av i)):=by
 intro pins s σ H D I h
 have hfree:∀y∈scope.names,y.2=.free->∃c,X.env.cells.lookup y.1=some c:=fun y hy hf=>I.ok.has y.1 (S.free y hy hf)
 rw[exec_Assign_Name_used _ _ _ _ hsw]
 refine Qm (wpAny_standAt (Qm ?_))
 show Ql _ _ (do let _ <-comprehension (.ListComp elt [⟨tg,iter,ifs,0⟩] scope pos) scope X.env _ (newList []) false (eval iter X.env) (some (assign (.Name x pos') X.env))) _ _ s
 refine Qm (Rl (wpAny_comprehension_free (use:=some (assign (.Name x pos') X.env)) (Q:=fun _ s'=>SP X pins D .next s') rfl hs (mX hfree) S.kind (fun x hx e=>eO S.nd (by rw[<-e];exact hx)) ?_) (fun _ s' hq=>QG (QG hq)) fun _ _ e=>e)
 refine cX (hi pins s σ H _ I h) fun v s1 h1=>cX h1 fun itv s2 h2=>?_
 obtain⟨it,fp,tn,J,H2,e,I2,T,st2,f2,k⟩:=h2
 subst e
 refine xt (Q:=fun y H1=>av i y σ H1 D.nx) (RR:=fun acc C=>compPost (model X.prog X.w) X.A X.xe (some (assign (.Name x pos') X.env)) (fun _ s'=>SP X pins D .next s') acc C) hc S I2 T st2 f2 hg ht he k ?_
 intro l C m s' H' I' hn hC h1 h2 h3 h4 q
 show Ql _ _ (assign (.Name x pos') X.env (.ref l)) _ _ _
 refine wpAny_assign_Name (Ar I' hN hxi hx (v:=.ref l) rfl (fun s'' I'' ⟨a,hsb,ha⟩=>?_) hf)
 have hCa:C≠a:=by
  rcases ha with z|z
  ·rw[z];exact h1
  ·exact fun y=>h3 x a z y.symm
 exact⟨m,hn.sameBut hsb hCa,fun h' hb=>⟨_,H',I''.turned (t':=s''.toks) (it:=C) (fun b o hbC e=>hb.extBut b o hbC e) hC (QT (QT h1)) (.inr h2) h3 h4,q⟩⟩
end
section
variable {mp:List (Option Nat)}{g:TG}{tt:TT}{te:TE}{σ:St}{H:Hp}{Q:VK}
theorem Ht{K:Qj}{a:Qh}{xs:List V}(Pv:Qh->Nat->List V->St->Hp->Prop)(h0:∀l,H l=none->Pv l 0 [] (dM mp σ) (upd H l (.lst [])))
  (hl:∀l i acc σ' H',H l=none->Pv l i acc σ' H'->bo K H' a xs/\acc.length<=i)
  (hs:∀l i x acc σ' H',H l=none->xs[i]?=some x->Pv l i acc σ' H'->g x σ' H' fun σ2 H3=>tt σ2 H3 fun b H4=>if b=true then te σ2 H4 fun v H5=>H5 l=some (.lst acc)/\Pv l (i+1) (acc++[v]) σ2 (upd H5 l (.lst (acc++[v])))else Pv l (i+1) acc σ2 H4)
  (hd:∀l acc σ' H',H l=none->Pv l xs.length acc σ' H'->Q (.ref l) H') (hz:xs.length<=Qr):dP mp g tt te (Il K a) σ H Q:=by
 intro l hn
 exists fun i m acc σ H=>m=xs.length-i/\i<=xs.length/\Pv l i acc σ H,⟨xs.length,⋯,Rm _,h0 l hn⟩
 rintro i m acc σ' H' ⟨rfl,hi,p⟩
 obtain⟨q,ha⟩:=hl l i acc σ' H' hn p
 by_cases hlt:i<xs.length
 ·refine .inr ⟨⟨xs,xs[i],q,by simp[hlt]⟩,by omega,Pv l (i+1),fun acc' σ2 H2 p'=>⟨xs.length-(i+1),by omega,rfl,hlt,p'⟩,fun x H2 y=>?_⟩
  obtain⟨e,y⟩:=y
  subst e
  exact hs l i x acc σ' _ hn (y xs q) p
 ·have e:i=xs.length:=by omega
  subst e
  exact .inl ⟨⟨xs,q,QC _⟩,hd l acc σ' H' hn p⟩
theorem Fp{lo:Int}{n:Nat}(Pv:Qh->Nat->List V->St->Hp->Prop)(h0:∀l,H l=none->Pv l 0 [] (dM mp σ) (upd H l (.lst [])))
  (hl:∀l i acc σ' H',H l=none->Pv l i acc σ' H'->acc.length<=i)
  (hs:∀l i acc σ' H',H l=none->i<n->Pv l i acc σ' H'->g (.int (lo+i)) σ' H' fun σ2 H3=>tt σ2 H3 fun b H4=>if b=true then te σ2 H4 fun v H5=>H5 l=some (.lst acc)/\Pv l (i+1) (acc++[v]) σ2 (upd H5 l (.lst (acc++[v])))else Pv l (i+1) acc σ2 H4)
  (hd:∀l acc σ' H',H l=none->Pv l n acc σ' H'->Q (.ref l) H') (hz:n<=Qr):dP mp g tt te (Kg lo n) σ H Q:=by
 intro l hn
 exists fun i m acc σ H=>m=n-i/\i<=n/\Pv l i acc σ H,⟨n,⋯,Rm _,h0 l hn⟩
 rintro i m acc σ' H' ⟨rfl,hi,p⟩
 have ha:=hl l i acc σ' H' hn p
 by_cases hlt:i<n
 ·refine .inr ⟨hlt,by omega,Pv l (i+1),fun acc' σ2 H2 p'=>⟨n-(i+1),by omega,rfl,hlt,p'⟩,fun x H2 y=>?_⟩
  obtain⟨e,y⟩:=y
  subst e y
  exact hs l i acc σ' _ hn hlt p
 ·have e:i=n:=by omega
  subst e
  exact .inl ⟨QC _,hd l acc σ' H' hn p⟩
end
section
variable {X:Cx}
theorem wg(hc:X.calm=true):d4 X (.builtin "sum") (fun xs H Q=>∃(p:Qh)(ns:List Int),xs=[.ref p]/\bo X.K H p (ns.map V.int)/\Q (.int ns.sum) H):=by
 intro pins s σ H xs us Q I r h
 obtain⟨p,ns,rfl,hS,q⟩:=h
 obtain⟨u,rfl,ru⟩:=vals1 r
 cases ru
 obtain⟨its,rv,pl,hz⟩:=I.list hS
 have hi:Ta its ns:=intsAre_of rv
 have hall:AllInts its.toArray:=hi.allInts
 obtain⟨zs,ez⟩:=hall.items
 have hl:s.heap.IsList p (intItems zs):=by rw[<-ez];exact pl.isList
 refine sum_intListG (I.ok.hd hc) hl fun h' tk t' k=>⟨.int ns.sum,H,I.kept k,⟨t',?_⟩,q⟩
 have e1:ns=numsOf (intItems zs).toList:=by rw[<-ez];exact hi.numsOf.symm
 rw[e1,nums_intItems,preSum_eq,S7 ⋯]
theorem ur:d4 X (.builtin "sorted") (fun xs H Q=>∃(p:Qh)(ns:List Int),xs=[.ref p]/\bo X.K H p (ns.map V.int)/\ns.length<64/\∀(l:Qh)(ms:List Int),H l=none->ms.Perm ns->ms.Pairwise (·<=·)->Q (.ref l) (upd H l (.lst (ms.map V.int)))):=by
 intro pins s σ H xs us Q I r h
 obtain⟨p,ns,rfl,hS,h64,q⟩:=h
 obtain⟨u,rfl,ru⟩:=vals1 r
 cases ru
 obtain⟨its,rv,pl,hz⟩:=I.list hS
 have hi:Ta its ns:=intsAre_of rv
 have hl:=hi.length
 refine sorted_ints pl.isList hi (by omega) fun out ms a1 a2 a3=>?_
 obtain⟨e,he⟩:=sortedAll_at s.heap its out
 have hf:H (s.heap.objs.size+1)=none:=I.hok.fresh (RM _)
 refine⟨.ref (s.heap.objs.size+1),_,I.laid (t':=s.toks) (a:=s.heap.objs.size+1) (o:=.lst (ms.map V.int)) (fun b u e=>sortedAll_old e) (RM _) ⟨?_,out.toList,e,tM a1,?_⟩,rfl,q _ ms hf a2 a3⟩
 ·rw[Qw,a2.length_eq]
  exact Qt (SA h64) (by decide)
 ·rw[Wh]
  exact he
theorem wW(hc:X.calm=true):d4 X (.builtin "all") (fun xs H Q=>∃(p:Qh)(bs:List Bool),xs=[.ref p]/\bo X.K H p (bs.map V.bl)/\Q (.bl (bs.all id)) H):=by
 intro pins s σ H xs us Q I r h
 obtain⟨p,bs,rfl,hS,q⟩:=h
 obtain⟨u,rfl,ru⟩:=vals1 r
 cases ru
 obtain⟨its,rv,pl,hz⟩:=I.list hS
 have hlt:p<s.heap.objs.size:=by obtain⟨_,e,_⟩:=pl.isList;exact QJ e
 have hlen:its.length=bs.length:=by rw[<-rv.length,Qw]
 refine call_all_walk (Vt pl.isList ?_)
 refine⟨s.heap.objs.size,_,_,_,_,_,fun i=>(bs[i]?).getD true,rfl,Yn (A:=X.A.in1) (I.ok.hd hc) _ p (QV hlt) its.toArray,⟨⟨_,QX _ rfl,rfl,rfl⟩,pl.isList.push _⟩,?_,fun h' tk hk=>?_⟩
 ·intro i v s' Q' E' hv hq
  have hv':its[i]?=some v:=by simpa using hv
  have hi:i<bs.length:=by rw[<-hlen];exact(Q0.mp hv').1
  have e1:(bs.map V.bl)[i]?=some (V.bl bs[i]):=by simp[hi]
  obtain⟨w',h1,h2⟩:=rv.get e1
  rw[hv']at h1
  cases h1
  have h2:v=SW bs[i]:=h2
  subst h2
  have e2:(bs[i]?).getD true=bs[i]:=by simp[hi]
  have hq:Q' ((bs[i]?).getD true) s':=hq
  rw[e2]at hq
  exact TQ hq
 ·have e3:((QM its.toArray.size).all fun i=>(bs[i]?).getD true)=bs.all id:=by
   rw[Rr,hlen]
   apply RF.mpr
   rw[RL,RL]
   constructor
   ·intro hh b hb
    obtain⟨i,hi,e⟩:=SX hb
    have:=hh i (Ss.mpr hi)
    simp[hi]at this
    rw[<-e]
    simpa using this
   ·intro hh i hi
    have hi':=Ss.mp hi
    have:=hh bs[i] (Sz hi')
    simpa[hi']using this
  rw[e3]
  exact⟨.bl (bs.all id),H,I.kept fun b o e=>hk b o (by simp;exact QV (QJ e)) (QS _ e),rfl,q⟩
def Ox(i j:Int):Prop:=0<=j/\(VR i:Int)*j<=2 ^ 27
end
def gC:R2:=D3 fun i j=>.int (i+j)
def zo:R2:=D3 fun i j=>.int (i-j)
def oE:Int:=10 ^ 1000
theorem Ci{i:Int}(h1:-oE<i)(h2:i<oE):i.natAbs.log2<4000:=by
 have e:oE<=2 ^ 4000:=nofun
 rcases YY i.natAbs with h0|hp
 ·rw[h0];decide +kernel
 ·refine(Wu (RK hp)).mpr ?_
  have:(i.natAbs:Int)<2 ^ 4000:=by omega
  exact_mod_cast this
theorem As{i:Int}(h1:-oE<i)(h2:i<oE):VR i<=2 ^ 20:=by
 have h:=Ci h1 h2
 have e:(4001:Nat)<=2 ^ 20:=by decide
 unfold VR
 split
 ·exact Rm _
 ·omega
def JB(i j:Int):Prop:=Lf i j\/((-oE<i/\i<oE)/\-oE<j/\j<oE)
theorem JB.ok{i j:Int}(h:JB i j):IntMulOk i j:=h.elim Lf.ok fun h=>.of_bits (As h.1.1 h.1.2) (As h.2.1 h.2.2)
def N6(_ j:Int):Prop:=0<j/\j<oE
theorem Co:(1073741824:Int)<oE:=nofun
def nu:R2:=rI JB fun i j=>.int (i*j)
def oDiv:R2:=rI N6 fun i j=>.int (i/j)
def oMod:R2:=rI (fun _ j=>0<j) fun i j=>.int (i%j)
def N3(i j:Int):Prop:=Pw i j\/Ox i j
def EF:R2:=rI N3 fun i j=>.int (i ^ j.toNat)
def oLt:R2:=D3 fun i j=>.bl (decide (i<j))
def oLe:R2:=D3 fun i j=>.bl (decide (i<=j))
def Pl:R2:=D3 fun i j=>.bl (decide (j<i))
def NW:R2:=D3 fun i j=>.bl (decide (j<=i))
def Jp:R2:=fun x y H Q=>y=.non/\Q (.bl (decide (x=.non))) H
def Iq:R2:=fun x y H Q=>y=.non/\Q (.bl (!decide (x=.non))) H
def jd(K:Qj):List V->Hp->VK->Prop:=fun xs H Q=>∃p ys,xs=[.ref p]/\(bo K H p ys\/iM K H p ys)/\Q (.int ys.length) H
def GL(K:Qj):List V->Hp->VK->Prop:=fun xs H Q=>∃(p:Qh)(ns:List Int),xs=[.ref p]/\bo K H p (ns.map V.int)/\Q (.int ns.sum) H
noncomputable def FD(K:Qj):List V->Hp->VK->Prop:=fun xs H Q=>∃(p:Qh)(ns:List Int),xs=[.ref p]/\bo K H p (ns.map V.int)/\ns.length<64/\∀(l:Qh)(ms:List Int),H l=none->ms.Perm ns->ms.Pairwise (·<=·)->Q (.ref l) (upd H l (.lst (ms.map V.int)))
def Kp(K:Qj):List V->Hp->VK->Prop:=fun xs H Q=>∃(p:Qh)(bs:List Bool),xs=[.ref p]/\bo K H p (bs.map V.bl)/\Q (.bl (bs.all id)) H
def OH:List V->Hp->VK->Prop:=fun xs H Q=>∃i j,xs=[.int i,.int j]/\Q (.int (if j<i then j else i)) H
def O4:List V->Hp->VK->Prop:=fun xs H Q=>∃i j,xs=[.int i,.int j]/\Q (.int (if j>i then j else i)) H
def Bv(K:Qj):List V->Hp->VK->Prop:=fun xs H Q=>∃p ys,xs=[.ref p]/\(bo K H p ys\/iM K H p ys)/\∀l,H l=none->Q (.ref l) (upd H l (.lst ys))
section
variable {X:Cx}
theorem cF:jM X (RV .Add) gC:=Nv
theorem ri:jM X (RV .Sub) zo:=MT
theorem fj:jM X (RV .Mult) nu:=Ov fun _ _ _ _ _ _ _ hc q=>mul_int q hc.ok
theorem c5:jM X (RV .FloorDiv) oDiv:=Ov fun i j _ _ _ _ _ hc q=>by
 have h1:(0:Int)<j:=hc.1
 have h2:j<oE:=hc.2
 have h3:-oE<j:=by have:=Co;omega
 exact floordiv_int (by omega) (by rw[Int.fdiv_eq_ediv_of_nonneg i (by omega)];exact q) (.inl (aar (Vl (Ci h3 h2) (by decide))))
theorem bu:jM X (RV .Mod) oMod:=Nu
theorem vC:jM X (RV .Pow) EF:=Ov fun _ _ _ _ _ _ _ hc q=>hc.elim (fun h=>pow_int_small h.1 h.2.1 h.2.2 q) fun h=>pow_int h.1 h.2 q
theorem Ki:jM X (Sx .Add) gC:=K6
theorem Cd:jM X (Sx .Sub) zo:=La
theorem Jx:jM X (Sx .Mult) nu:=Ov fun _ _ _ _ _ _ _ hc q=>imul_int q hc.ok
theorem w9:jM X (Rc .Lt) oLt:=OB
theorem Ax:jM X (Rc .LtE) oLe:=N9
theorem J8:jM X (Rc .Gt) Pl:=Ot
theorem Bb:jM X (Rc .GtE) NW:=OG
end
structure uK(mg:Qg->Option Qi)(x:Qg)(i:Int):Prop where
 ex:∃t,mg x=some (.int i t)
theorem uK.pe{X:Cx}{x:Qg}{i:Int}{pos:QH}(k:uK X.mg x i)(hg:Gl X x)(hd:(x==("__debug__":Qg))=false:=by decide):PE X (.Name x pos) (tC (.int i)):=by
 obtain⟨t,e⟩:=k.ex
 exact Bm hg e ⟨t,rfl⟩ hd
theorem Nd{K:Qj}{mg:Qg->Option Qi}{h:Qq}{x:Qg}{i:Int}{t:Tok}(X:K.In h)(G:h.Ns Q6 mg)(z:RE K Q6 x=some (some (.int i t))):uK mg x i:=⟨t,Tb X G z⟩
theorem ar.upd{H H':Hp}(e:ar H H'){l:Qh}{o:HO}(h:H l=none):ar H (upd H' l o):=fun b u q=>by
 rw[ax (bx q h)]
 exact e b u q
theorem ar.updN{H:Hp}{l:Qh}{o:HO}(h:H l=none):ar H (L2.upd H l o):=fun b u q=>by
 rw[ax (bx q h)]
 exact q
theorem ar.seqT{K:Qj}{H H':Hp}{a:Qh}{xs:List V}(e:ar H H')(h:iM K H a xs):iM K H' a xs:=by
 rcases h with(h|⟨o,h⟩)|h
 ·exact .inl (.inl (e _ _ h))
 ·exact .inl (.inr ⟨o,e _ _ h⟩)
 ·exact .inr h
section
variable {mp:List (Option Nat)}{te:TE}{tt:TT}{σ:St}{H:Hp}{Q:VK}
theorem take_snoc{α:Type}{xs:List α}{i:Nat}{x:α}(h:xs[i]?=some x):xs.take (i+1)=xs.take i++[x]:=by
 rw[Uu,h]
 rfl
theorem HH{K:Qj}{a:Qh}{xs:List V}(R:V->V->Prop)(caps:St)(hlift:dM mp σ=none::caps)(hx:bo K H a xs)(hz:xs.length<=Qr)
  (hel:∀x∈xs,∀(H':Hp)(G:VK),ar H H'->(∀v H'',R x v->ar H' H''->G v H'')->te (some x::caps) H' G)
  (hd:∀l ys H',H l=none->ar H H'->H' l=some (.lst ys)->QE R xs ys->Q (.ref l) H'):dP mp (av 0) eA te (Il K a) σ H Q:=by
 refine Ht (xs:=xs) (fun l i acc σ' H'=>ar H H'/\H' l=some (.lst acc)/\QE R (xs.take i) acc/\acc.length<=i/\∃v,σ'=v::caps) (fun l hl=>⟨ar.updN hl,ay,by simpa using Yc,QC _,none,hlift⟩) ?_ ?_ ?_ hz
 ·rintro l i acc σ' H' _ ⟨s,_,_,h,_⟩
  exact⟨s.seq hx,h⟩
 ·rintro l i x acc σ' H' hl hi ⟨s,h1,h2,h3,v,rfl⟩
  simp only[av,eA,YK]
  rw[if_pos trivial]
  refine hel x (SH hi) H' _ s fun v H'' r s'=>⟨s' _ _ h1,(s.trans s').upd hl,ay,?_,?_,some x,rfl⟩
  ·rw[take_snoc hi]
   exact h2.snoc r
  ·rw[Rz,TY]
   omega
 ·rintro l acc σ' H' hl ⟨s,h1,h2,_⟩
  rw[Ur]at h2
  exact hd l acc H' hl s h1 h2
theorem NT{lo:Int}{n:Nat}(R:Nat->V->Prop)(caps:St)(hlift:dM mp σ=none::caps)(hz:n<=Qr)
  (hel:∀i,i<n->∀(H':Hp)(G:VK),ar H H'->(∀v H'',R i v->ar H' H''->G v H'')->te (some (.int (lo+i))::caps) H' G)
  (hd:∀l ys H',H l=none->ar H H'->H' l=some (.lst ys)->QE R (QM n) ys->Q (.ref l) H'):dP mp (av 0) eA te (Kg lo n) σ H Q:=by
 refine Fp (fun l i acc σ' H'=>ar H H'/\H' l=some (.lst acc)/\QE R (QM i) acc/\acc.length<=i/\∃v,σ'=v::caps) (fun l hl=>⟨ar.updN hl,ay,by simpa using Yc,QC _,none,hlift⟩) ?_ ?_ ?_ hz
 ·rintro l i acc σ' H' _ ⟨s,_,_,h,_⟩
  exact h
 ·rintro l i acc σ' H' hl hi ⟨s,h1,h2,h3,v,rfl⟩
  simp only[av,eA,YK]
  rw[if_pos trivial]
  refine hel i hi H' _ s fun v H'' r s'=>⟨s' _ _ h1,(s.trans s').upd hl,ay,?_,?_,some _,rfl⟩
  ·rw[TX]
   exact h2.snoc r
  ·rw[Rz,TY]
   omega
 ·rintro l acc σ' H' hl ⟨s,h1,h2,_⟩
  exact hd l acc H' hl s h1 h2
end
section
variable {K:Qj}{D:Ends}{σ:St}{H:Hp}{Q:VK}{QB:Bool->Hp->Prop}{QA:List V->Hp->Prop}{t u:TS}{te ta tb tc:TE}{c d:TT}{tl:TA}{i j:Int}{k n:Nat}{v x y:V}{r r':R2}{E:XK}
theorem CU(h:t {D with nx:=u D} σ H):aH t u D σ H:=h
theorem rQ(P:St->Hp->Prop)(h1:∀F:St->Hp->Prop,(∀σ' H',P σ' H'->F σ' H')->t {D with nx:=F} σ H)(h2:∀σ' H',P σ' H'->u D σ' H'):aH t u D σ H:=h1 _ h2
theorem FC(h:te σ H fun x H1=>D.nx (σ.set n (some x)) H1):bM te (av n) D σ H:=h
theorem OS(h:c σ H fun b H1=>if b=true then t D σ H1 else u D σ H1):bO c t u D σ H:=h
theorem FH(h:te σ H D.rt):bp te D σ H:=h
theorem Nl(h:D.nx σ H):bB D σ H:=h
theorem Nh(h:te σ H fun _ H1=>D.nx σ H1):cZ te D σ H:=h
theorem Qe(h:Q v H):tC v σ H Q:=h
theorem Pt(h:ta σ H fun x H1=>tb σ H1 fun y H2=>r x y H2 Q):aN r ta tb σ H Q:=h
theorem OV(h:Q (.int (i+j)) H):gC (.int i) (.int j) H Q:=⟨i,j,rfl,rfl,h⟩
theorem Oh(h:Q (.int (i-j)) H):zo (.int i) (.int j) H Q:=⟨i,j,rfl,rfl,h⟩
theorem JF(h1:-(2 ^ 64)<i)(h2:i<2 ^ 64)(h:Q (.int (i*j)) H):nu (.int i) (.int j) H Q:=⟨i,j,rfl,rfl,.inl (.inl ⟨h1,h2⟩),h⟩
theorem MS(h1:-(2 ^ 64)<j)(h2:j<2 ^ 64)(h:Q (.int (i*j)) H):nu (.int i) (.int j) H Q:=⟨i,j,rfl,rfl,.inl (.inr ⟨h1,h2⟩),h⟩
theorem LZ(h1:0<j)(h2:j<1073741824)(h:Q (.int (i/j)) H):oDiv (.int i) (.int j) H Q:=⟨i,j,rfl,rfl,⟨h1,Int.lt_trans h2 Co⟩,h⟩
theorem IK(h1:0<j)(h2:j<oE)(h:Q (.int (i/j)) H):oDiv (.int i) (.int j) H Q:=⟨i,j,rfl,rfl,⟨h1,h2⟩,h⟩
theorem OW(h1:0<j)(h:Q (.int (i%j)) H):oMod (.int i) (.int j) H Q:=⟨i,j,rfl,rfl,h1,h⟩
theorem OM(h1:0<=j)(h2:j<=1000000)(h3:i.natAbs<2 ^ 64)(h:Q (.int (i ^ j.toNat)) H):EF (.int i) (.int j) H Q:=⟨i,j,rfl,rfl,.inl ⟨h1,h2,h3⟩,h⟩
theorem P1(h:Q (.bl (decide (i<j))) H):oLt (.int i) (.int j) H Q:=⟨i,j,rfl,rfl,h⟩
theorem P2(h:Q (.bl (decide (i<=j))) H):oLe (.int i) (.int j) H Q:=⟨i,j,rfl,rfl,h⟩
theorem PZ(h:Q (.bl (decide (j<i))) H):Pl (.int i) (.int j) H Q:=⟨i,j,rfl,rfl,h⟩
theorem PK(h:Q (.bl (decide (j<=i))) H):NW (.int i) (.int j) H Q:=⟨i,j,rfl,rfl,h⟩
theorem IJ:decide (V.int i=V.int j)=decide (i=j):=by
 by_cases h:i=j
 ·subst h;simp
 ·rw[decide_eq_false h,decide_eq_false fun z=>h (V.int.inj z)]
theorem PQ(h:Q (.bl (decide (i=j))) H):gY (.int i) (.int j) H Q:=⟨rfl,by rw[IJ];exact h⟩
theorem PD(h:Q (.bl (!decide (i=j))) H):Ma (.int i) (.int j) H Q:=⟨rfl,by rw[IJ];exact h⟩
theorem O9(h:Q (.bl (decide (x=.non))) H):Jp x .non H Q:=⟨rfl,h⟩
theorem Mt(h:Q (.bl (!decide (x=.non))) H):Iq x .non H Q:=⟨rfl,h⟩
theorem Nk(h:te σ H fun x H'=>∃k,x=.bl k/\QB k H'):aZ te σ H QB:=h
theorem PN(h:te σ H fun x H1=>∃c,x=.bl c/\QB c H1):tB te σ H QB:=h
theorem PU{b:Bool}{P:Bool->Prop}(h:P b):∃k,V.bl b=.bl k/\P k:=⟨b,rfl,h⟩
theorem Oa(h:c σ H fun b H1=>if b=true then d σ H1 QB else QB false H1):Aw c d σ H QB:=h
theorem Pu(h:c σ H fun b H1=>if b=true then QB true H1 else d σ H1 QB):Mc c d σ H QB:=h
theorem OK(h:c σ H fun b H1=>QB (!b) H1):wa c σ H QB:=h
theorem MW(h:ta σ H fun x H1=>∃c,x=.bl c/\if c=true then tb σ H1 Q else Q (.bl false) H1):F6 ta tb σ H Q:=h
theorem PL(h:c σ H fun b H1=>if b=true then ta σ H1 Q else tb σ H1 Q):OO c ta tb σ H Q:=h
theorem Oe(h:QA [] H):au σ H QA:=h
theorem NJ(h:te σ H fun x H1=>tl σ H1 fun xs H2=>QA (x::xs) H2):ae te tl σ H QA:=h
theorem NK{sp:Sp}(h:tl σ H fun vs H1=>sp vs H1 Q E):aO sp [] E tl σ H Q:=by
 show tl σ H fun vs H1=>sp (vs++[]) H1 Q E
 simpa only[UL]using h
theorem Py{q:List V->Hp->VK->Prop}(h:tl σ H fun vs H1=>q vs H1 Q):eX q tl σ H Q:=h
theorem OC(h:Q (.int (min i j)) H):OH [.int i,.int j] H Q:=⟨i,j,rfl,by
 have e:(if j<i then j else i)=min i j:=by omega
 rw[e];exact h⟩
theorem O6(h:Q (.int (max i j)) H):O4 [.int i,.int j] H Q:=⟨i,j,rfl,by
 have e:(if j>i then j else i)=max i j:=by omega
 rw[e];exact h⟩
theorem LX{p:Qh}{ys:List V}(hs:bo K H p ys)(h:Q (.int ys.length) H):jd K [.ref p] H Q:=⟨p,ys,rfl,.inl hs,h⟩
theorem L6{p:Qh}{ns:List Int}(hs:bo K H p (ns.map V.int))(h:Q (.int ns.sum) H):GL K [.ref p] H Q:=⟨p,ns,rfl,hs,h⟩
theorem cY{p:Qh}{xs:List V}(hs:bo K H p xs)(ha:BF xs i=some v)(h:Q v H):cP K (.ref p) (.int i) H Q:=⟨p,xs,i,v,rfl,rfl,hs,ha,h⟩
noncomputable def IH(g:TG)(tb:TS)(D:Ends)(J:It)(σ:St)(H:Hp):Prop:=∃W:Nat->Nat->St->Hp->Prop,(∃m,W 0 m σ H)/\∀i m σ H,W i m σ H->
 (J.stop i H/\D.nx σ H)\/(J.go i H/\∃N:St->Hp->Prop,(∀σ' H',N σ' H'->∃m',m'<m/\W (i+1) m' σ' H')/\∀x H',J.yld i H x H'->g x σ H' fun σ2 H2=>tb {D with nx:=N,ct:=N,bk:=D.nx} σ2 H2)
theorem OJ{wi:TI}{g:TG}(h:wi σ H fun J H1=>IH g t D J σ H1):nA wi g t D σ H:=h
theorem NM{R:It->Hp->Prop}(h:tl σ H fun vs H1=>∃j:Int,vs=[.int j]/\-(2 ^ 62)<=j/\j<2 ^ 62/\R (Kg 0 j.toNat) H1):uf tl σ H R:=h
theorem Ld{P:Int->Prop}(h1:-(2 ^ 62)<=i)(h2:i<2 ^ 62)(h:P i):∃j:Int,([.int i]:List V)=[.int j]/\-(2 ^ 62)<=j/\j<2 ^ 62/\P j:=⟨i,rfl,h1,h2,h⟩
theorem Mp{R:It->Hp->Prop}(h:tl σ H fun vs H1=>∃i j:Int,vs=[.int i,.int j]/\(-(2 ^ 62)<=i/\i<2 ^ 62/\-(2 ^ 62)<=j/\j<2 ^ 62)/\R (Kg i (j-i).toNat) H1):JK tl σ H R:=h
theorem LW{P:Int->Int->Prop}(h1:-(2 ^ 62)<=i)(h2:i<2 ^ 62)(h3:-(2 ^ 62)<=j)(h4:j<2 ^ 62)(h:P i j):∃i' j':Int,([.int i,.int j]:List V)=[.int i',.int j']/\(-(2 ^ 62)<=i'/\i'<2 ^ 62/\-(2 ^ 62)<=j'/\j'<2 ^ 62)/\P i' j':=⟨i,j,rfl,⟨h1,h2,h3,h4⟩,h⟩
theorem Lr{R:It->Hp->Prop}(h:te σ H fun x H1=>∃a,x=.ref a/\(∃xs,bo K H1 a xs)/\R (Il K a) H1):dm K te σ H R:=h
theorem cV{P:Qh->Prop}{a:Qh}{xs:List V}(hs:bo K H a xs)(h:P a):∃b,V.ref a=.ref b/\(∃xs,bo K H b xs)/\P b:=⟨a,rfl,⟨xs,hs⟩,h⟩
theorem PY{q:V->Option Int->Option Int->Hp->VK->Prop}{lo hi:TO}(h:te σ H fun x H1=>lo σ H1 fun l H2=>hi σ H2 fun u H3=>q x l u H3 Q):Ik q te lo hi σ H Q:=h
theorem Nt{R:Option Int->Hp->Prop}(h:te σ H fun x H1=>∃i,x=.int i/\R (some i) H1):jV te σ H R:=h
theorem K1{P:Int->Prop}(h:P i):∃j,V.int i=.int j/\P j:=⟨i,rfl,h⟩
theorem KH{R:Option Int->Hp->Prop}(h:R none H):hJ σ H R:=h
theorem ow{mp:List (Option Nat)}{wi:TI}{g:TG}(h:wi σ H fun J H1=>dP mp g c te J σ H1 Q):cy mp wi g c te σ H Q:=h
theorem PM{T:String}{q:V->List V->Hp->VK->Prop}(h:te σ H fun x H1=>LK K T x H1/\tl σ H1 fun xs H2=>q x xs H2 Q):zW K T q te tl σ H Q:=h
theorem O7{T:String}{q:V->List V->Hp->VK->Prop}(h:te σ H fun x H1=>LK K T x H1/\q x [] H1 Q):IG K T q te σ H Q:=h
theorem KO(h:ta σ H fun x H1=>tb σ H1 fun y H2=>r x y H2 fun z H3=>∃k,z=.bl k/\(if k=true then tc σ H3 fun w' H4=>r' y w' H4 Q else Q (.bl false) H3)):B4 r r' ta tb tc σ H Q:=h
end
end L2
namespace L2
end L2
namespace L2
open PySem PySem.Spec PyProof.Rows
def Pq(lo step:Int)(n:Nat):It:=⟨fun i _=>i<n,fun i H x H'=>H'=H/\x=.int (lo+i*step),fun i _=>n<=i⟩
section
variable {X:Cx}{tg:Qp}
end
theorem NB{lo step:Int}{n:Nat}{g:TG}{tb:TS}{D:Ends}{σ:St}{H:Hp}(Pv:Nat->St->Hp->Prop)(h0:Pv 0 σ H)
  (hs:∀i σ H,i<n->Pv i σ H->g (.int (lo+i*step)) σ H fun σ2 H2=>tb {D with nx:=Pv (i+1),ct:=Pv (i+1),bk:=D.nx} σ2 H2) (hd:∀σ H,Pv n σ H->D.nx σ H):IH g tb D (Pq lo step n) σ H:=by
 exists fun i m σ H=>m=n-i/\i<=n/\Pv i σ H,⟨n,⋯,Rm _,h0⟩
 rintro i m σ H ⟨rfl,hi,p⟩
 by_cases hlt:i<n
 ·refine .inr ⟨hlt,Pv (i+1),fun σ' H' p'=>⟨n-(i+1),by omega,rfl,hlt,p'⟩,fun x H' y=>?_⟩
  obtain⟨e,y⟩:=y
  subst e y
  exact hs i σ _ hlt p
 ·have e:i=n:=by omega
  subst e
  exact .inl ⟨QC _,hd σ H p⟩
mutual
inductive dW(K:Qj)(H:Hp):V->QY->Prop
 |non:dW K H .non .none
 |bl (b:Bool):dW K H (.bl b) (.bool b)
 |int (i:Int):dW K H (.int i) (.int i)
 |str (x:Qg):dW K H (.str x) (.str x)
 |lst {a:Qh}{xs:List V}{ds:List QY}:bo K H a xs->DatAll K H xs ds->dW K H (.ref a) (.list ds)
 |tup {a:Qh}{xs:List V}{ds:List QY}:iM K H a xs->DatAll K H xs ds->dW K H (.ref a) (.tuple ds)
inductive DatAll(K:Qj)(H:Hp):List V->List QY->Prop
 |nil:DatAll K H [] []
 |cons {x:V}{xs:List V}{d:QY}{ds:List QY}:dW K H x d->DatAll K H xs ds->DatAll K H (x::xs) (d::ds)
end
section
variable {X:Cx}{pins:List (Qh×Qo)}{σ:St}{H:Hp}{s:Qk}
mutual
theorem fR(I:Inv X pins σ H s):∀{x:V}{d:QY}{u:Qi},dW X.K H x d->RelV x u->∃as,Reads s.heap u d as
 |_,_,_,.non,r=>by cases r;exact⟨_,.none⟩
 |_,_,_,.bl b,r=>by cases r;exact⟨_,.bool b⟩
 |_,_,_,.int i,r=>by obtain⟨t,rfl⟩:=r;exact⟨_,.int i t⟩
 |_,_,_,.str x,r=>by obtain⟨t,rfl⟩:=r;exact⟨_,.str x t⟩
 |_,_,_,.lst hS all,r=>by
  cases r
  obtain⟨its,rv,pl,_⟩:=I.list hS
  obtain⟨o,ho,hc,n,hd⟩:=pl.isList
  obtain⟨as,q⟩:=tq I all rv
  exact⟨_,Reads.list ho hc hd (by simpa using q)⟩
 |_,_,_,.tup hS all,r=>by
  cases r
  obtain⟨its,rv,pl,_⟩:=I.tuple hS
  obtain⟨o,ho,hc,n,hd⟩:=pl
  obtain⟨as,q⟩:=tq I all rv
  exact⟨_,Reads.tuple ho hc hd (by simpa using q)⟩
theorem tq(I:Inv X pins σ H s):∀{xs:List V}{ds:List QY}{us:List Qi},DatAll X.K H xs ds->cu xs us->∃as,ReadsAll s.heap us ds as
 |_,_,_,.nil,r=>by cases r;exact⟨_,.nil⟩
 |_,_,_,.cons h t,r=>by
  cases r with
  |cons r1 r2=>
   obtain⟨as,a⟩:=fR I h r1
   obtain⟨bs,b⟩:=tq I t r2
   exact⟨_,.cons a b⟩
end
end
def kC(K:Qj)(neg:Bool):R2:=fun x y H Q=>∃d e,dW K H x d/\dW K H y e/\Sr d=true/\Sr e=true/\RJ d e=true/\Q (.bl (same d e != neg)) H
section
variable {X:Cx}
theorem dD(hu:X.A.units+64<cLine):jM X (Rc .Eq) (kC X.K false):=by
 intro pins s σ H x y v u Q I rx ry h
 obtain⟨d,e,h1,h2,h3,h4,h5,q⟩:=h
 obtain⟨as,a⟩:=fR I h1 rx
 obtain⟨bs,b⟩:=fR I h2 ry
 refine eq_dataH_same a b h3 h4 hu h5 ⟨.bl (same d e),H,I,rfl,?_⟩
 rw[TL]at q
 exact q
theorem jG(hu:X.A.units+64<cLine):jM X (Rc .NotEq) (kC X.K true):=by
 intro pins s σ H x y v u Q I rx ry h
 obtain⟨d,e,h1,h2,h3,h4,h5,q⟩:=h
 obtain⟨as,a⟩:=fR I h1 rx
 obtain⟨bs,b⟩:=fR I h2 ry
 refine ne_dataH_same a b h3 h4 hu h5 ⟨.bl (!same d e),H,I,rfl,?_⟩
 rw[Uy]at q
 exact q
end
mutual
theorem qw:∀d:QY,d.canLay0=true->RJ d d=true
 |.none,_=>by simp[RJ]
 |.bool _,_=>by simp[RJ]
 |.int _,_=>by simp[RJ]
 |.str _,_=>by simp[RJ]
 |.list xs,h=>by rw[RJ];exact ki xs (by rw[R6]at h;exact h)
 |.tuple xs,h=>by rw[RJ];exact ki xs (by rw[R6]at h;exact h)
 |.dict _,h=>by rw[R6]at h;cases h
theorem ki:∀ds:List QY,S1 ds=true->S4 ds ds=true
 |[],_=>by simp[S4]
 |x::xs,h=>by
  rw[S1,Rj]at h
  rw[S4,qw x h.1,ki xs h.2]
  rfl
end
section
variable {K:Qj}{H:Hp}{Q:VK}{x y:V}
theorem nS{d:QY}(h1:dW K H x d)(h2:dW K H y d)(hs:Sr d=true)(h:Q (.bl true) H):kC K false x y H Q:=
 ⟨d,d,h1,h2,hs,hs,qw d (W6 hs),by rw[same_self];exact h⟩
theorem Gd{d:QY}(h1:dW K H x d)(h2:dW K H y d)(hs:Sr d=true)(h:Q (.bl false) H):kC K true x y H Q:=
 ⟨d,d,h1,h2,hs,hs,qw d (W6 hs),by rw[same_self];exact h⟩
end
section
variable {X:Cx}
end
noncomputable def L9(K:Qj)(a:Qh):It:=
 ⟨fun i H=>∃xs x,bo K H a xs/\xs[i]?=some x,fun i H x H'=>∃T y,x=.ref T/\H T=none/\H'=upd H T (.tup [.int i,y])/\∀xs,bo K H a xs->xs[i]?=some y,fun i H=>∃xs,bo K H a xs/\xs.length<=i⟩
theorem Hu{P:Qy}{w:Qv}{K:Qj}{elts:List Qp}{x1}{pos:QH}(a e it:Qh)(hne:e≠it):
  Turn P w K (.Tuple elts x1 pos) (L9 K a) [e,it] e (fun i h=>(∃old,IsEnum h e it ((i:Nat):Int) old)/\h.IsListIter it a i) where
 mem:=⋯
 obj:=fun i h st b hb=>by
  obtain⟨⟨old,he⟩,o,ho,hc,hd⟩:=st
  rcases QI.mp hb with z|hb
  ·subst z
   exact⟨_,he,fun v z=>by
    have z':Uv _=Tr v:=z
    cases z'⟩
  ·have z:b=it:=by simpa using hb
   subst z
   exact⟨o,ho,fun v z=>by rw[hd]at z;cases z⟩
 keep:=fun i h h' st k=>by
  obtain⟨⟨old,he⟩,o,ho,r⟩:=st
  exact⟨⟨old,k e ⋯ _ he⟩,o,k it ⋯ _ ho,r⟩
 item:=by
  intro X hP hw hK hc i pins s σ H E I hf st hg
  subst hP hw hK
  obtain⟨⟨old,he⟩,hit⟩:=st
  obtain⟨xs,x,hS,hx⟩:=hg
  obtain⟨its,rv,pl,hz⟩:=I.list hS
  obtain⟨u,hu,ru⟩:=rv.get hx
  obtain⟨f0,f1,f2,f3,f4,f5⟩:=hf e ⋯
  obtain⟨g0,g1,g2,g3,g4,g5⟩:=hf it ⋯
  have fT:H s.heap.objs.size=none:=I.fresh
  refine wpAny_pyNext_enum_item he hit pl.isList (x:=u) (by simpa using hu) hne fun h' heo hit' ht hsz hk=>⟨_,rfl,?_⟩
  refine wpAny_letOwnedTupleGo_enum heo fun h2 he2 hs2=>?_
  have hs2:Sh e h' h2:=hs2
  have heT:e≠s.heap.objs.size:=QV (QJ he)
  have oldK:∀b o,b≠e->b≠it->s.heap.get? b=some o->h2.get? b=some o:=fun b o h1 h2' q=>hs2.extBut b o h1 (hk b o h1 h2' q)
  have hT2:h2.get? s.heap.objs.size=some {cls:=.type "tuple",data:=.seq #[.int i s.toks,u]}:=hs2.extBut _ _ (QT heT) ht
  have neT:∀b o,s.heap.get? b=some o->b≠s.heap.objs.size:=fun b o q=>QV (QJ q)
  have nH:∀b w',H b=some w'->b≠e/\b≠it:=fun b w' q=>⟨fun z=>(by rw[z,f0]at q;cases q),fun z=>(by rw[z,g0]at q;cases q)⟩
  have I2:Inv X pins σ (upd H s.heap.objs.size (.tup [.int i,x])) {s with heap:=h2,toks:=s.toks+1}:=by
   refine I.step (g':=s.gens) (d':=s.drawn) (t':=s.toks+1) (ch:=[e,it]) (fun b hb=>?_) (fun b o _ _ hb q _=>?_) (fun b o _ _ hb q _=>?_) (fun b o _ q n=>?_) (fun b o hb q=>?_)
    (fun b ys q=>?_) (fun b o w' q=>?_) (fun b ps q=>?_) (fun m hm=>?_) (fun b w' q=>?_) I.bare
   ·rcases QI.mp hb with z|hb
    ·subst z;exact⟨f3,f1,f4,f5⟩
    ·have z:b=it:=by simpa using hb
     subst z;exact⟨g3,g1,g4,g5⟩
   ·exact oldK b o (fun z=>hb (by simp[z])) (fun z=>hb (by simp[z])) q
   ·exact⟨o.slots,oldK b o (fun z=>hb (by simp[z])) (fun z=>hb (by simp[z])) q⟩
   ·rw[ax (neT b o q)];exact n
   ·exact⟨o,oldK b o (fun z=>hb (by simp[z])) (fun z=>hb (by simp[z])) q⟩
   ·rw[ax (bx q fT)];exact q
   ·rw[ax (bx q fT)];exact q
   ·exact⟨#[],by rw[ax (bx q fT),q];simp⟩
   ·obtain⟨o,es,ep,ho,r⟩:=hm
    exact⟨o,es,ep,oldK _ o (QT f1) (QT g1) ho,r⟩
   ·by_cases hb:b=s.heap.objs.size
    ·subst hb
     rw[ay]at q
     cases q
     exact⟨by show 2<=Qr;decide,[.int i s.toks,u],.cons ⟨_,rfl⟩ (.cons ru .nil),_,hT2,rfl,_,rfl⟩
    ·rw[ax hb]at q
     refine(I.hok b w' q).stay (fun c v hc q'=>oldK c v ?_ ?_ q') (fun c q'=>?_) fun c ys q'=>?_
     ·rcases hc with z|z
      ·rw[z];exact(nH b w' q).1
      ·exact(nH c _ z).1
     ·rcases hc with z|z
      ·rw[z];exact(nH b w' q).2
      ·exact(nH c _ z).2
     ·rw[ax (bx q' fT)];exact q'
     ·rw[ax (bx q' fT)];exact q'
  refine⟨.ref s.heap.objs.size,_,I2,rfl,⟨s.heap.objs.size,x,rfl,fT,rfl,fun ys hys=>?_⟩,⟨⟨u,?_⟩,?_⟩,fun b hb=>?_⟩
  ·rw[I.list_inj hys hS];exact hx
  ·have e1:((i+1:Nat):Int)=(i:Int)+1:=by omega
   rw[e1];exact he2
  ·exact hit'.extBut hs2.extBut (QT hne)
  ·have:b≠s.heap.objs.size:=by
    rcases QI.mp hb with z|hb
    ·rw[z];exact heT
    ·have z:b=it:=by simpa using hb
     rw[z]
     obtain⟨o,ho,_⟩:=hit
     exact neT it o ho
   rw[ax this]
   exact(hf b hb).1
 done:=by
  intro X hP hw hK hc i pins s σ H E I hf st hg
  subst hP hw hK
  obtain⟨⟨old,he⟩,hit⟩:=st
  obtain⟨xs,hS,hx⟩:=hg
  obtain⟨its,rv,pl,hz⟩:=I.list hS
  have hl:=rv.length
  obtain⟨g0,g1,g2,g3,g4,g5⟩:=hf it ⋯
  refine wpAny_pyNext_enum_end (I.ok.hd hc) he hit pl.isList (by simp;omega) fun h' eb=>⟨rfl,I.turned (t':=s.toks) (fun b o hb e'=>eb b o hb e') g0 g1 g3 g4 g5⟩
 self:=fun A i s Q E st h=>by
  obtain⟨⟨old,he⟩,hit⟩:=st
  exact U8 he h
section
variable {X:Cx}
def xn(K:Qj)(tl:TE):TI:=fun σ H R=>tl σ H fun x H1=>∃a,x=.ref a/\(∃xs,bo K H1 a xs)/\R (L9 K a) H1
theorem rX{l:Qp}{tl:TE}{elts:List Qp}{x1}{p pos pt:QH}(hg:Gl X "enumerate")(hm:X.mg "enumerate"=none)(hl:PE X l tl)(hs:Qx [l] X.env=[(false,eval l X.env)]:=by rfl):
  PI X (.Tuple elts x1 pt) (.Call (.Name "enumerate" p) [l] [] pos) (xn X.K tl):=by
 intro pins s σ H R I h
 refine Call_ (kh I hg hm boot_enumerate (Td (cX (aa hl ag hs pos pins s σ H (fun vs H1=>∃x,vs=[x]/\∃a,x=.ref a/\(∃xs,bo X.K H1 a xs)/\R (L9 X.K a) H1) I ?_) fun us s1 ⟨vs,H1,I1,r1,q1⟩=>?_) hs rfl))
 ·have mono:tl σ H (fun x H1=>∃y,[x]=[y]/\∃a,y=.ref a/\(∃xs,bo X.K H1 a xs)/\R (L9 X.K a) H1):=by
   have e:(fun (x:V) (H1:Hp)=>∃y,[x]=[y]/\∃a,y=V.ref a/\(∃xs,bo X.K H1 a xs)/\R (L9 X.K a) H1)=fun x H1=>∃a,x=V.ref a/\(∃xs,bo X.K H1 a xs)/\R (L9 X.K a) H1:=by
    funext x H1
    simp
   rw[e]
   exact h
  exact mono
 ·obtain⟨x,rfl,a,rfl,⟨xs,hS⟩,q⟩:=q1
  obtain⟨u,rfl,ru⟩:=vals1 r1
  cases ru
  obtain⟨its,rv,pl,hz⟩:=I1.list hS
  refine call_enumerate_list pl.isList fun h' he hit hsz hk=>?_
  have I2:Inv X pins σ H1 {s1 with heap:=h'}:=I1.kept (t':=s1.toks) hk
  refine U8 he ?_
  refine⟨s1.heap.objs.size+1,[s1.heap.objs.size+1,s1.heap.objs.size],_,_,H1,rfl,I2,Hu a _ _ (W3 _),⟨⟨.none,he⟩,hit⟩,fun b hb=>?_,q⟩
  have hb':s1.heap.objs.size<=b:=by
   rcases QI.mp hb with z|hb
   ·rw[z];exact RM _
   ·have z:b=s1.heap.objs.size:=by simpa using hb
    rw[z];exact QC _
  exact I1.fpOk hb' (I1.hok.fresh hb')
end
theorem Inv.turnedL{X:Cx}{pins:List (Qh×Qo)}{σ:St}{H:Hp}{s:Qk}{h':Qq}{t':Nat}{ch:List Qh}(I:Inv X pins σ H s)(hf:∀b∈ch,rj X pins H b)(k:∀b o,b∉ch->s.heap.get? b=some o->h'.get? b=some o):
  Inv X pins σ H {s with heap:=h',toks:=t'}:=by
 have nit:∀b u,H b=some u->b∉ch:=fun b u e z=>by rw[(hf b z).1]at e;cases e
 refine I.step (g':=s.gens) (d':=s.drawn) (ch:=ch) (fun b hb=>?_) (fun b o _ _ hc e _=>k b o hc e) (fun b o _ _ hc e _=>⟨o.slots,k b o hc e⟩) (fun _ _ _ _ n=>n)
  (fun b o hc e=>⟨o,k b o hc e⟩) (fun _ _ e=>e) (fun _ _ _ e=>e) (fun b ps e=>⟨#[],by rw[e];simp⟩) (fun m hm=>?_) (fun b u e=>?_) I.bare
 ·obtain⟨_,h1,_,h3,h4,h5⟩:=hf b hb
  exact⟨h3,h1,h4,h5⟩
 ·obtain⟨o,es,ep,ho,r⟩:=hm
  exact⟨o,es,ep,k _ o (fun z=>(hf _ z).2.1 rfl) ho,r⟩
 ·refine(I.hok b u e).stay (fun c v hc q=>k c v ?_ q) (fun _ q=>q) fun _ _ q=>q
  rcases hc with z|z
  ·rw[z];exact nit b u e
  ·exact nit c _ z
section
variable {X:Cx}
end
structure Ys(J:It)(g:TG)(P:Hp->Prop)(n:Nat)(f:Nat->St->St):Prop where
 go:∀i H,i<n->P H->J.go i H
 stop:∀H,P H->J.stop n H
 yld:∀i H x H' σ (Q:St->Hp->Prop),i<n->P H->J.yld i H x H'->(∀H'',ar H H''->Q (f i σ) H'')->g x σ H' Q
theorem fh{K:Qj}{a:Qh}{xs:List V}(p:Nat):Ys (Il K a) (av p) (fun H=>bo K H a xs) xs.length (fun i σ=>σ.set p (some (xs.getD i .non))) where
 go:=fun i H hi h=>⟨xs,xs[i],h,by simp[hi]⟩
 stop:=fun H h=>⟨xs,h,QC _⟩
 yld:=fun i H x H' σ Q hi h y q=>by
  obtain⟨e,y⟩:=y
  subst e
  have e:xs.getD i .non=x:=by simp[QN,y xs h]
  have:=q _ (ar.refl _)
  rw[e]at this
  exact this
theorem sJ{K:Qj}{a:Qh}{xs:List V}(p r:Nat):Ys (L9 K a) (d0 K 2 (bj (av p) (bj (av r) eB))) (fun H=>bo K H a xs) xs.length (fun i σ=>(σ.set p (some (.int i))).set r (some (xs.getD i .non))) where
 go:=fun i H hi h=>⟨xs,xs[i],h,by simp[hi]⟩
 stop:=fun H h=>⟨xs,h,QC _⟩
 yld:=fun i H x H' σ Q hi h y q=>by
  obtain⟨T,v,rfl,hT,rfl,hv⟩:=y
  have e:xs.getD i .non=v:=by simp[QN,hv xs h]
  exists T,_,rfl,iM.of ay,rfl,_,_,rfl,_,_,rfl,rfl
  have:=q _ (ar.updN hT (o:=.tup [.int i,v]))
  rw[e]at this
  exact this
theorem ik{K:Qj}{a:Qh}{ts:List Qh}{u v w:Nat->V}(p r t:Nat):
  Ys (Il K a) (d0 K 3 (bj (av p) (bj (av r) (bj (av t) eB)))) (fun H=>bo K H a (ts.map V.ref)/\∀i b,ts[i]?=some b->iM K H b [u i,v i,w i]) ts.length (fun i σ=>((σ.set p (some (u i))).set r (some (v i))).set t (some (w i))) where
 go:=fun i H hi h=>⟨_,.ref ts[i],h.1,by simp[hi]⟩
 stop:=fun H h=>⟨_,h.1,⋯⟩
 yld:=fun i H x H' σ Q hi h y q=>by
  obtain⟨e,y⟩:=y
  subst e
  have e:x=.ref ts[i]:=by
   have:=y _ h.1
   simp[hi]at this
   exact this.symm
  subst e
  exact⟨ts[i],_,rfl,h.2 i _ (by simp[hi]),rfl,_,_,rfl,_,_,rfl,_,_,rfl,rfl,q _ (ar.refl _)⟩
theorem js{K:Qj}{a:Qh}{ts:List Qh}{u v:Nat->V}(p r:Nat):
  Ys (Il K a) (d0 K 2 (bj (av p) (bj (av r) eB))) (fun H=>bo K H a (ts.map V.ref)/\∀i b,ts[i]?=some b->iM K H b [u i,v i]) ts.length (fun i σ=>(σ.set p (some (u i))).set r (some (v i))) where
 go:=fun i H hi h=>⟨_,.ref ts[i],h.1,by simp[hi]⟩
 stop:=fun H h=>⟨_,h.1,⋯⟩
 yld:=fun i H x H' σ Q hi h y q=>by
  obtain⟨e,y⟩:=y
  subst e
  have e:x=.ref ts[i]:=by
   have:=y _ h.1
   simp[hi]at this
   exact this.symm
  subst e
  exact⟨ts[i],_,rfl,h.2 i _ (by simp[hi]),rfl,_,_,rfl,_,_,rfl,rfl,q _ (ar.refl _)⟩
theorem oa{J:It}{g:TG}{P:Hp->Prop}{n:Nat}{f:Nat->St->St}{tb:TS}{D:Ends}{σ:St}{H:Hp}(Y:Ys J g P n f)(Pv:Nat->St->Hp->Prop)(h0:Pv 0 σ H)(hP:∀i σ H,Pv i σ H->P H)
  (hs:∀i σ H H',i<n->Pv i σ H->ar H H'->tb {D with nx:=Pv (i+1),ct:=Pv (i+1),bk:=D.nx} (f i σ) H') (hd:∀σ H,Pv n σ H->D.nx σ H):IH g tb D J σ H:=by
 exists fun i m σ H=>m=n-i/\i<=n/\Pv i σ H,⟨n,⋯,Rm _,h0⟩
 rintro i m σ H ⟨rfl,hi,p⟩
 by_cases hlt:i<n
 ·exact .inr ⟨Y.go i H hlt (hP _ _ _ p),Pv (i+1),fun σ' H' p'=>⟨n-(i+1),by omega,rfl,hlt,p'⟩,fun x H' y=>Y.yld i H x H' σ _ hlt (hP _ _ _ p) y fun H'' s=>hs i σ H H'' hlt p s⟩
 ·have e:i=n:=by omega
  subst e
  exact .inl ⟨Y.stop H (hP _ _ _ p),hd σ H p⟩
section
variable {mp:List (Option Nat)}{g:TG}{tt:TT}{te:TE}{J:It}{P:Hp->Prop}{n:Nat}{f:Nat->St->St}{σ:St}{H:Hp}{Q:VK}
def fJ(l:Qh)(H H':Hp):Prop:=∀b o,b≠l->H b=some o->H' b=some o
theorem ar.x{H H':Hp}(s:ar H H')(l:Qh):fJ l H H':=fun b o _ h=>s b o h
theorem zJ{H:Hp}{l:Qh}{o:HO}:fJ l H (upd H l o):=fun b u hb h=>by rw[ax hb];exact h
theorem gL(Y:Ys J g P n f)(st:Nat->St)(hf:∀i σ',(σ'=dM mp σ\/∃j,σ'=st j)->f i σ'=st i)(hP:∀H',ar H H'->P H')(hz:n<=Qr)(b:Nat->Bool)(R:Qh->Nat->V->Hp->Prop)
  (hR:∀l i v H1 H2,fJ l H1 H2->R l i v H1->R l i v H2)
  (ht:∀i,i<n->∀(H':Hp)(G:Bool->Hp->Prop),ar H H'->(∀H'',ar H' H''->G (b i) H'')->tt (st i) H' G)
  (he:∀l i,i<n->b i=true->∀(H':Hp)(G:VK),H l=none->(∃o,H' l=some o)->ar H H'->(∀v H'',R l i v H''->ar H' H''->G v H'')->te (st i) H' G)
  (hd:∀l ys H',H l=none->ar H H'->H' l=some (.lst ys)->QE (fun i v=>R l i v H') ((QM n).filter b) ys->Q (.ref l) H'):dP mp g tt te J σ H Q:=by
 intro l hl
 refine⟨fun i m acc σ' H'=>m=n-i/\i<=n/\acc.length<=i/\ar H H'/\H' l=some (.lst acc)/\QE (fun i v=>R l i v H') ((QM i).filter b) acc/\(σ'=dM mp σ\/∃j,σ'=st j),
  ⟨n,⋯,Rm _,QC _,ar.updN hl,ay,.nil,.inl rfl⟩,?_⟩
 rintro i m acc σ' H' ⟨rfl,hi,ha,s,h1,h2,hσ⟩
 by_cases hlt:i<n
 ·refine .inr ⟨Y.go i H' hlt (hP _ s),by omega,fun acc' σ2 H2=>i+1<=n/\acc'.length<=i+1/\ar H H2/\H2 l=some (.lst acc')/\QE (fun i v=>R l i v H2) ((QM (i+1)).filter b) acc'/\(σ2=dM mp σ\/∃j,σ2=st j),fun acc' σ2 H2 p'=>⟨n-(i+1),by omega,rfl,p'⟩,fun x H2 y=>?_⟩
  refine Y.yld i H' x H2 σ' _ hlt (hP _ s) y fun H3 s3=>?_
  rw[hf i σ' hσ]
  refine ht i hlt H3 _ (s.trans s3) fun H4 s4=>?_
  have s34:=s3.trans s4
  cases hb:b i with
  |false=>
   refine Km ⟨hlt,by omega,s.trans s34,s34 _ _ h1,?_,.inr ⟨i,rfl⟩⟩
   rw[TX,Wf,Tt,hb]
   simp only[SO,if_false,YJ,UL]
   exact Paired.mapP h2 fun j v r=>hR l j v _ _ (s34.x l) r
  |true=>
   refine E1 ?_
   refine he l i hlt hb H4 _ hl ⟨_,s34 _ _ h1⟩ (s.trans s34) fun v H5 r s5=>?_
   have s35:=s34.trans s5
   refine⟨s35 _ _ h1,hlt,?_,(s.trans s35).upd hl,ay,?_,.inr ⟨i,rfl⟩⟩
   ·rw[Rz,TY];omega
   ·rw[TX,Wf,Tt,hb]
    simp only[if_true,YJ]
    exact(Paired.mapP h2 fun j v r=>hR l j v _ _ zJ (hR l j v _ _ (s35.x l) r)).snoc (hR l i v _ _ zJ r)
 ·have e:i=n:=by omega
  subst e
  exact .inl ⟨Y.stop H' (hP _ s),hd l acc H' hl s h1 h2⟩
theorem k9{α:Type}{F:α->V}:∀{xs:List α}{ys:List V},QE (fun x v=>v=F x) xs ys->ys=xs.map F
 |_,_,.nil=>rfl
 |_,_,.cons e t=>by rw[e,k9 t];rfl
theorem b7(Y:Ys J g P n f)(st:Nat->St)(hf:∀i σ',(σ'=dM mp σ\/∃j,σ'=st j)->f i σ'=st i)(hP:∀H',ar H H'->P H')(hz:n<=Qr)(F:Nat->V)
  (he:∀i,i<n->∀(H':Hp)(G:VK),ar H H'->(∀H'',ar H' H''->G (F i) H'')->te (st i) H' G)
  (hd:∀l H',H l=none->ar H H'->H' l=some (.lst ((QM n).map F))->Q (.ref l) H'):dP mp g eA te J σ H Q:=by
 refine gL Y st hf hP hz (fun _=>true) (fun _ i v _=>v=F i) (fun _ _ _ _ _ _ h=>h) (fun i hi H' G s k=>k H' (ar.refl _)) (fun l i hi _ H' G _ _ s k=>he i hi H' G s fun H'' s'=>k _ H'' rfl s') fun l ys H' h0 s h1 pr=>?_
 have e:=k9 pr
 rw[SI.mpr (fun _ _=>rfl)]at e
 subst e
 exact hd l H' h0 s h1
theorem qP(Y:Ys J g P n f)(st:Nat->St)(hf:∀i σ',(σ'=dM mp σ\/∃j,σ'=st j)->f i σ'=st i)(hP:∀H',ar H H'->P H')(hz:n<=Qr)(b:Nat->Bool)(F:Nat->V)
  (ht:∀i,i<n->∀(H':Hp)(G:Bool->Hp->Prop),ar H H'->(∀H'',ar H' H''->G (b i) H'')->tt (st i) H' G)
  (he:∀i,i<n->b i=true->∀(H':Hp)(G:VK),ar H H'->(∀H'',ar H' H''->G (F i) H'')->te (st i) H' G)
  (hd:∀l H',H l=none->ar H H'->H' l=some (.lst (((QM n).filter b).map F))->Q (.ref l) H'):dP mp g tt te J σ H Q:=by
 refine gL Y st hf hP hz b (fun _ i v _=>v=F i) (fun _ _ _ _ _ _ h=>h) ht (fun l i hi hb H' G _ _ s k=>he i hi hb H' G s fun H'' s'=>k _ H'' rfl s') fun l ys H' h0 s h1 pr=>?_
 have e:=k9 pr
 subst e
 exact hd l H' h0 s h1
theorem j0{T:Qh->Nat->Prop}:∀{is:List Nat}{ys:List V},QE (fun i v=>∃b,v=.ref b/\T b i) is ys->∃bs:List Qh,ys=bs.map V.ref/\QE (fun i b=>T b i) is bs
 |_,_,.nil=>⟨[],rfl,.nil⟩
 |_,_,.cons ⟨b,e,h⟩ t=>by
  obtain⟨bs,e',p⟩:=j0 t
  exact⟨b::bs,by rw[e,e'];rfl,.cons h p⟩
end
theorem Lj{i:Int}{ns:List Int}:NV (.int i) (ns.map V.int)=decide (i∈ns):=by
 unfold NV
 rw[XR]
 induction ns with
 |nil=>simp
 |cons n r ih=>
  rw[SK,ih]
  show((n==i) || decide (i∈r))=_
  by_cases h:n=i
  ·subst h;simp
  ·have:(n==i)=false:=by simpa using h
   rw[this,YL]
   by_cases h':i∈r
   ·simp[h']
   ·have:¬i∈n::r:=fun z=>by
     rcases QI.mp z with e|e
     ·exact h e.symm
     ·exact h' e
    rw[decide_eq_false h',decide_eq_false this]
theorem HK(ns:List Int):(ns.map V.int).all pO=true:=by
 rw[Ul]
 exact RL.mpr fun _ _=>rfl
section
variable {K:Qj}{H:Hp}{Q:VK}
theorem N4{p:Qh}{ns:List Int}{i:Int}(hs:bo K H p (ns.map V.int))(h:Q (.bl (decide (i∈ns))) H):Nm K false (.int i) (.ref p) H Q:=
 ⟨p,_,rfl,.inl hs,rfl,HK ns,by rw[if_neg Rf,Lj];exact h⟩
theorem Oj{p:Qh}{bs:List Bool}(hs:bo K H p (bs.map V.bl))(h:Q (.bl (bs.all id)) H):Kp K [.ref p] H Q:=⟨p,bs,rfl,hs,h⟩
theorem Mn{te:TE}{σ:St}{R:It->Hp->Prop}(h:te σ H fun x H1=>∃a,x=.ref a/\(∃xs,bo K H1 a xs)/\R (L9 K a) H1):xn K te σ H R:=h
end
def iC(K:Qj)(H:Hp)(a:Qh)(rows:List (List Int)):Prop:=∃bs:List Qh,bo K H a (bs.map V.ref)/\QE (fun r b=>bo K H b (r.map V.int)) rows bs
theorem ar.rows{K:Qj}{H H':Hp}{a:Qh}{rows:List (List Int)}(e:ar H H')(h:iC K H a rows):iC K H' a rows:=by
 obtain⟨bs,h1,h2⟩:=h
 exact⟨bs,e.seq h1,Paired.mapP h2 fun _ _ q=>e.seq q⟩
theorem lQ{α β:Type}{F:α->β->Prop}:∀{xs:List α}{ys:List β}{i:Nat}{y:β},QE F xs ys->ys[i]?=some y->∃x,xs[i]?=some x/\F x y
 |_,_,_,_,.nil,e=>by simp at e
 |_,_,0,_,.cons h _,e=>by simp at e;subst e;exact⟨_,rfl,h⟩
 |_,_,i+1,_,.cons _ t,e=>by simpa using lQ t (by simpa using e)
section
variable {prog:Qy}{w:Qv}{A:QF}{E:Qi->Qk->Prop}{s:Qk}
end
theorem oG:∀{xs:List V}{us:List Qi},xs.length=us.length->(∀(i:Nat)(x:V)(u:Qi),xs[i]?=some x->us[i]?=some u->RelV x u)->cu xs us
 |[],[],_,_=>.nil
 |x::r,u::q,hl,h=>.cons (h 0 x u rfl rfl) (oG (by simpa using hl) fun i y w e e'=>h (i+1) y w (by simpa using e) (by simpa using e'))
def Cs:List V->Hp->VK->Prop:=fun xs H Q=>(∃i,xs=[.int i]/\Q (.int i) H)\/∃k,xs=[.bl k]/\Q (.int (if k then 1 else 0)) H
theorem tW{X:Cx}:d4 X (.type "int") Cs:=GS
theorem MI{k:Bool}{H:Hp}{Q:VK}(h:Q (.int (if k then 1 else 0)) H):Cs [.bl k] H Q:=.inr ⟨k,rfl,h⟩
section
variable {K:Qj}{D:Ends}{σ:St}{H:Hp}{Q:VK}{te ta tb:TE}{tl:TA}{xs:List V}{i j:Int}
def NL(xs:List V)(H:Hp)(Q:VK):Prop:=xs.length<=Qr/\∀p,H p=none->Q (.ref p) (upd H p (.lst xs))
def MO(xs:List V)(H:Hp)(Q:VK):Prop:=xs.length<=Qr/\∀p,H p=none->Q (.ref p) (upd H p (.tup xs))
theorem Mx(h:tl σ H fun xs H1=>NL xs H1 Q):fK tl σ H Q:=h
theorem ME(h:tl σ H fun xs H1=>MO xs H1 Q):kg tl σ H Q:=h
theorem Ng(hz:xs.length<=Qr)(h:∀p H2,H p=none->ar H H2->H2 p=some (.lst xs)->Q (.ref p) H2):NL xs H Q:=⟨hz,fun p hp=>h p _ hp (ar.updN hp) ay⟩
theorem NF(hz:xs.length<=Qr)(h:∀p H2,H p=none->ar H H2->H2 p=some (.tup xs)->Q (.ref p) H2):MO xs H Q:=⟨hz,fun p hp=>h p _ hp (ar.updN hp) ay⟩
theorem MU{a:Qh}{lo hi:Option Int}(hs:bo K H a xs)(h:∀p H2,H p=none->ar H H2->H2 p=some (.lst (sY xs lo hi))->Q (.ref p) H2):GQ K (.ref a) lo hi H Q:=⟨a,xs,rfl,hs,fun p hp=>h p _ hp (ar.updN hp) ay⟩
theorem GB{p:Qh}(hs:bo K H p xs)(h:∀l H2,H l=none->ar H H2->H2 l=some (.lst xs)->Q (.ref l) H2):Bv K [.ref p] H Q:=⟨p,xs,rfl,.inl hs,fun l hl=>h l _ hl (ar.updN hl) ay⟩
theorem xo{l b:Qh}{ys:List V}(h1:H l=some (.lst xs))(h2:H b=some (.lst ys))(hz:xs.length+ys.length<=Qr)(h:∀p H2,H p=none->ar H H2->H2 p=some (.lst (xs++ys))->Q (.ref p) H2):E7 (.ref l) (.ref b) H Q:=
 ⟨l,b,xs,ys,rfl,rfl,h1,h2,hz,fun p hp=>h p _ hp (ar.updN hp) ay⟩
theorem M9{n:Nat}{g:Mh}(h:te σ H fun x H1=>d0 K n g x σ H1 D.nx):bM te (d0 K n g) D σ H:=h
theorem fI{l:Qh}{y:V}(hp:H l=some (.lst xs))(hz:xs.length<Qr)(h:Q .non (upd H l (.lst (xs++[y])))):jU (.ref l) [y] H Q:=⟨l,xs,y,rfl,rfl,hp,hz,h⟩
theorem NU{p:Qh}(hp:H p=some (.lst xs)):LK K "list" (.ref p) H:=.inl ⟨rfl,_,bo.of hp⟩
end
section
variable {A B:Prop}{c:Prop} [Decidable c]
theorem vo(hc:c)(h:A):if decide c=true then A else B:=by rw[decide_eq_true hc];exact E1 h
theorem gB(hc:¬c)(h:B):if decide c=true then A else B:=by rw[decide_eq_false hc];exact Km h
theorem Kc(hc:¬c)(h:A):if(!decide c)=true then A else B:=by rw[decide_eq_false hc];exact E1 h
theorem N5(h:B):if(!true)=true then A else B:=Km h
theorem Od(h:A):if(!false)=true then A else B:=E1 h
theorem cQ(h1:c->A)(h2:¬c->B):if decide c=true then A else B:=LN (fun h=>h1 (of_decide_eq_true h)) (fun h=>h2 fun z=>h (decide_eq_true z))
end
theorem Iv(ns:List Int)(m:Nat):sY (ns.map V.int) none (some (m:Int))=(ns.take m).map V.int:=by
 unfold sY
 rw[HT.Jy,HT.BD,Qw,Nat.sub_zero,Xj,V3]
 rcases Nat.le_total m ns.length with h|h
 ·rw[Nat.min_eq_left h]
 ·rw[Nat.min_eq_right h,S7 ⋯,S7 (by simpa using h)]
theorem bL:(1000:Nat)<=Qr:=SA (GJ (QC _))
mutual
def nice:QY->Bool
 |.none=>true
 |.bool _=>false
 |.int _=>true
 |.str x=>VI x
 |.list xs=>d6 xs
 |.tuple xs=>d6 xs
 |.dict _=>false
def d6:List QY->Bool
 |[]=>true
 |x::xs=>nice x&&d6 xs
end
mutual
theorem sj:∀d:QY,nice d=true->d.canLay0=true
 |.none,_=>by simp[R6]
 |.bool _,h=>by simp[nice]at h
 |.int _,_=>by simp[R6]
 |.str x,h=>by rw[R6];rw[nice]at h;exact h
 |.list xs,h=>by rw[R6];exact ie xs (by rw[nice]at h;exact h)
 |.tuple xs,h=>by rw[R6];exact ie xs (by rw[nice]at h;exact h)
 |.dict _,h=>by simp[nice]at h
theorem ie:∀ds:List QY,d6 ds=true->S1 ds=true
 |[],_=>by simp[S1]
 |x::xs,h=>by
  rw[d6,Rj]at h
  rw[S1,sj x h.1,ie xs h.2]
  rfl
end
mutual
theorem sF:∀d e:QY,nice d=true->nice e=true->RJ d e=true
 |.list xs,.list ys,h,h'=>by rw[RJ];exact oM xs ys (by rw[nice]at h;exact h) (by rw[nice]at h';exact h')
 |.tuple xs,.tuple ys,h,h'=>by rw[RJ];exact oM xs ys (by rw[nice]at h;exact h) (by rw[nice]at h';exact h')
 |.bool _,_,h,_=>by simp[nice]at h
 |.dict _,_,h,_=>by simp[nice]at h
 |.none,.none,_,_ | .none,.int _,_,_ | .none,.str _,_,_ | .none,.list _,_,_ | .none,.tuple _,_,_=>by simp[RJ]
 |.int _,.none,_,_ | .int _,.int _,_,_ | .int _,.str _,_,_ | .int _,.list _,_,_ | .int _,.tuple _,_,_=>by simp[RJ]
 |.str _,.none,_,_ | .str _,.int _,_,_ | .str _,.str _,_,_ | .str _,.list _,_,_ | .str _,.tuple _,_,_=>by simp[RJ]
 |.none,.bool _,_,h' | .none,.dict _,_,h' | .int _,.bool _,_,h' | .int _,.dict _,_,h' | .str _,.bool _,_,h' | .str _,.dict _,_,h'=>by simp[nice]at h'
 |.list _,.none,_,_ | .list _,.int _,_,_ | .list _,.str _,_,_ | .list _,.tuple _,_,_=>by simp[RJ]
 |.list _,.bool _,_,h' | .list _,.dict _,_,h'=>by simp[nice]at h'
 |.tuple _,.none,_,_ | .tuple _,.int _,_,_ | .tuple _,.str _,_,_ | .tuple _,.list _,_,_=>by simp[RJ]
 |.tuple _,.bool _,_,h' | .tuple _,.dict _,_,h'=>by simp[nice]at h'
theorem oM:∀ds es:List QY,d6 ds=true->d6 es=true->S4 ds es=true
 |[],[],_,_=>by simp[S4]
 |[],_::_,_,_=>by simp[S4]
 |_::_,[],_,_=>by simp[S4]
 |x::xs,y::ys,h,h'=>by
  rw[d6,Rj]at h h'
  rw[S4,sF x y h.1 h'.1,oM xs ys h.2 h'.2]
  rfl
end
def eY(n:Nat)(d:QY):Prop:=nice d=true/\d.depth<=n
theorem eY.shaped{n:Nat}{d:QY}(h:eY n d)(hn:n<=64):Sr d=true:=by
 unfold Sr
 rw[sj d h.1,decide_eq_true (show d.depth<=64 by have:=h.2;omega)]
 rfl
theorem eY.mono{n m:Nat}{d:QY}(h:eY n d)(hm:n<=m):eY m d:=⟨h.1,Qt h.2 hm⟩
theorem Fy{n:Nat}:∀{ds:List QY},(∀d∈ds,eY n d)->d6 ds=true/\Tj ds<=n
 |[],_=>by simp[d6,Tj]
 |x::xs,h=>by
  obtain⟨h1,h2⟩:=h x Ri
  obtain⟨h3,h4⟩:=Fy fun y hy=>h y (Q2 _ hy)
  rw[d6,h1,h3,Tj]
  exact⟨rfl,by omega⟩
theorem so{n:Nat}{ds:List QY}(h:∀d∈ds,eY n d):eY (n+1) (.list ds):=by
 obtain⟨h1,h2⟩:=Fy h
 exact⟨by rw[nice];exact h1,by rw[SJ];omega⟩
theorem JJ{n:Nat}{ds:List QY}(h:∀d∈ds,eY n d):eY (n+1) (.tuple ds):=by
 obtain⟨h1,h2⟩:=Fy h
 exact⟨by rw[nice];exact h1,by rw[SJ];omega⟩
section
variable {K:Qj}{H:Hp}{Q:VK}{x y:V}{d e:QY}{n:Nat}
theorem D9(h1:dW K H x d)(h2:dW K H y e)(hd:eY n d)(he:eY n e)(hn:n<=64)(h:Q (.bl (same d e)) H):kC K false x y H Q:=
 ⟨d,e,h1,h2,hd.shaped hn,he.shaped hn,sF d e hd.1 he.1,by rw[TL];exact h⟩
theorem Mr(h1:dW K H x d)(h2:dW K H y e)(hd:eY n d)(he:eY n e)(hn:n<=64)(h:Q (.bl (!same d e)) H):kC K true x y H Q:=
 ⟨d,e,h1,h2,hd.shaped hn,he.shaped hn,sF d e hd.1 he.1,by rw[Uy];exact h⟩
end
section
variable {X:Cx}
end
section
variable {X:Cx}
end
section
variable {X:Cx}
def Pk(K:Qj)(t:TE):TT:=fun σ H Q=>t σ H fun x H1=>∃a xs,x=.ref a/\bo K H1 a xs/\Q (!xs.isEmpty) H1
theorem Fg{e:Qp}{t:TE}(h:PE X e t)(he:∀whole,isTrue e X.env whole=(do let v <-whole;standAt e.pos;holding [v] (truthy v)):=by intro _;rfl):PT X e (Pk X.K t):=by
 intro pins s σ H Q I hw
 refine isTrue_plain (cX (h pins s σ H _ I hw) fun v s1 ⟨x,H1,I1,r1,q1⟩=>?_) (he _)
 obtain⟨a,xs,rfl,hS,q⟩:=q1
 cases r1
 obtain⟨its,rv,pl,hz⟩:=I1.list hS
 have hl:=rv.length
 have hs:its.length<=Qr:=by rw[<-hl];exact hz
 refine wpAny_truthy_list pl.isList (by rw [Rr]; have : (Qr : Int) < 2 ^ 63 := by decide
                                        omega) ?_
 exists H1,I1.tok _
 have e1:its.toArray.isEmpty=xs.isEmpty:=by cases xs<;>cases its<;>simp_all
 rw[e1]
 exact q
end
section
variable {prog:Qy}{w:Qv}{A:QF}{E:Qi->Qk->Prop}{s:Qk}
end
section
variable {prog:Qy}{w:Qv}{A:QF}{E:Qi->Qk->Prop}{s:Qk}
end
section
variable {X:Cx}
end
section
variable {prog:Qy}{w:Qv}{A:QF}{R:Result->Qk->Prop}{I:Qh}{fp wr:List Qh}{n:Nat}{P:Nat->Qi->Prop}{St:Nat->Qq->Prop}
end
section
variable {prog:Qy}{w:Qv}{A:QF}{E:Qi->Qk->Prop}{s:Qk}
end
section
variable {X:Cx}
end
structure jN(P:Qy)(w:Qv)(K:Qj)(mg:Qg->Option Qi)(base:Qq)(k:Nat)(x:Qg)(ps:List Qg)(sp:Sp):Prop where
 ex:∃a fd,mg x=some (.ref a)/\R9 K (.ref a)=true/\Binds K fd ps []/\nj P w K mg base sL k a fd ps sp
structure bG(K:Qj)(mg:Qg->Option Qi)(x:Qg)(st:Qs)(ps:List Qg):Prop where
 ex:∃a fd,mg x=some (.ref a)/\MB K x x st a fd/\∀us:List Qi,us.length=ps.length->bindArgs fd ⟨us,[]⟩=pure (ps.zip us)
section
variable {P:Qy}{w:Qv}{K:Qj}{mg:Qg->Option Qi}{base:Qq}
theorem bG.cal{x:Qg}{st:Qs}{ps N:List Qg}{rd:TS}{k:Nat}{sp:Sp}(F:bG K mg x st ps)(S:aC N ps (ao st))(len:∀vs H Q E,sp vs H Q E->vs.length=ps.length)
  (hb:∀(f:Qh)(cdv:Qi)(A:QF)(outer:List QP)(s:Qk)(H:Hp)(E:XK),dv k (A.deeper (Rt x (ao st) s.heap.objs.size f cdv))->xc (cJ sL P w K mg base N x (ao st) f cdv A outer s H E).nox (dO st) rd)
  (hr:∀vs H Q E,sp vs H Q E->rd {nx:=fun _ H'=>Q .non H',rt:=Q} (start N vs) H):jN P w K mg base (k+1) x ps sp:=by
 obtain⟨a,fd,hm,hF,hbd⟩:=F.ex
 exact⟨a,fd,hm,hF.kp,.all hbd,hF.ok S len fun cdv A outer s H vs Q E room h=>⟨rd,hb a cdv A outer s H E room,hr vs H Q E h⟩⟩
theorem bG.law{x:Qg}{st:Qs}{N:List Qg}{y:Qg}{rd:TS}{k:Nat}{sp:Sp}{fa:Qh}(F:bG K mg x st [y])(hfa:mg x=some (.ref fa))(S:aC N [y] (ao st))(len:∀vs H Q E,sp vs H Q E->vs.length=1)
  (hb:∀(base:Qq)(f:Qh)(cdv:Qi)(A:QF)(outer:List QP)(s:Qk)(H:Hp)(E:XK),dv k (A.deeper (Rt x (ao st) s.heap.objs.size f cdv))->xc (cJ sL P w K mg base N x (ao st) f cdv A outer s H E).nox (dO st) rd)
  (hr:∀vs H Q E,sp vs H Q E->rd {nx:=fun _ H'=>Q .non H',rt:=Q} (start N vs) H):
  ∃fd:R1,(∀(s:Qk)(u:Qi),BindsTo s fd ⟨[u],[]⟩ [(y,u)])/\∀base:Qq,nj P w K mg base sL (k+1) fa fd [y] sp:=by
 obtain⟨a,fd,hm,hF,hbd⟩:=F.ex
 have e:=hfa.symm.trans hm
 cases e
 exact⟨fd,fun s u=>.of_eq (hbd [u] rfl),fun base=>hF.ok S len fun cdv A outer s H vs Q E room h=>⟨rd,hb base fa cdv A outer s H E room,hr vs H Q E h⟩⟩
theorem NN{h:Qq}{x:Qg}{st:Qs}{ps:List Qg}{f:Qh}{oc:Qi}{od an:Option Qh}{osl:Array (Option Qi)}{kV doc pm cdv ct:Qi}(X:K.In h)(G:h.Ns Q6 mg)
  (a4:RE K Q6 x=some (some (.ref f))) (l4:K.lookup f=some ⟨oc,od,.func (SD x x (l9 st) (dO st) (ao st) .none kV doc pm an cdv ct),osl⟩)
  (c4:UT K cdv x=true) (k4:R9 K (.ref f)=true)
  (hb:∀(kV doc pm:Qi)(an:Option Qh)(cdv ct:Qi)(us:List Qi),us.length=ps.length->bindArgs (SD x x (l9 st) (dO st) (ao st) .none kV doc pm an cdv ct) ⟨us,[]⟩=pure (ps.zip us)):bG K mg x st ps:=
 ⟨f,_,Tb X G a4,Jf l4 c4 k4,hb kV doc pm an cdv ct⟩
end
section
variable {X:Cx}{k:Nat}{ps:List Qg}{sp:Sp}{x:Qg}{p pos:QH}{e:Qp}{es:List Qp}{t:TA}
theorem aM(C:jN X.prog X.w X.K X.mg X.base k x ps sp)(hr:dv k X.A)(ha:PA X (e::es) t)(hg:Gl X x:=by rfl)(hdb:(x==("__debug__":Qg))=false:=by decide)
  (he:Qx (e::es) X.env=(false,eval e X.env)::Qx es X.env:=by rfl) (hpl:(Q1 pos (Qx es X.env)).any (·.1)=false:=by rfl):PE X (.Call (.Name x p) (e::es) [] pos) (aO sp [] E0 t):=by
 obtain⟨a,fd,hm,hk,hb,F⟩:=C.ex
 exact FR F hr hg hm hk hb .nil Gh ha hdb he hpl
theorem FG{op:Operator}{r:R2}(h:jM X (Sx op) r):Qa X op r:=h
theorem KZ{K:Qj}{mg:Qg->Option Qi}{h:Qq}{x:Qg}(X:K.In h)(G:h.Ns Q6 mg)(z:RE K Q6 x=some none):mg x=none:=aaT X G z
end
def cK(n:Nat)(R:List V->Hp->VK->Prop):Sp:=fun vs H Q _=>vs.length=n/\R vs H Q
theorem aI{n:Nat}{R:List V->Hp->VK->Prop}{m:Nat}(e:n=m):∀vs H Q E,cK n R vs H Q E->vs.length=m:=fun _ _ _ _ h=>h.1.trans e
def EM(K:Qj):Sp:=cK 1 fun vs H Q=>∃(a:Qh)(ns:List Int),vs=[.ref a]/\bo K H a (ns.map V.int)/\ns.length<=63/\∀H',Q (.bl true) H'
theorem Kd{l:Xb}{k:Nat}{q:Qy}{loose:List Qg}{XP:(Qg->Option Qi)->Qq->Prop}{YP:Qv->Qq->Prop}{d:DefRec}{K:Params->Qj}(hn:l.most=some 63)(hdf:d.params.defaults=[])(hr:dv k callerA)
  (hY:∀(w:Qv)(h:Qq),YP w h->(K w.params).In h)
  (F:∀(w:Qv)(mg:Qg->Option Qi)(fa:Qh)(h:Qq),(K w.params).In h->h.Ns Q6 mg->mg d.name=some (.ref fa)->
   ∃fd:R1,(∀(s:Qk)(u:Qi),BindsTo s fd ⟨[u],[]⟩ [("script",u)])/\∀base:Qq,nj l.prog w (K w.params) mg base sL k fa fd ["script"] (EM (K w.params))):
  XD q loose XP YP l.row.toRowW d [] (fun f vs=>Wn f vs):=
 K5 (n:=63) (k:=k) (x:="script") (CX:=fun _=>sL) (sp:=fun w=>EM (K w.params)) hn (by decide) hdf hr hY
  (fun w mg fa h KX G e=>let ⟨fd,h1,h2⟩:=F w mg fa h KX G e;⟨fd,h1,fun base _ _=>h2 base⟩) (fun _ _ a ns hl _ hS=>⟨rfl,a,ns,rfl,hS,hl,fun _=>rfl⟩) fun _ _ _ _ _ z=>z
theorem HJ(o:Qo)(f):(o.mapFields f).dict=o.dict:=by
 unfold Te;split<;>rfl
noncomputable def Nj(base h:Qq)(e T:Qh)(cls:Qi):Prop:=
 (∃oe vs oT ts,h.get? e=some oe/\oe.cls=cls/\oe.dict=none/\oe.data=.fields vs/\vs[1]?=some (.ref T)/\h.get? T=some oT/\oT.data=.fields ts/\ts[3]?=some .none)/\base.get? T=none/\T≠e
noncomputable def Jm(base:Qq)(l:List QP)(e:Qh)(cls:Qi)(h h':Qq):Prop:=
 (∀b o,b≠e->b∉AS l->h.get? b=some o->h'.get? b=some o)/\(∀b o,b≠e->h.get? b=some o->∃sl,h'.get? b=some {o with slots:=sl})/\∃T,h.objs.size<=T/\Nj base h' e T cls
section
variable {M:Model}{A:QF}{E:Qi->Qk->Prop}{s:Qk}
theorem oR{base:Qq}{env:QP}{outer:List QP}{L e:Qh}{oe:Qo}{vs:Array Qi}{head:Qi}{hadNext:Bool}{Q:Unit->Qk->Prop}(hfr:A.frames=some (env::outer))(hl:s.heap.FunFrames base (env::outer))(hf:env.frame=some L)
  (he:s.heap.get? e=some oe) (hkb:base.StaysIn s.heap) (hdn:oe.dict=none) (hd:oe.data=.fields vs) (hsz:1<vs.size) (h:∀h',Jm base (env::outer) e oe.cls s.heap h'->Q () {s with heap:=h'}):
  Ql M A (do let a <-frameOf env;let pl <-entryPlaceOf L hadNext;let b <-Xt head a .none (Rg L) .none pl;setField (.ref e) 1 b) (fun _ s'=>Ql M A (setFlight (.ref e) none) Q E s') E s:=by
 have hene:e∉(env::outer).filterMap (·.frame):=fun hm=>by
  obtain⟨_,o,ho,hnf⟩:=hl.mem hm ;rw[he]at ho;injection ho with ho;subst ho;exact hnf vs hd
 refine Qm (wpAny_frameOf_fun hfr hl hf fun g1 s1=>?_) ;refine Qm (wpAny_entryPlaceOf fun pl hpl=>?_)
 unfold Xt newFields ;refine Qm (wpAny_newObj_type ?_ (hpl.sizeOk5 _ _ _ _ _))
 have e1:g1.get? e=some oe:=(s1.2.1 e hene).trans he
 have kb1:base.StaysIn g1:=fun b o hbo=>(s1.2.1 b fun hm=>by rw[(hl.mem hm).1]at hbo;cases hbo).trans (hkb b o hbo)
 have e2:=QS (h:=g1) {cls:=.type "traceback",dict:=none,data:=.fields ([head,.ref L,.none,Rg L,.none]++(if pl.isEmpty then UX 6 RC else pl)).toArray} e1
 refine wpAny_setField e2 hd hsz ?_ ;have hTe:g1.objs.size≠e:=RK (QJ e1)
 have d3:=VJ hd (·.setIfInBounds 1 (QL g1.objs.size))
 have e3:=Yj (Te (·.setIfInBounds 1 (QL g1.objs.size))) e2 (Xl d3)
 have T3:=(S3 (g1.push {cls:=.type "traceback",dict:=none,data:=.fields ([head,.ref L,.none,Rg L,.none]++(if pl.isEmpty then UX 6 RC else pl)).toArray}) (Te (·.setIfInBounds 1 (QL g1.objs.size))) (QT hTe)).trans (QX g1 rfl)
 unfold setFlight ;refine Qm (Ro e3 d3 (x:=.ref g1.objs.size) (by simp[hsz]) ?_)
 rw[if_pos (show(QL g1.objs.size != RC)=true from by simp)]
 refine wpAny_setField T3 rfl (by simp only[Rr,Rz,Rn,Xh]<;>omega) (h _ ?_)
 have keep : ∀ b o, b ≠ e -> g1.get? b = some o -> (((g1.push { cls := .type "traceback", dict := none, data := .fields ([head, .ref L, .none, Rg L, .none] ++ (if pl.isEmpty then UX 6 RC else pl)).toArray }).update e (Te (·.setIfInBounds 1 (QL g1.objs.size)))).update g1.objs.size
       (Te (·.setIfInBounds 3 ((none:Option Qh).elim RC fun f=>Rg f)))).get? b=some o:=fun b o hbe hb=>by
  rw[S3 _ _ (RK (QJ hb)),S3 _ _ (QT hbe)] ;exact QS _ hb
 exists fun b o hbe hbf hb=>keep b o hbe ((s1.2.1 b hbf).trans hb),fun b o hbe hb=>?_
 ·obtain⟨sl,hs⟩:=s1.2.2 b o hb ;exact⟨sl,keep b _ hbe hs⟩
 ·refine⟨g1.objs.size,Ui s1.1.symm,⟨_,_,_,_,?_,Obj.cls_mapFields _ _,(HJ _ _).trans hdn,d3,by simp[hsz],Yj _ T3 (Xl (VJ rfl _)),VJ rfl _,by first|(simp;done)|(rcases hpl with rfl|⟨_,_,_,_,_,_,_,rfl⟩<;>simp)⟩,kb1.fresh,hTe⟩
  rw[S3 _ _ hTe] ;exact e3
theorem Eb{base:Qq}{env:QP}{outer:List QP}{L e:Qh}{oe:Qo}{vs:Array Qi}{Q:Unit->Qk->Prop}(hfr:A.frames=some (env::outer))(hl:s.heap.FunFrames base (env::outer))(hf:env.frame=some L)
  (he:s.heap.get? e=some oe) (hkb:base.StaysIn s.heap) (hdn:oe.dict=none) (hd:oe.data=.fields vs) (h1:vs[1]?=some .none) (h:∀h',Jm base (env::outer) e oe.cls s.heap h'->Q () {s with heap:=h'}):Ql M A (leaving env (.ref e)) Q E s:=by
 unfold leaving noteFrame ;simp only[hf]
 refine Qm (Qm (Ro he hd h1 ?_)) ;rw[if_neg (by decide)]
 exact oR hfr hl hf he hkb hdn hd (TR.mp h1).1 h
end
theorem ED{M:Model}{A:QF}{E:Qi->Qk->Prop}{s:Qk}{base:Qq}{env:QP}{outer:List QP}{L e T:Qh}{cls:Qi}{oe oT:Qo}{vs ts:Array Qi}{Q:Unit->Qk->Prop}(hfr:A.frames=some (env::outer))(hl:s.heap.FunFrames base (env::outer))(hf:env.frame=some L)
  (he:s.heap.get? e=some oe) (hcls:oe.cls=cls) (hdn:oe.dict=none) (hd:oe.data=.fields vs) (h1:vs[1]?=some (.ref T)) (hnT:base.get? T=none) (hTe:T≠e) (hT:s.heap.get? T=some oT) (hdT:oT.data=.fields ts) (h3:ts[3]?=some .none) (hkb:base.StaysIn s.heap)
  (h:∀h',(∀b o,b≠e->b≠T->b∉AS (env::outer)->s.heap.get? b=some o->h'.get? b=some o)->(∀b o,b≠e->b≠T->s.heap.get? b=some o->∃sl,h'.get? b=some {o with slots:=sl})->(∃T',s.heap.objs.size<=T'/\Nj base h' e T' cls)->Q () {s with heap:=h'}):Ql M A (leaving env (.ref e)) Q E s:=by
 subst hcls
 unfold leaving noteFrame ;simp only[hf] ;refine Qm (Qm (Ro he hd h1 ?_))
 rw[if_pos (show(QL T != RC)=true from by simp)] ;refine Qm (Ro hT hdT h3 ?_)
 rw[if_neg (show ¬((RC==Rg L)=true)from by simp[Rg])] ;refine Qm (wpAny_setField hT hdT (TR.mp h3).1 ?_)
 have other:∀b,b≠T->(s.heap.update T (Te (·.setIfInBounds 3 RC))).get? b=s.heap.get? b:=fun b hb=>S3 _ _ (QT hb)
 have noRec:∀b o,s.heap.get? b=some o->(∀vs,o.data≠.fields vs)->b≠T:=fun b o hb hnf q=>by rw[q,hT]at hb;injection hb with hb;subst hb;exact hnf ts hdT
 refine oR hfr (hl.of_keeps fun b o hb hnf=>⟨o,(other b (noRec b o hb hnf)).trans hb,rfl⟩) hf ((other e (QT hTe)).trans he) (fun b o hbo=>(other b fun q=>by rw[q,hnT]at hbo;cases hbo).trans (hkb b o hbo)) hdn hd (TR.mp h1).1 fun h' x=>?_
 obtain⟨x1,x2,T',x3,x4⟩:=x
 exact h h' (fun b o b1 b2 b3 hb=>x1 b o b1 b3 ((other b b2).trans hb)) (fun b o b1 b2 hb=>x2 b o b1 ((other b b2).trans hb)) ⟨T',Qt (Ui (XB ..).symm) x3,x4⟩
section
variable {X:Cx}{pins:List (Qh×Qo)}{σ:St}{H:Hp}{s:Qk}{h':Qq}
theorem Inv.left0{ch:List Qh}(I:Inv X pins σ H s)(hch:∀b∈ch,rj X pins H b)(k1:∀b o,b∉ch->b∉AS X.stack->s.heap.get? b=some o->h'.get? b=some o)(k2:∀b o,b∉ch->s.heap.get? b=some o->∃sl,h'.get? b=some {o with slots:=sl}):Inv X pins σ H {s with heap:=h'}:=by
 have nst:∀b,b≠X.env.locals->b∉X.fs->b∉AS X.stack:=fun b h1 h2 z=>(QI.mp (I.stkSub b z)).elim h1 h2
 refine I.step (g':=s.gens) (d':=s.drawn) (t':=s.toks) (ch:=ch) (fun b hb=>?_) (fun b o h1 h2 hc e _=>k1 b o hc (nst b h1 h2) e) (fun b o _ _ hc e _=>k2 b o hc e) (fun _ _ _ _ n=>n) (fun b o hc e=>?_) (fun _ _ e=>e) (fun _ _ _ e=>e) (fun b ps e=>⟨#[],by rw[e];simp⟩) (fun m hm=>?_) (fun b u e=>?_) I.bare
 ·obtain⟨_,f1,_,f3,f4,f5⟩:=hch b hb
  exact⟨f3,f1,f4,f5⟩
 ·obtain⟨sl,q⟩:=k2 b o hc e
  exact⟨_,q⟩
 ·obtain⟨o,es,ep,ho,r⟩:=hm
  obtain⟨sl,q⟩:=k2 _ o (fun z=>(hch _ z).2.1 rfl) ho
  exact⟨_,es,ep,q,r⟩
 ·have tr:∀c u,H c=some u->c∉ch/\c∉AS X.stack:=fun c u hc=>⟨(fun z=>by rw[(hch c z).1]at hc;cases hc),(fun z=>by rw[I.stkFree c z]at hc;cases hc)⟩
  refine(I.hok b u e).stay (fun c v hc q=>?_) (fun _ q=>q) fun _ _ q=>q
  rcases hc with z|z
  ·subst z
   obtain⟨a1,a2⟩:=tr c u e
   exact k1 c v a1 a2 q
  ·obtain⟨a1,a2⟩:=tr c _ z
   exact k1 c v a1 a2 q
end
def Im(X:Cx)(pins:List (Qh×Qo))(H:Hp)(b:Qh):Prop:=
 H b=none/\b≠X.env.locals/\b∉X.fs/\X.s₀.heap.get? b=none/\(∀x c,X.env.cells.lookup x=some c->c≠b)/\∀p∈X.pn++pins,p.1≠b
section
variable {X:Cx}{pins:List (Qh×Qo)}{σ:St}{H H':Hp}{s:Qk}{ch:List Qh}
abbrev Cx.wide(X:Cx)(ch:List Qh):Cx:={X with ex:=X.ex++ch}
theorem Inv.wide(I:Inv X pins σ H s)(hch:∀b∈ch,Im X pins H b):Inv (X.wide ch) pins σ H s:=
 ⟨⟨I.ok.mod,I.ok.kind,I.ok.glob,I.ok.blt,I.ok.above,I.ok.inj,I.ok.has,I.ok.cab,I.ok.hd,I.ok.frames,I.ok.stk,(fun b hb=>(Q7.mp hb).elim (I.ok.exf b) fun z=>⟨(hch b z).2.1,fun x c e=>(hch b z).2.2.2.2.1 x c e⟩),I.ok.bs,I.ok.bsz,
  (fun b o e hb=>(Q7.mp hb).elim (I.ok.noex b o e) fun z=>by have q:=(I.ok.bs b o e).1;rw[(hch b z).2.2.2.1]at q;cases q),(fun b hb=>(Q7.mp hb).elim (I.ok.exfs b) fun z=>(hch b z).2.2.1),I.ok.funs,I.ok.frf⟩,I.os,I.bare,I.base.mono (fun _ z=>z) (fun _ z=>Q7.mpr (.inl z)),I.loc,I.cell,I.free,I.freeC,I.pin,I.hok,I.len⟩
theorem Inv.shut(ok:X.Ok)(hch:∀b∈ch,X.s₀.heap.get? b=none)(I:Inv (X.wide ch) pins σ H s):Inv X pins σ H s:=by
 have nx:∀b o,X.s₀.heap.get? b=some o->b∉X.ex->b∉X.ex++ch:=fun b o e hx z=>(Q7.mp z).elim hx fun z=>by rw[hch b z]at e;cases e
 exact⟨ok,I.os,I.bare,⟨fun b o e n hb hx=>I.base.keep b o e n hb (nx b o e hx),fun b o e n hb hx=>I.base.slot b o e n hb (nx b o e hx),fun b o e n hx=>I.base.free b o e n (nx b o e hx),fun b o e hx=>I.base.there b o e (nx b o e hx),I.base.tups,I.base.frzs,I.base.tbls⟩,I.loc,I.cell,I.free,I.freeC,I.pin,I.hok,I.len⟩
theorem Inv.fpO{b:Qh}(I:Inv X pins σ H s)(hb:s.heap.get? b=none)(hx:b∉X.ex)(hn:H' b=none):Im X pins H' b:=by
 refine⟨hn,fun z=>?_,fun z=>?_,?_,fun x c e z=>?_,fun p hp z=>?_⟩
 ·obtain⟨m,⟨o,_,_,ho,_⟩,_⟩:=I.loc
  rw[z,ho]at hb;cases hb
 ·obtain⟨_,o,ho,_⟩:=I.ok.funs.mem z
  cases h0:X.s₀.heap.get? b with
  |none=>rw[ho]at h0;cases h0
  |some o'=>
   obtain⟨o2,q⟩:=I.base.there b o' h0 hx
   rw[q]at hb;cases hb
 ·cases h0:X.s₀.heap.get? b with
  |none=>rfl
  |some o'=>
   obtain⟨o2,q⟩:=I.base.there b o' h0 hx
   rw[q]at hb;cases hb
 ·obtain⟨v,o,ho,_⟩:=I.cell x c e
  rw[z,hb]at ho;cases ho
 ·have q:=(I.pin p hp).1
  rw[z,hb]at q;cases q
theorem Im.ok{b:Qh}(h:Im X pins H b)(hb:b∈ch):rj (X.wide ch) pins H b:=⟨h.1,h.2.1,h.2.2.1,.inl (Q7.mpr (.inr hb)),h.2.2.2.2.1,h.2.2.2.2.2⟩
theorem Inv.left{h':Qq}(I:Inv X pins σ H s)(hch:∀b∈ch,Im X pins H b)(k1:∀b o,b∉ch->b∉AS X.stack->s.heap.get? b=some o->h'.get? b=some o)(k2:∀b o,b∉ch->s.heap.get? b=some o->∃sl,h'.get? b=some {o with slots:=sl}):Inv X pins σ H {s with heap:=h'}:=
 Inv.shut I.ok (fun b hb=>(hch b hb).2.2.2.1) (Inv.left0 (X:=X.wide ch) (I.wide hch) (fun b hb=>(hch b hb).ok hb) k1 k2)
end
noncomputable def eQ(P:Qy)(w:Qv)(base:Qq):GU:=fun outer H s E e s'=>∃a T cls H',e=.ref a/\s'.os=s.os/\Su s'.gens/\Un (AS outer) [] H H' s.heap s'.heap/\pB P w H' s'.heap/\H' a=none/\H' T=none/\Nj base s'.heap a T cls/\s.heap.get? a=none/\s.heap.get? T=none/\E cls none H'
section
variable {P:Qy}{w:Qv}{K:Qj}{mg:Qg->Option Qi}{base:Qq}{N:List Qg}{qual:Qg}{scope:Rh}{f:Qh}{cd:Qi}{A:QF}{outer:List QP}{s0 s:Qk}{H0 H:Hp}{E:XK}{pins:List (Qh×Qo)}{σ:St}
theorem vD{X:Cx}(ok:X.Ok)(h:X.stack=X.env::X.outer):X.env.frame=some X.env.locals:=by
 rcases ok.stk with e|⟨_,e⟩
 ·rw[h]at e
  have:=congrArg U9 e
  simp at this
 ·exact e
theorem leave_new{e:Qh}{oe:Qo}{vs:Array Qi}(I:Inv (cJ (eQ P w base) P w K mg base N qual scope f cd A outer s0 H0 E) pins σ H s)(he:s.heap.get? e=some oe)(hn:H e=none)(hlo:s0.heap.get? e=none)(hfp:Im (cJ (eQ P w base) P w K mg base N qual scope f cd A outer s0 H0 E) pins H e)(hdn:oe.dict=none)(hd:oe.data=.fields vs)(h1:vs[1]?=some .none)(q:E oe.cls none H):
  (cJ (eQ P w base) P w K mg base N qual scope f cd A outer s0 H0 E).xe (.ref e) s:=by
 have hf:=vD I.ok rfl
 refine Eb (base:=base) (env:=Rt qual scope s0.heap.objs.size f cd) (outer:=outer) I.ok.frames I.stack hf he I.bk hdn hd h1 fun h' x=>?_
 obtain⟨k1,k2,T,hT,tr⟩:=x
 have J:=I.left (ch:=[e]) (h':=h') (fun b hb=>by rw[Q8.mp hb];exact hfp) (fun b o hb hs hq=>k1 b o (fun z=>hb (by simp[z])) hs hq) (fun b o hb hq=>k2 b o (fun z=>hb (by simp[z])) hq)
 exact⟨e,T,oe.cls,H,rfl,J.os,J.bare,J.base,J.hok,hn,I.hok.fresh hT,tr,hlo,Uo (Qt I.sz hT),q⟩
theorem Dd:ml (eQ P w base) (cJ (eQ P w base) P w K mg base N qual scope f cd A outer s0 H0 E) E:=by
 intro pins σ H s e s' I hx
 obtain⟨a,T,cls,H',rfl,os,bare,un,hok,na,nT,⟨⟨oe,vs,oT,ts,t1,t2,tn,t3,t4,t5,t6,t7⟩,t8,t9⟩,la,lT,q⟩:=hx
 have J:Inv (cJ (eQ P w base) P w K mg base N qual scope f cd A outer s0 H0 E) pins σ H' s':=by
  obtain⟨hh,g,d,t,os'⟩:=s'
  obtain rfl:os'=s.os:=os
  exact I.call (h':=hh) (g':=g) (d':=d) (t':=t) (ch:=[]) un hok bare (fun b z=>absurd z ⋯)
 have hf:=vD J.ok rfl
 refine ED (base:=base) (env:=Rt qual scope s0.heap.objs.size f cd) (outer:=outer) J.ok.frames J.stack hf t1 t2 tn t3 t4 t8 t9 t5 t6 t7 J.bk fun h' k1 k2 ⟨T',hT',tr⟩=>?_
 have fp:∀b,s.heap.get? b=none->H' b=none->Im (cJ (eQ P w base) P w K mg base N qual scope f cd A outer s0 H0 E) pins H' b:=fun b hb hn=>I.fpO hb (by simp[cJ]) hn
 have J2:=J.left (ch:=[a,T]) (h':=h') (fun b hb=>by
   have hb':b=a\/b=T:=by simpa using hb
   rcases hb' with z|z
   ·rw[z];exact fp a la na
   ·rw[z];exact fp T lT nT) (fun b o hb hs hq=>k1 b o (fun z=>hb (by simp[z])) (fun z=>hb (by simp[z])) hs hq) (fun b o hb hq=>k2 b o (fun z=>hb (by simp[z])) (fun z=>hb (by simp[z])) hq)
 exact⟨a,T',cls,H',rfl,J2.os,J2.bare,J2.base,J2.hok,na,J.hok.fresh hT',tr,(fp a la na).2.2.2.1,Uo (Qt J.sz hT'),q⟩
end
section
variable {M:Model}{A:QF}{E:Qi->Qk->Prop}{s:Qk}
theorem FN{base:Qq}{env:QP}{outer:List QP}{L e T:Qh}{cls:Qi}{Q:Unit->Qk->Prop}(hfr:A.frames=some (env::outer))(hl:s.heap.FunFrames base (env::outer))(hf:env.frame=some L)(ht:Nj base s.heap e T cls)(hkb:base.StaysIn s.heap)
  (h:∀h',(∀b o,b≠e->b≠T->b∉AS (env::outer)->s.heap.get? b=some o->h'.get? b=some o)->(∀b o,b≠e->b≠T->s.heap.get? b=some o->∃sl,h'.get? b=some {o with slots:=sl})->(∃T',s.heap.objs.size<=T'/\Nj base h' e T' cls)->Q () {s with heap:=h'}):
  Ql M A (noteFrame (.ref e) env) (fun _ s₂=>Ql M A (setFlight (.ref e) none) Q E s₂) E s:=by
 obtain⟨⟨oe,vs,oT,ts,he,hcls,hdn,hd,h1,hT,hdT,h3⟩,hnT,hTe⟩:=ht
 subst hcls
 unfold noteFrame ;simp only[hf] ;refine Qm (Ro he hd h1 ?_)
 rw[if_pos (show(QL T != RC)=true from by simp)] ;refine Qm (Ro hT hdT h3 ?_)
 rw[if_neg (show ¬((RC==Rg L)=true)from by simp[Rg])] ;refine Qm (wpAny_setField hT hdT (TR.mp h3).1 ?_)
 have other:∀b,b≠T->(s.heap.update T (Te (·.setIfInBounds 3 RC))).get? b=s.heap.get? b:=fun b hb=>S3 _ _ (QT hb)
 have noRec:∀b o,s.heap.get? b=some o->(∀vs,o.data≠.fields vs)->b≠T:=fun b o hb hnf q=>by rw[q,hT]at hb;injection hb with hb;subst hb;exact hnf ts hdT
 refine oR hfr (hl.of_keeps fun b o hb hnf=>⟨o,(other b (noRec b o hb hnf)).trans hb,rfl⟩) hf ((other e (QT hTe)).trans he) (fun b o hbo=>(other b fun q=>by rw[q,hnT]at hbo;cases hbo).trans (hkb b o hbo)) hdn hd (TR.mp h1).1 fun h' x=>?_
 obtain⟨x1,x2,T',x3,x4⟩:=x
 exact h h' (fun b o b1 b2 b3 hb=>x1 b o b1 b3 ((other b b2).trans hb)) (fun b o b1 b2 hb=>x2 b o b1 ((other b b2).trans hb)) ⟨T',Qt (Ui (XB ..).symm) x3,x4⟩
theorem xu{base:Qq}{e T:Qh}{cls:Qi}{Q:Unit->Qk->Prop}(ht:Nj base s.heap e T cls)(h:∀h',(∀b o,b≠T->s.heap.get? b=some o->h'.get? b=some o)->Q () {s with heap:=h'}):Ql M A (setFlight (.ref e) none) Q E s:=by
 obtain⟨⟨oe,vs,oT,ts,he,hcls,hdn,hd,h1,hT,hdT,h3⟩,hnT,hTe⟩:=ht
 unfold setFlight ;refine Qm (Ro he hd h1 ?_) ;rw[if_pos (show(QL T != RC)=true from by simp)]
 refine wpAny_setField hT hdT (TR.mp h3).1 (h _ fun b o hb q=>(S3 _ _ (QT hb)).trans q)
end
abbrev Cx.marked(X:Cx)(v:Qi):Cx:={X with A:=X.A.mark (some v),calm:=false,xe:=fun _ _=>False}
section
variable {X:Cx}{pins:List (Qh×Qo)}{σ:St}{H:Hp}{s:Qk}
theorem Inv.marked(I:Inv X pins σ H s)(v:Qi):Inv (X.marked v) pins σ H s:=
 ⟨⟨I.ok.mod,I.ok.kind,I.ok.glob,I.ok.blt,I.ok.above,I.ok.inj,I.ok.has,I.ok.cab,(fun h=>by cases h),I.ok.frames,I.ok.stk,I.ok.exf,I.ok.bs,I.ok.bsz,I.ok.noex,I.ok.exfs,I.ok.funs,I.ok.frf⟩,I.os,I.bare,I.base,I.loc,I.cell,I.free,I.freeC,I.pin,I.hok,I.len⟩
theorem Inv.unmarked{v:Qi}(ok:X.Ok)(I:Inv (X.marked v) pins σ H s):Inv X pins σ H s:=⟨ok,I.os,I.bare,I.base,I.loc,I.cell,I.free,I.freeC,I.pin,I.hok,I.len⟩
theorem Inv.track0{a:Qh}{o:HO}(I:Inv X pins σ H s)(hf:rj X pins H a)(new:de X.prog X.w (upd H a o) s.heap a o):Inv X pins σ (upd H a o) s:=by
 have ne:∀b u,H b=some u->b≠a:=fun b u e z=>by rw[z,hf.1]at e;cases e
 refine I.step (h':=s.heap) (g':=s.gens) (d':=s.drawn) (t':=s.toks) (ch:=[a]) (fun b hb=>?_) (fun b ob _ _ _ e _=>e) (fun b ob _ _ _ e _=>⟨ob.slots,e⟩) (fun b ob hc e n=>?_) (fun b ob _ e=>⟨ob,e⟩) (fun b xs e=>?_) (fun b ob u e=>?_) (fun b ps e=>⟨#[],?_⟩) (fun m hm=>hm) (fun b u e=>?_) I.bare
 ·rw[Q8.mp hb]
  obtain⟨_,f1,_,f3,f4,f5⟩:=hf
  exact⟨f3,f1,f4,f5⟩
 ·rw[ax fun z=>hc (by simp[z])];exact n
 ·rw[ax (ne _ _ e)];exact e
 ·rw[ax (ne _ _ e)];exact e
 ·rw[ax (ne _ _ e),e];simp
 ·by_cases hb:b=a
  ·subst hb
   rw[ay]at e
   cases e
   exact new
  ·rw[ax hb]at e
   refine(I.hok b u e).stay (fun c v _ q=>q) (fun c q=>?_) fun c ys q=>?_
   ·rw[ax (ne _ _ q)];exact q
   ·rw[ax (ne _ _ q)];exact q
theorem Inv.track{a:Qh}{o:HO}(I:Inv X pins σ H s)(hf:Im X pins H a)(new:de X.prog X.w (upd H a o) s.heap a o):Inv X pins σ (upd H a o) s:=
 Inv.shut (ch:=[a]) I.ok (fun b hb=>by rw[Q8.mp hb];exact hf.2.2.2.1) (Inv.track0 (X:=X.wide [a]) (I.wide (fun b hb=>by rw[Q8.mp hb];exact hf)) (hf.ok ⋯) new)
theorem Inv.forget{i:Nat}{n:Qg}{m:Qg->Option Qi}{v:Option Qi}{h':Qq}{t':Nat}(I:Inv X pins σ H s)(hN:X.N.Nodup)(hi:X.N[i]?=some n)(hm:s.heap.Ns X.env.locals m)(hl:∀(j:Nat)(x:Qg)(w:V),X.N[j]?=some x->σ[j]?=some (some w)->M5 X.env.scope x->∃u,RelV w u/\Look X.env s.heap m x u)
  (hn:h'.Ns X.env.locals (fun x=>if x=n then v else m x)) (hs:Sh X.env.locals s.heap h'):Inv X pins (σ.set i none) H {s with heap:=h',toks:=t'}:=by
 have neL:∀b o,X.s₀.heap.get? b=some o->b≠X.env.locals:=fun b o e=>QV (Q4 (QJ e) I.ok.above)
 have get:∀b,b≠X.env.locals->h'.get? b=s.heap.get? b:=fun b hb=>hs.2 b hb
 have cellK:∀x c,X.env.cells.lookup x=some c->∀w,s.heap.IsCell c w->h'.IsCell c w:=fun x c e w ⟨o,ho,hd⟩=>⟨o,(get c (I.cne x c e)).trans ho,hd⟩
 refine⟨I.ok,I.os,I.bare,⟨fun b o e n hb hx=>?_,fun b o e n hb hx=>?_,I.base.free,fun b o e hx=>?_,I.base.tups,I.base.frzs,I.base.tbls⟩,⟨_,hn,fun j x w e1 e2 e3=>?_⟩,fun x c e=>?_,I.free,I.freeC,fun p hp=>?_,fun b u e=>?_,by rw[List.length_set];exact I.len⟩
 ·exact(get b (neL b o e)).trans (I.base.keep b o e n hb hx)
 ·obtain⟨sl,q⟩:=I.base.slot b o e n hb hx
  exact⟨sl,(get b (neL b o e)).trans q⟩
 ·obtain⟨o',q⟩:=I.base.there b o e hx
  exact⟨o',(get b (neL b o e)).trans q⟩
 ·have hji:j≠i:=fun z=>by
   subst z
   rw[Wk (by rw[I.len];exact(Q0.mp hi).1)]at e2
   cases e2
  rw[VV (QT hji)]at e2
  have hxn:x≠n:=fun z=>hji (wI hN (z▸e1) hi)
  obtain⟨u,r,l⟩:=hl j x w e1 e2 e3
  exists u,r
  rcases l with⟨l1,l2⟩|⟨k,c,e,z⟩
  ·exact .inl ⟨l1,by show(if x=n then v else m x)=some u;rw[if_neg hxn];exact l2⟩
  ·exact .inr ⟨k,c,e,cellK x c e _ z⟩
 ·obtain⟨w,z⟩:=I.cell x c e
  exact⟨w,cellK x c e w z⟩
 ·obtain⟨e,n,ne,nf,d⟩:=I.pin p hp
  exact⟨(get p.1 ne).trans e,n,ne,nf,d⟩
 ·have tr:∀c u,H c=some u->c≠X.env.locals:=fun c u hc z=>by rw[z,I.free]at hc;cases hc
  refine(I.hok b u e).stay (fun c w hc q=>?_) (fun _ q=>q) fun _ _ q=>q
  rcases hc with z|z
  ·subst z;exact(get c (tr c u e)).trans q
  ·exact(get c (tr c _ z)).trans q
end
def XP(X:Cx)(pins:List (Qh×Qo))(σ:St)(E:XK)(e:Qi)(s':Qk):Prop:=
 ∃a T cls H',e=.ref a/\Inv X pins σ H' s'/\Im X pins H' a/\Im X pins H' T/\Nj X.base s'.heap a T cls/\E cls none H'
def PX(X:Cx)(e:Qp)(E:XK)(t:TE):Prop:=
 ∀(pins:List (Qh×Qo))(s:Qk)(σ:St)(H:Hp)(Q:VK),Inv X pins σ H s->t σ H Q->Ql (model X.prog X.w) X.A (eval e X.env) (EP X pins σ Q) (XP X pins σ E) s
section
variable {X:Cx}{k:Nat}{f:Qh}{fd:R1}{ps:List Qg}{sp:Sp}{dvs:List V}{ds:List Qi}{E:XK}{x:Qg}{p pos:QH}{e:Qp}{es:List Qp}{t:TA}
theorem Gb{pins:List (Qh×Qo)}{σ:St}{H:Hp}{s:Qk}{Q:VK}{us:List Qi}{vs:List V}(F:nj X.prog X.w X.K X.mg X.base (eQ X.prog X.w X.base) k f fd ps sp)(hr:dv k X.A)(hb:Binds X.K fd ps ds)(hd:cu dvs ds)(hx:∀b,b∉X.ex)
  (I:Inv X pins σ H s) (r:cu vs us) (h:sp (vs++dvs) H Q E):Ql (model X.prog X.w) X.A (call (.ref f) us) (EP X pins σ Q) (XP X pins σ E) s:=by
 have r2:cu (vs++dvs) (us++ds):=r.append hd
 have hl:(us++ds).length=ps.length:=by rw[<-r2.length];exact F.len _ _ _ _ h
 refine wpAny_call (codeAny_mono (F.run X.A X.stack s H ⟨us,[]⟩ (us++ds) (vs++dvs) Q E hr I.env0 (hb s us I.kIn hl) r2 h) fun r s' hq=>?_)
 cases r with
 |error e=>
  obtain⟨a,T,cls,H',rfl,os,bare,un,hok,na,nT,tr,la,lT,q⟩:=hq
  exact⟨a,T,cls,H',rfl,I.call' (ch:=[]) os un hok bare (fun b z=>absurd z ⋯),I.fpO la (hx a) na,I.fpO lT (hx T) nT,tr,q⟩
 |ok fl=>
  cases fl with
  |ret u=>exact I.after hq
  |next=>exact RG hq
  |brk=>exact RG hq
  |cont=>exact RG hq
theorem KP(F:nj X.prog X.w X.K X.mg X.base (eQ X.prog X.w X.base) k f fd ps sp)(hr:dv k X.A)(hg:Gl X x)(hm:X.mg x=some (.ref f))(hk:R9 X.K (.ref f)=true)(hb:Binds X.K fd ps ds)(hd:cu dvs ds)(hx:∀b,b∉X.ex)
  (ha:PA X.nox (e::es) t) (hdb:(x==("__debug__":Qg))=false:=by decide) (he:Qx (e::es) X.env=(false,eval e X.env)::Qx es X.env:=by rfl) (hpl:(Q1 pos (Qx es X.env)).any (·.1)=false:=by rfl):
  PX X (.Call (.Name x p) (e::es) [] pos) E (aO sp dvs E t):=by
 intro pins s σ H Q I h
 refine UC (lV I hg hm ?_ hdb)
 refine U3 (h₀:=X.base) I.ok.mod.kin hk (Rl (ha pos pins s σ H _ (I.wish _) h) (fun us s1 ⟨vs,H1,I1,r,q⟩=>⟨I1.kIn,?_⟩) fun _ _ z=>z.elim) he hpl
 exact Gb F hr hb hd hx I1.unwish r q
end
noncomputable def JE(K:Qj)(C:Qi)(i:Nat)(t:XK->TE)(tb:TS):TS:=fun D σ H=>
 t (fun cls _ H'=>Sa K cls C=some true/\∀a oe,H' a=none->oe.cls=cls->UR oe=true->oe.dict=none->
  tb {nx:=fun σ' H''=>D.nx (σ'.set i none) H'',rt:=D.rt,bk:=fun σ' H''=>D.bk (σ'.set i none) H'',ct:=fun σ' H''=>D.ct (σ'.set i none) H''} (σ.set i (some (.ref a))) (upd H' a (.frz oe (.own a)))) σ H fun _ H'=>D.nx σ H'
section
variable {X:Cx}{x n:Qg}{C:Qi}{i:Nat}{t:XK->TE}{tb:TS}{e:Qp}{b₀:Qs}{suite:List Qs}{pos epos hpos np:QH}
theorem JH(hx:∀b,b∉X.ex)(hst:X.stack=X.env::X.outer)(hN:X.N.Nodup)(hi:X.N[i]?=some n)(hn:X.env.scope.names.lookup n=some .local)(hl:X.env.kindOf n=some .local)(hg:Gl X x)(hm:X.mg x=some C)
  (he:∀E,PX X e E (t E)) (hb:∀v,xc (X.marked v) (b₀::suite) tb) (hdb:(x==("__debug__":Qg))=false:=by decide) (hs:swapsWith e none epos.line X.env=pure false:=by rfl):
  PS X (.Try [.Expr e epos] [.ExceptHandler (some (.Name x np)) (some n) (b₀::suite) hpos] [] [] pos) (JE X.K C i t tb):=by
 intro pins s σ H D I h
 refine wpAny_Try_except (wpAny_execs_cons ?_)
 refine wpAny_Expr_any (Rl (he _ pins s σ H _ I h) (fun v s1 ⟨y,H1,I1,r1,q1⟩=>?_) ?_) I.quiet hs
 ·exact SS (SS ⟨σ,H1,I1,q1⟩)
 ·intro ev s1 hxp
  obtain⟨a,T,cls,H1,rfl,J,fa,fT,tr,q⟩:=hxp
  obtain⟨qc,qb⟩:=q
  have hf:X.env.frame=some X.env.locals:=vD J.ok hst
  refine FN (base:=X.base) (outer:=X.outer) (hst▸J.ok.frames) (hst▸J.stack) hf tr J.bk fun h2 k1 k2 ⟨T2,hT2,tr2⟩=>?_
  have J2:Inv X pins σ H1 {s1 with heap:=h2}:=J.left (ch:=[a,T]) (fun b hb=>by
   have hb':b=a\/b=T:=by simpa using hb
   rcases hb' with z|z
   ·rw[z];exact fa
   ·rw[z];exact fT) (fun b o hb hs hq=>k1 b o (fun z=>hb (by simp[z])) (fun z=>hb (by simp[z])) (hst▸hs) hq) (fun b o hb hq=>k2 b o (fun z=>hb (by simp[z])) (fun z=>hb (by simp[z])) hq)
  have fT2:Im X pins H1 T2:=J.fpO (Uo hT2) (hx T2) (J.hok.fresh hT2)
  have tr3:=tr2
  obtain⟨⟨oe,vs,oT,ts,t1,t2,tn,t3,t4,t5,t6,t7⟩,t8,t9⟩:=tr3
  subst t2
  have LT:W4 (model X.prog X.w) h2 (typeOf (.ref a)) oe.cls:=(WL t1).andThen .now
  refine wpAny_handleBy_cons (codeAny_handlers_test ?_) (by intro z;cases z)
  refine lV (X:=X.marked (.ref a)) (J2.marked (.ref a)) hg hm ?_ hdb
  refine(XW J2.kIn LT qc).here ?_
  refine codeAny_handlers_suite_as ?_
  refine xu tr2 fun h3 k3=>?_
  have J3:=Inv.left (s:={s1 with heap:=h2}) (h':=h3) (ch:=[T2]) J2 (fun b hb=>by rw[Q8.mp hb];exact fT2) (fun b o hb _ hq=>k3 b o (fun z=>hb (by simp[z])) hq) (fun b o hb hq=>⟨o.slots,k3 b o (fun z=>hb (by simp[z])) hq⟩)
  have h3a:h3.get? a=some oe:=k3 a oe (QT t9) t1
  have J4:=J3.track (a:=a) (o:=.frz oe (.own a)) fa ⟨h3a,oe,h3a⟩
  refine kG (X:=X.marked (.ref a)) (v:=.ref a) (J4.marked (.ref a)) hN hi (.inl hn) rfl (fun s5 I5=>?_) (.inr hn)
  refine Rl (hb (.ref a) pins s5 _ _ _ I5 (qb a oe fa.1 rfl (by unfold UR;rw[t3]) tn)) (fun fl s6 hq=>?_) fun _ _ z=>z.elim
  have hp:(X.env.scope.kind==.class || (X.env.scope.kind==.module&&X.env.locals != X.env.globals))=false:=by rw[J.ok.kind];rfl
  have go:∀{σ6 H6 R},Inv (X.marked (.ref a)) pins σ6 H6 s6->(∀s7,Inv X pins (σ6.set i none) H6 s7->SP X pins D fl s7)->(R=fun (_:Unit) s7=>SP X pins D fl s7)->Ql (model X.prog X.w) X.A (do bindName X.env n .none;unbindBehindTheSuite X.env n hpos) R X.xe s6:=fun {σ6 H6 R} I6 w e=>by
   subst e
   have I7:=Inv.unmarked J.ok I6
   obtain⟨m,hn6,hl6⟩:=id I7.loc
   exact wpAny_nameGoes_keeps hl hn6 hp fun h7 v7 hn7 hs7=>w _ (I7.forget hN hi hn6 hl6 hn7 hs7)
  cases fl with
  |next=>
   obtain⟨σ6,H6,I6,q6⟩:=hq
   exact go I6 (fun s7 I7=>⟨_,_,I7,q6⟩) rfl
  |brk=>
   obtain⟨σ6,H6,I6,q6⟩:=hq
   exact go I6 (fun s7 I7=>⟨_,_,I7,q6⟩) rfl
  |cont=>
   obtain⟨σ6,H6,I6,q6⟩:=hq
   exact go I6 (fun s7 I7=>⟨_,_,I7,q6⟩) rfl
  |ret u=>
   obtain⟨v6,σ6,H6,I6,r6,q6⟩:=hq
   exact go I6 (fun s7 I7=>⟨v6,_,_,I7,r6,q6⟩) rfl
end
section
open PySem.W
structure nP(K:Frag)(C:Qh):Prop where
 ga:findIn K (.ref C) "__getattribute__"=some (some (.builtin "BaseException.__getattribute__"))
 gc:findIn K (.ref C) "__class__"=some (some (.builtin "object.__class__"))
 gn:findIn K (.ref C) "__getattr__"=some none
 ob:mroIn K C (.type "object")=some true
 be:mroIn K C (.type "BaseException")=some true
theorem sk:Slot "ValueError" "__getattribute__" "BaseException.__getattribute__":=F.attr_ValueError.ga
section
variable {prog:Qy}{w:Qv}{A:QF}{E:Qi->Qk->Prop}{h:Qq}{g:Array GenState}{d:Drawn}{t:Nat}{os:OsState}{a C:Qh}{o:Qo}{K:Frag}
theorem vt{M:Model}{nameV:Qi}{Q:Unit->Qk->Prop}(X:K.In h)(I:Tw h a o C none)(Z:nP K C)(hq:Q () ⟨h,g,d,t,os⟩):Ql M A (checkBuiltinCall "BaseException.__getattribute__" ⟨[.ref a,nameV],[]⟩) Q E ⟨h,g,d,t,os⟩:=by
 have hk:builtinKind "BaseException.__getattribute__"=some .slot:=nofun
 have hsplit:splitId "BaseException.__getattribute__"=some ("BaseException","__getattribute__"):=nofun
 have L4:=looks_mroIn (M:=M) X Z.be
 have ha:=F.args_bexc_ga (.ref a) nameV
 have hx:=I.at_
 have hc:=I.cls
 simp only[checkBuiltinCall,hk,hsplit]
 refine Qm ?_
 ·unfold isInstance
  repeat (first|(with_reducible refine wpAny_loadPart_at hx ?_;rw[hc])|(with_reducible refine L4.at ?_)|wp_step)
  exact hq
theorem uU{tk:Tok}{Q:Fin->Qk->Prop}(X:K.In h)(I:Tw h a o C none)(Z:nP K C)(hq:Q (.done (.ret (.ref C))) ⟨h,g,d,t,os⟩):
  Ql (model prog w) A (R0.«object.__getattribute__» ⟨[.ref a,.str "__class__" tk],[]⟩) Q E ⟨h,g,d,t,os⟩:=by
 have hT5:(⟨h,g,d,t,os⟩:Qk).TypeIs (.builtin "object.__class__") "getset_descriptor":=Xr
 have f5:=Xr
 have f6:=F.slot_gs_get.lookup
 have f7:=F.slot_gs_set.lookup
 have hx:=I.at_
 have hc:=I.cls
 have L2:=looks_findIn (M:=model prog w) X Z.gc
 repeat (any_goals (first|assumption|(with_reducible refine wpAny_loadPart_at hx ?_;rw[hc])|(with_reducible refine L2.at ?_)|wp_step))
 refine class_get (s:=⟨h,g,d,t,os⟩) X I Z.ob ?_
 repeat (any_goals (first|assumption|wp_step))
theorem Bc{tk:Tok}{Q:Qi->Qk->Prop}(X:K.In h)(I:Tw h a o C none)(Z:nP K C)(hq:Q (.ref C) ⟨h,g,d,t,os⟩):
  Ql (model prog w) A (getAttrBy (.ref a) (.str "__class__" tk) false) Q E ⟨h,g,d,t,os⟩:=by
 have f3:=sk.bind (.ref a)
 have hx2:(TF "BaseException.__getattribute__"==TF "object.__getattribute__")=false:=nofun
 have hx1:(onTheHeap (QL C)&&TF "BaseException.__getattribute__"==TF "object.__getattribute__")=false:=by rw[hx2];rfl
 have hx:=I.at_
 have hc:=I.cls
 have L1:=looks_findIn (M:=model prog w) X Z.ga
 have L3:=looks_findIn (M:=model prog w) X Z.gn
 repeat (any_goals (first|assumption|(with_reducible refine wpAny_loadPart_at hx ?_;rw[hc])|(with_reducible refine L1.at ?_)|(with_reducible refine L3.at ?_)|wp_step))
 refine codeAny_call_builtin sk.plain F.entry_bexc_ga (vt X I Z (uU X I Z ?_))
 repeat (any_goals (first|assumption|wp_step))
theorem vQ{Q:Option Qi->Qk->Prop}(X:K.In h)(I:Tw h a o C none)(Z:nP K C)(hq:Q (some (.ref C)) ⟨h,g,d,t+1,os⟩):Ql (model prog w) A (getAttr? (.ref a) "__class__") Q E ⟨h,g,d,t,os⟩:=by
 unfold getAttr? getAttrBy?
 repeat (any_goals (first|assumption|with_reducible apply Bc X I Z|wp_step))
theorem IT(hC:(clsIn K C).isSome=true)(Z:nP K C):KitX K (.ref a) (.ref C) (fun h=>Tw h a o C none) where
 ty:=fun _ _ _ I=>I.type
 it:=fun _ _ X _=>by
  obtain⟨cdD,hcD⟩:=Wo.mp hC
  unfold clsIn at hcD
  split at hcD
  ·rename_i c' d' cd' sl' ho
   intro A' Q' E' s' k q
   unfold isType loadHead
   exact Qm (wpAny_loadPart (k _ _ (X _ _ ho)) (QG q))
  ·cases hcD
 ne:=fun h tp dd its n sl X htp=>by
  obtain⟨cdD,hcD⟩:=Wo.mp hC
  refine Bool.eq_false_iff.mpr fun q=>?_
  have e:C=tp:=Xn (beq_iff_eq.mp q)
  subst e
  unfold clsIn at hcD
  split at hcD
  ·rename_i c' d' cd' sl' ho
   have z:=(X _ _ ho).symm.trans htp
   cases z
  ·cases hcD
 ca:=fun {_ _ _ _ _ s} X I k=>by obtain⟨h,g,d,t,os⟩:=s;exact vQ X I Z k
end
section
variable {X:Cx}{pins:List (Qh×Qo)}{σ:St}{H:Hp}{s:Qk}{A:QF}{E:Qi->Qk->Prop}{Q:Qi->Qk->Prop}{c:Qi}{b:Bool}
def ExcAt(H:Hp)(a C:Qh):Prop:=∃oe,H a=some (.frz oe (.own a))/\oe.cls=.ref C/\UR oe=true/\oe.dict=none
theorem ExcAt.inst{a C:Qh}(I:Inv X pins σ H s)(e:ExcAt H a C):∃oe,Tw s.heap a oe C none:=by
 obtain⟨oe,h1,h2,h3,h4⟩:=e
 have q:s.heap.get? a=some oe:=(I.hok a _ h1).1
 exact⟨oe,q,h2,h3,by rw[h4];trivial⟩
theorem D4{a C:Qh}(I:Inv X pins σ H s)(e:ExcAt H a C)(hC:(clsIn X.K C).isSome=true)(Z:nP X.K C)(k:kitOne X.K (.ref C) c=some b)(h:∀tk,Q (.bool b) {s with toks:=tk}):
  Ql (model X.prog X.w) A (call (.builtin "isinstance") [.ref a,c]) Q E s:=by
 obtain⟨oe,J⟩:=e.inst I
 exact kia_one (IT hC Z) I.kIn J k (fun z=>nomatch z) h
end
end
def fq(C:Qh)(E:XK)(t:TA):TS:=fun _ σ H=>t σ H fun vs H1=>vs.length<=Qr/\E (.ref C) none H1
section
variable {P:Qy}{w:Qv}{K:Qj}{mg:Qg->Option Qi}{base:Qq}{N:List Qg}{qual:Qg}{scope:Rh}{f C:Qh}{cd:Qi}{A:QF}{outer:List QP}{s0:Qk}{H0:Hp}{E:XK}{x:Qg}{np cpos pos:QH}{e:Qp}{es:List Qp}{t:TA}{B Bn newId nid initId inN:String}{bm bmN:List Qi}
theorem pB.lost{w:Qv}{P:Qy}{H:Hp}{h:Qq}(x:pB P w H h){b:Qh}(e:h.get? b=none):H b=none:=by
 cases q:H b with
 |none=>rfl
 |some o=>
  have ok:=x b o q
  have go:∀o,de P w H h b o->∃u,h.get? b=some u:=fun o=>by
   induction o with
   |lst xs=>rintro⟨_,_,_,_,e⟩;exact⟨_,e⟩
   |tup xs=>rintro⟨_,_,_,o,e,_⟩;exact⟨_,e⟩
   |dK kvs=>rintro⟨_,_,_,_,o,_,_,e,_⟩;exact⟨_,e⟩
   |dT kvs=>rintro⟨_,_,_,_,o,_,_,e,_⟩;exact⟨_,e⟩
   |set S n=>rintro⟨o,_,_,_,e,_⟩;exact⟨_,e⟩
   |ins C dx fs=>rintro⟨_,_,_,e,_⟩;exact⟨_,e⟩
   |own x=>exact id
   |xd fs=>rintro⟨_,⟨o,_,_,e',_⟩,_⟩;exact⟨_,e'⟩
   |met f x=>intro e;exact⟨_,e⟩
   |rng lo hi=>rintro⟨_,_,_,e⟩;exact⟨_,e⟩
   |frz o u ih=>rintro⟨e,_⟩;exact⟨_,e⟩
   |tbl ps=>intro e;exact⟨_,e⟩
   |ext φ=>rintro⟨_,e,_⟩;exact e
  obtain⟨u,q⟩:=go o ok
  rw[e]at q;cases q
theorem JO(O:OwnCls x C bm newId mg base)(Fn:ExcBaseFacts Bn newId inN bmN)(hBn:bm.contains (.type Bn)=true)(FB:ExcBaseFacts B nid initId bm)
  (hg:Gl (cJ (eQ P w base) P w K mg base N qual scope f cd A outer s0 H0 E) x) (hc:(cJ (eQ P w base) P w K mg base N qual scope f cd A outer s0 H0 E).calm=true)
  (ha:PA (cJ (eQ P w base) P w K mg base N qual scope f cd A outer s0 H0 E) (e::es) t) (hdb:(x==("__debug__":Qg))=false:=by decide)
  (he:Qx (e::es) (cJ (eQ P w base) P w K mg base N qual scope f cd A outer s0 H0 E).env=(false,eval e (cJ (eQ P w base) P w K mg base N qual scope f cd A outer s0 H0 E).env)::Qx es (cJ (eQ P w base) P w K mg base N qual scope f cd A outer s0 H0 E).env:=by rfl)
  (hpl:(Q1 cpos (Qx es (cJ (eQ P w base) P w K mg base N qual scope f cd A outer s0 H0 E).env)).any (·.1)=false:=by rfl):
  PS (cJ (eQ P w base) P w K mg base N qual scope f cd A outer s0 H0 E) (.Raise (some (.Call (.Name x np) (e::es) [] cpos)) none pos) (fq C E t):=by
 intro pins s σ H D I h
 obtain⟨tl,Nn,nm,q,bs,hdct,sn,sub,ab,col,dd,k0,k1,k2,k3,k5,mN,hC,hN,hni,T⟩:=O.obj
 refine wpAny_Raise_call_subU (C:=C) (nm:=nm) (q:=q) (N:=Nn) (bs:=bs) (bm:=tl) (hdct:=hdct) (sn:=sn) (sub:=sub) (ab:=ab) (col:=col) (dd:=dd) (k0:=k0) (k1:=k1) (k2:=k2) (k3:=k3) (k5:=k5)
  Fn hBn FB (mN:=mN) (T.hasType FB.hasBase) (I.ok.hd hc) (by rw[he];show(false || (Q1 cpos (Qx es _)).any (·.1))=false;rw[hpl];rfl) hni (lV I hg O.bound ⟨rfl,?_⟩ hdb)
 have ha':=ha cpos pins s σ H _ I h
 rw[he]at ha' ⊢
 refine VU (Rl ha' (fun us s2 ⟨vs,H1,I1,r,hz,q⟩=>⟨rfl,by rw[<-r.length];exact hz,I1.bk _ _ hC,hN.keeps I1.bk,T.keeps I1.bk,fun h' e' M=>?_⟩) fun _ _ y=>y)
 have J:Inv (cJ (eQ P w base) P w K mg base N qual scope f cd A outer s0 H0 E) pins σ H1 {s2 with heap:=h'}:=I1.kept (t':=s2.toks) M.keeps
 obtain⟨tt,m1,m2,m3⟩:=M.there
 have hn:H1 e'=none:=I1.hok.lost M.new
 have fp:=I1.fpO (H':=H1) M.new (by simp[cJ]) hn
 exact leave_new J m1 hn fp.2.2.2.1 fp rfl rfl rfl q
end
def M8:V->Qi
 |.ref a=>.ref a
 |.ty n=>.type n
 |_=>.none
def El:V->Bool
 |.ref _=>true
 |.ty _=>true
 |_=>false
abbrev Bg(K:Qj):List V->Hp->VK->Prop:=fun xs H Q=>∃a v C b,xs=[.ref a,v]/\El v=true/\ExcAt H a C/\(RN K C).isSome=true/\nP K C/\QD K (.ref C) (M8 v)=some b/\Q (.bl b) H
theorem JU{v:V}{u:Qi}(h:El v=true)(r:RelV v u):u=M8 v:=by
 cases v<;>first|exact r|cases h
section
variable {X:Cx}
theorem dA:d4 X (.builtin "isinstance") (Bg X.K):=by
 show d4 X (.builtin "isinstance") (fun xs H Q=>∃a v C b,xs=[.ref a,v]/\El v=true/\ExcAt H a C/\(RN X.K C).isSome=true/\nP X.K C/\QD X.K (.ref C) (M8 v)=some b/\Q (.bl b) H)
 intro pins s σ H xs us Q I r h
 obtain⟨a,v,C,b,rfl,hv,e,hC,Z,k,q⟩:=h
 obtain⟨u,w',rfl,rx,ry⟩:=vals2 r
 cases(show u=QL a from rx)
 cases JU hv ry
 exact D4 I e hC Z k fun tk=>⟨.bl b,H,I.tok tk,rfl,q⟩
def yE(t:TE):TE:=fun σ H Q=>t σ H fun x H1=>∃i:Int,x=.int i/\i.natAbs.log2<1920/\Q (.str (toString i:String)) H1
theorem qU{e:Qp}{te:TE}{pos:QH}(he:PE X e te):PE X (.FormattedValue e (-1) none pos) (yE te):=by
 intro pins s σ H Q I h
 refine wpAny_FormattedValue_plain (cX (he pins s σ H _ I h) fun v s1 ⟨x,H1,I1,r1,i,hx,hl,q⟩=>?_)
 subst hx
 obtain⟨tk,rfl⟩:=(show ∃t,v=So i t from r1)
 exact wpAny_formatField_int hl ⟨.str (toString i:String),H1,I1.tok _,⟨_,rfl⟩,q⟩
def zG:List TE->Qg->TE
 |[],acc=>fun _ H Q=>acc.length<=Qr/\Q (.str acc) H
 |t::ts,acc=>fun σ H Q=>t σ H fun x H1=>∃y,x=.str y/\(acc++y).length<=Qr/\zG ts (acc++y) σ H1 Q
inductive PJ(X:Cx):List Qp->List TE->Prop where
 |nil:PJ X [] []
 |cons {e:Qp}{es:List Qp}{t:TE}{ts:List TE}:PE X e t->PJ X es ts->PJ X (e::es) (t::ts)
theorem PJ.joins:∀{es:List Qp}{ts:List TE},PJ X es ts->∀{pins:List (Qh×Qo)}{s:Qk}{σ:St}{H:Hp}{Q:VK}{acc:Qg},Inv X pins σ H s->zG ts acc σ H Q->
  Joins (model X.prog X.w) X.A X.xe (evalEach es X.env) acc (fun out s1=>out.length<=Qr/\EP X pins σ Q (.str out s1.toks) {s1 with toks:=s1.toks+1}) s
 |_,_,.nil,pins,s,σ,H,Q,acc,I,h=>⟨h.1,.str acc,H,I.tok _,⟨_,rfl⟩,h.2⟩
 |_,_,.cons he hr,pins,s,σ,H,Q,acc,I,h=>by
  show Ql _ _ _ _ _ _
  refine cX (he pins s σ H _ I h) fun v s1 ⟨x,H1,I1,r1,y,hx,hl,q⟩=>?_
  subst hx
  obtain⟨tk,rfl⟩:=(show ∃t,v=Tu y t from r1)
  exact⟨y,tk,rfl,hl,hr.joins I1 q⟩
theorem dF{e1 e2:Qp}{es:List Qp}{ts:List TE}{pos:QH}(h:PJ X (e1::e2::es) ts):PE X (.JoinedStr (e1::e2::es) pos) (zG ts QO):=by
 intro pins s σ H Q I q
 exact wpAny_JoinedStr (h.joins I q)
end
structure vi(P:Qy)(w:Qv)(K:Qj)(mg:Qg->Option Qi)(base:Qq)(k:Nat)(x:Qg)(ps:List Qg)(sp:Sp):Prop where
 ex:∃a fd,mg x=some (.ref a)/\R9 K (.ref a)=true/\Binds K fd ps []/\nj P w K mg base (eQ P w base) k a fd ps sp
section
variable {P:Qy}{w:Qv}{K:Qj}{mg:Qg->Option Qi}{base:Qq}
theorem MB.okX{x qual:Qg}{st:Qs}{f:Qh}{fd:R1}{N ps:List Qg}{k:Nat}{sp:Sp}(F:MB K x qual st f fd)(S:aC N ps (ao st))(len:∀vs H Q E,sp vs H Q E->vs.length=ps.length)
  (hbody:∀(cdv:Qi)(A:QF)(outer:List QP)(s:Qk)(H:Hp)(vs:List V)(Q:VK)(E:XK),dv k (A.deeper (Rt qual (ao st) s.heap.objs.size f cdv))->sp vs H Q E->
   ∃t,xc (cJ (eQ P w base) P w K mg base N qual (ao st) f cdv A outer s H E) (dO st) t/\t {nx:=fun _ H'=>Q .non H',rt:=Q} (start N vs) H):nj P w K mg base (eQ P w base) (k+1) f fd ps sp:=by
 obtain⟨oc,od,kV,doc,pm,an,cdv,ct,osl,rfl,lk,hcd⟩:=F.ex
 exact Mf lk hcd S len fun A outer s H vs Q E hr hsp=>hbody cdv A outer s H vs Q E hr hsp
theorem bG.calX{x:Qg}{st:Qs}{ps N:List Qg}{rd:XK->TS}{k:Nat}{sp:Sp}(F:bG K mg x st ps)(S:aC N ps (ao st))(len:∀vs H Q E,sp vs H Q E->vs.length=ps.length)
  (hb:∀(f:Qh)(cdv:Qi)(A:QF)(outer:List QP)(s:Qk)(H:Hp)(E:XK),dv k (A.deeper (Rt x (ao st) s.heap.objs.size f cdv))->xc (cJ (eQ P w base) P w K mg base N x (ao st) f cdv A outer s H E) (dO st) (rd E))
  (hr:∀vs H Q E,sp vs H Q E->rd E {nx:=fun _ H'=>Q .non H',rt:=Q} (start N vs) H):vi P w K mg base (k+1) x ps sp:=by
 obtain⟨a,fd,hm,hF,hbd⟩:=F.ex
 exact⟨a,fd,hm,hF.kp,.all hbd,hF.okX S len fun cdv A outer s H vs Q E room h=>⟨rd E,hb a cdv A outer s H E room,hr vs H Q E h⟩⟩
end
section
variable {X:Cx}{k:Nat}{ps:List Qg}{sp:Sp}{x:Qg}{p pos:QH}{e:Qp}{es:List Qp}{t:TA}
theorem MM{E:XK}(C:vi X.prog X.w X.K X.mg X.base k x ps sp)(hr:dv k X.A)(hx:∀b,b∉X.ex)(ha:PA X.nox (e::es) t)(hg:Gl X x:=by rfl)(hdb:(x==("__debug__":Qg))=false:=by decide)
  (he:Qx (e::es) X.env=(false,eval e X.env)::Qx es X.env:=by rfl) (hpl:(Q1 pos (Qx es X.env)).any (·.1)=false:=by rfl):PX X (.Call (.Name x p) (e::es) [] pos) E (aO sp [] E t):=by
 obtain⟨a,fd,hm,hk,hb,F⟩:=C.ex
 exact KP F hr hg hm hk hb .nil hx ha hdb he hpl
end
section
variable {P:Qy}{w:Qv}{K:Qj}{mg:Qg->Option Qi}{base:Qq}{N:List Qg}{qual:Qg}{scope:Rh}{f:Qh}{cd:Qi}{A:QF}{outer:List QP}{s0:Qk}{H0:Hp}{E:XK}{k:Nat}{ps:List Qg}{sp:Sp}{x:Qg}{p pos:QH}{e:Qp}{es:List Qp}{t:TA}
theorem ff(C:vi P w K mg base k x ps sp)(hr:dv k (cJ (eQ P w base) P w K mg base N qual scope f cd A outer s0 H0 E).A)(ha:PA (cJ (eQ P w base) P w K mg base N qual scope f cd A outer s0 H0 E) (e::es) t)(hg:Gl (cJ (eQ P w base) P w K mg base N qual scope f cd A outer s0 H0 E) x:=by rfl)(hdb:(x==("__debug__":Qg))=false:=by decide)
  (he:Qx (e::es) (cJ (eQ P w base) P w K mg base N qual scope f cd A outer s0 H0 E).env=(false,eval e (cJ (eQ P w base) P w K mg base N qual scope f cd A outer s0 H0 E).env)::Qx es (cJ (eQ P w base) P w K mg base N qual scope f cd A outer s0 H0 E).env:=by rfl)
  (hpl:(Q1 pos (Qx es (cJ (eQ P w base) P w K mg base N qual scope f cd A outer s0 H0 E).env)).any (·.1)=false:=by rfl):PE (cJ (eQ P w base) P w K mg base N qual scope f cd A outer s0 H0 E) (.Call (.Name x p) (e::es) [] pos) (aO sp [] E t):=by
 obtain⟨a,fd,hm,hk,hb,F⟩:=C.ex
 exact FR F hr hg hm hk hb .nil Dd ha hdb he hpl
end
section
variable {X:Cx}{k:Nat}{x:Qg}{ps:List Qg}{sp:Sp}{e:Qp}{es:List Qp}{t:TA}{p pos:QH}
theorem ND{P:Qy}{w:Qv}{base:Qq}:ml (eQ P w base) X E0:=by
 intro pins σ H s v s' I hx
 obtain⟨_,_,_,_,_,_,_,_,_,_,_,_,_,_,q⟩:=hx
 exact q.elim
end
def aq(K:Qj)(x:Qg):Qh:=match RE K Q6 x with
 |some (some (.ref C))=>C
 |_=>0
theorem hU{K:Qj}{x:Qg}{C:Qh}(e:RE K Q6 x=some (some (.ref C))):aq K x=C:=by
 unfold aq;rw[e]
def keysOk(es:Array Si):Bool:=es.toList.all fun e=>match e.key with| .str _ _=>true|_=>false
theorem GP{es:Array Si}(h:keysOk es=true):StrKeys es:=by
 intro e he
 have:=(RL.mp h) e (YZ.mpr he)
 revert this
 cases hk:e.key<;>intro q<;>first|exact⟨_,_,rfl⟩|cases q
structure fH(K:Qj)(mg:Qg->Option Qi)(x:Qg):Prop where
 bound:mg x=some (.ref (aq K x))
 some:(RN K (aq K x)).isSome=true
 ek:nP K (aq K x)
 own:∀h:Qq,K.In h->OwnCls x (aq K x) [.type "ValueError",.type "Exception",.type "BaseException",.type "object"] "ValueError.__new__" mg h
section
variable {K:Qj}{mg:Qg->Option Qi}{h:Qq}{x:Qg}{C N:Qh}{nm q:Qg}{bs bm:List Qi}{hdct:Bool}{sn:List Qg}{sub:List Qi}{ab:Bool}{col:Option Bool}{dd:Option Qh}{k0 k1 k2 k3 k5:Option Qi}
 {c:Qi}{d:Option Qh}{es:Array Si}{ep:Nat}{sl:Array (Option Qi)}{cdat:ClassData}
theorem NG{h:Qq}(X:K.In h)(n:K.lookup N=some ⟨c,d,.dict es ep,sl⟩)(hk:keysOk es=true):h.Ns N (fun y=>nsFind es y):=⟨_,es,ep,X _ _ n,rfl,GP hk,fun _=>rfl⟩
theorem KQ(X:K.In h)(G:h.Ns Q6 mg)(a:RE K Q6 x=some (some (.ref C)))(l:K.lookup C=some (excClassObj nm q C N bs [.type "ValueError",.type "Exception",.type "BaseException",.type "object"] hdct sn sub ab col dd k0 k1 k2 k3 k5 "ValueError.__new__"))
  (n:K.lookup N=some ⟨c,d,.dict es ep,sl⟩) (g1:Rv K (.ref C) "__getattribute__"=some (some (.builtin "BaseException.__getattribute__"))) (g2:Rv K (.ref C) "__class__"=some (some (.builtin "object.__class__"))) (g3:Rv K (.ref C) "__getattr__"=some none)
  (g4:UY K C (.type "object")=some true) (g5:UY K C (.type "BaseException")=some true) (g6:RN K C=some cdat) (hk:keysOk es=true) (hi:nsFind es "__init__"=none):fH K mg x:=by
 have e:=hU a
 refine⟨?_,?_,?_,fun h' X'=>?_⟩
 ·rw[e];exact Tb X G a
 ·rw[e,g6];rfl
 ·rw[e];exact⟨g1,g2,g3,g4,g5⟩
 ·rw[e];exact⟨Tb X G a,_,N,nm,q,bs,hdct,sn,sub,ab,col,dd,k0,k1,k2,k3,k5,_,X' _ _ l,NG X' n hk,hi,.base⟩
theorem KN{C1:Qh}{c1 c2:Qi}{d1 d2:Option Qh}{es1:Array Si}{ep1:Nat}{sl1 sl2:Array (Option Qi)}{cd1:ClassData}(X:K.In h)(G:h.Ns Q6 mg)(a:RE K Q6 x=some (some (.ref C)))(l:K.lookup C=some (excClassObj nm q C N bs (.ref C1::[.type "ValueError",.type "Exception",.type "BaseException",.type "object"]) hdct sn sub ab col dd k0 k1 k2 k3 k5 "ValueError.__new__"))
  (n:K.lookup N=some ⟨c,d,.dict es ep,sl⟩) (l1:K.lookup C1=some {cls:=c1,dict:=d1,data:=.cls cd1,slots:=sl1}) (n1:K.lookup cd1.ns=some ⟨c2,d2,.dict es1 ep1,sl2⟩)
  (g1:Rv K (.ref C) "__getattribute__"=some (some (.builtin "BaseException.__getattribute__"))) (g2:Rv K (.ref C) "__class__"=some (some (.builtin "object.__class__"))) (g3:Rv K (.ref C) "__getattr__"=some none)
  (g4:UY K C (.type "object")=some true) (g5:UY K C (.type "BaseException")=some true) (g6:RN K C=some cdat) (hk:keysOk es=true) (hi:nsFind es "__init__"=none) (hk1:keysOk es1=true) (hi1:nsFind es1 "__init__"=none):fH K mg x:=by
 have e:=hU a
 refine⟨?_,?_,?_,fun h' X'=>?_⟩
 ·rw[e];exact Tb X G a
 ·rw[e,g6];rfl
 ·rw[e];exact⟨g1,g2,g3,g4,g5⟩
 ·rw[e];exact⟨Tb X G a,_,N,nm,q,bs,hdct,sn,sub,ab,col,dd,k0,k1,k2,k3,k5,_,X' _ _ l,NG X' n hk,hi,.own (X' _ _ l1) (NG X' n1 hk1) hi1 .base⟩
end
section
variable {K:Qj}{x y:Qg}{C D:Qh}{cd:ClassData}{r:Bool}{T:String}
theorem LG(a:RE K Q6 x=some (some (.ref C)))(b:RE K Q6 y=some (some (.ref D)))(c:RN K D=some cd)(t:VH K (.ref D)=some (.type "type"))(s:Vd K (.ref C) (.ref D)=some r)(n:C=D->r=true):
  QD K (.ref (aq K x)) (.ref (aq K y))=some r:=by
 rw[hU a,hU b]
 unfold QD
 split
 ·rename_i h
  rw[n (Xn (beq_iff_eq.mp h))]
 ·unfold V8
  simp only
  rw[if_pos (by rw[c,t];rfl)]
  exact s
theorem Mv(a:RE K Q6 x=some (some (.ref C)))(m:ZD T=true)(s:Vd K (.ref C) (.type T)=some r):QD K (.ref (aq K x)) (.type T)=some r:=by
 rw[hU a]
 unfold QD
 rw[if_neg (by intro h;have:=beq_iff_eq.mp h;cases this)]
 unfold V8
 simp only
 rw[if_pos m]
 exact s
theorem LC(a:RE K Q6 x=some (some (.ref C)))(b:RE K Q6 y=some (some (.ref D)))(e:Vd K (.ref D) (.type "BaseException")=some true)(c:RN K D=some cd)(t:VH K (.ref D)=some (.type "type"))(s:Vd K (.ref C) (.ref D)=some r):
  Sa K (.ref (aq K x)) (.ref (aq K y))=some r:=by
 rw[hU a,hU b]
 unfold Sa
 rw[if_pos (by rw[e];rfl)]
 unfold V8
 simp only
 rw[if_pos (by rw[c,t];rfl)]
 exact s
end
section
variable {P:Qy}{w:Qv}{K:Qj}{mg:Qg->Option Qi}{base:Qq}{N:List Qg}{qual:Qg}{scope:Rh}{f:Qh}{cd:Qi}{A:QF}{outer:List QP}{s0:Qk}{H0:Hp}{E:XK}{x:Qg}{np cpos pos:QH}{e:Qp}{es:List Qp}{t:TA}
theorem dq(O:fH K mg x)(ha:PA (cJ (eQ P w base) P w K mg base N qual scope f cd A outer s0 H0 E) (e::es) t)(hg:Gl (cJ (eQ P w base) P w K mg base N qual scope f cd A outer s0 H0 E) x:=by rfl)(hc:(cJ (eQ P w base) P w K mg base N qual scope f cd A outer s0 H0 E).calm=true:=by rfl)(hdb:(x==("__debug__":Qg))=false:=by decide)
  (he:Qx (e::es) (cJ (eQ P w base) P w K mg base N qual scope f cd A outer s0 H0 E).env=(false,eval e (cJ (eQ P w base) P w K mg base N qual scope f cd A outer s0 H0 E).env)::Qx es (cJ (eQ P w base) P w K mg base N qual scope f cd A outer s0 H0 E).env:=by rfl)
  (hpl:(Q1 cpos (Qx es (cJ (eQ P w base) P w K mg base N qual scope f cd A outer s0 H0 E).env)).any (·.1)=false:=by rfl):
  PS (cJ (eQ P w base) P w K mg base N qual scope f cd A outer s0 H0 E) (.Raise (some (.Call (.Name x np) (e::es) [] cpos)) none pos) (fq (aq K x) E t):=fun pins s σ H D I h=>
 JO (O.own base I.ok.mod.kin) WN (by decide) WN hg hc ha hdb he hpl pins s σ H D I h
end
theorem qK{X:Cx}{x:Qg}{pos:QH}(O:fH X.K X.mg x)(hg:Gl X x:=by rfl)(hd:(x==("__debug__":Qg))=false:=by decide):PE X (.Name x pos) (tC (.ref (aq X.K x))):=Bm hg O.bound rfl hd
theorem PS.nox{X:Cx}{st:Qs}{t:TS}(h:PS X.nox st t):PS X st t:=fun pins s σ H D I hw=>
 Rl (h pins s σ H D (I.wish _) hw) (fun f s' q=>by
  cases f with
  |next=>obtain⟨a,b,c,d⟩:=q;exact⟨a,b,c.unwish,d⟩
  |brk=>obtain⟨a,b,c,d⟩:=q;exact⟨a,b,c.unwish,d⟩
  |cont=>obtain⟨a,b,c,d⟩:=q;exact⟨a,b,c.unwish,d⟩
  |ret u=>obtain⟨v,a,b,c,d⟩:=q;exact⟨v,a,b,c.unwish,d⟩) fun _ _ z=>z.elim
end L2
namespace L2
open PySem PySem.Spec PyProof.Rows PySem.Builtin PySem.Builtin.Str
section
variable {X:Cx}
theorem zR:∀(l:List (Qg×Tok)),cu ((l.map (·.1)).map V.str) (strValues l)
 |[]=>.nil
 |p::l=>.cons ⟨p.2,rfl⟩ (zR l)
theorem Gf:∀{xs:List Qg}{us:List Qi},cu (xs.map V.str) us->∃l:List (Qg×Tok),us=strValues l/\l.map (·.1)=xs
 |[],_,.nil=>⟨[],rfl,rfl⟩
 |x::xs,_,.cons ⟨t,e⟩ r=>by
  obtain⟨l,h1,h2⟩:=Gf r
  exact⟨(x,t)::l,by rw[e,h1];rfl,by rw[QW,h2]⟩
noncomputable def Jz:V->List V->Hp->VK->Prop:=fun x vs H Q=>∃(a b:Qg),x=.str a/\vs=[.str b]/\(b.length==0)=false/\a.length<=Qr/\(Q9 a b).length<=Qr/\∀l,H l=none->Q (.ref l) (upd H l (.lst ((Q9 a b).map V.str)))
theorem IP:NS X "str.split" Jz:=by
 intro pins s σ H x vs v us Q I rx rv h
 obtain⟨a,b,rfl,rfl,hb,ha,hn,q⟩:=h
 obtain⟨t,rfl⟩:=rx
 obtain⟨u,rfl,u',rfl⟩:=rv.one
 have fin:∀(ps:List (Qg×Tok))(tk:Nat),ps.map (·.1)=Q9 a b->EP X pins σ Q (.ref s.heap.objs.size) {s with toks:=tk,heap:=s.heap.push {cls:=.type "list",data:=.seq (strValues ps).toArray}}:=fun ps tk hp=>by
  refine⟨.ref s.heap.objs.size,_,I.laid (t':=tk) (a:=s.heap.objs.size) (o:=.lst ((Q9 a b).map V.str)) (fun b o e=>QS _ e) (QC _) ⟨by rw[Qw];exact hn,strValues ps,0,?_,QX _ rfl⟩,rfl,q _ (I.hok.fresh (QC _))⟩
  rw[<-hp]
  exact zR ps
 have fl:∀c∈([]:List Nat),True:=fun _ _=>trivial
 cases h1:(decide (a.length<b.length) || decide (strKind a<strKind b))
 ·cases hf:(occurrences a b 0 a.length (a.length+1)).isEmpty
  ·have es:Q9 a b=partsBetween a (occurrences a b 0 a.length (a.length+1)) b.length:=(if_neg (ne_true_of_eq_false h1)).trans (if_neg (ne_true_of_eq_false hf))
   refine Sn Vk (typeIs_str _ _ _) Wj (We _ _) (meets_str_split_sep a b t u' h1 hb hf ha (by rw[<-es];exact hn)) ?_
   show EP X pins σ Q (.ref s.heap.objs.size) {s with toks:=_,heap:=s.heap.push {cls:=.type "list",data:=.seq (strsFrom s.toks (partsBetween a (occurrences a b 0 a.length (a.length+1)) b.length)).toArray}}
   rw[strsFrom_eq]
   exact fin _ _ ((numbered_texts _ _).trans es.symm)
  ·exact Sn Vk (typeIs_str _ _ _) Wj (We _ _) (meets_str_split_not_found a b t u' h1 hb hf) (fin [(a,t)] s.toks ((if_neg (ne_true_of_eq_false h1)).trans (if_pos hf)).symm)
 ·exact Sn Vk (typeIs_str _ _ _) Wj (We _ _) (meets_str_split_cannot_occur a b t u' h1) (fin [(a,t)] s.toks (if_pos h1).symm)
noncomputable def rJoin(K:Qj):V->List V->Hp->VK->Prop:=fun x vs H Q=>∃(sep:Qg)(p:Qh)(xs:List Qg),x=.str sep/\vs=[.ref p]/\bo K H p (xs.map V.str)/\tooLong (xs.toArray.foldl (· + ·.length+sep.length) 0)=false/\(glued sep xs).length<=Qr/\Q (.str (glued sep xs)) H
theorem ib:NS X "str.join" (rJoin X.K):=by
 intro pins s σ H x vs v us Q I rx rv h
 obtain⟨sep,p,xs,rfl,rfl,hS,hl,hz2,q⟩:=h
 obtain⟨t,rfl⟩:=rx
 obtain⟨u,rfl,ru⟩:=rv.one
 cases ru
 obtain⟨its,rvs,pl,hz⟩:=I.list hS
 obtain⟨l,rfl,hx⟩:=Gf rvs
 refine Sn Se (typeIs_str _ _ _) F.entry_str_join (F.args_str_join_2 _ _) (meets_str_join_list sep t p l (by rw[hx];exact hl)) ⟨pl.isList,?_⟩
 have fin:∀(t':Tok)(tk:Nat),EP X pins σ Q (.str (glued sep xs) t') {s with toks:=tk}:=fun t' tk=>⟨.str (glued sep xs),H,I.tok tk,⟨t',rfl⟩,q⟩
 rcases l with _|⟨p1,_|⟨p2,l⟩⟩
 ·subst hx
  exact⟨hz2,fin _ _⟩
 ·subst hx
  have e:glued sep [p1.1]=p1.1:=by first|rfl|simp[glued]
  have:=fin p1.2 s.toks
  rw[show(RO (·.1) [p1])=[p1.1]from rfl,e]at this
  exact this
 ·subst hx
  exact⟨hz2,fin _ _⟩
def DT:List V->Hp->VK->Prop:=fun xs H Q=>∃(x:Qg)(n:Int),xs=[.str x]/\Wb x=some n/\x.length<=640/\Q (.int n) H
theorem Ho:d4 X (.type "int") DT:=by
 intro pins s σ H xs us Q I r h
 obtain⟨x,n,rfl,hn,hl,q⟩:=h
 obtain⟨u,rfl,t,rfl⟩:=vals1 r
 exact Zb hn hl ⟨.int n,H,I.tok _,⟨_,rfl⟩,q⟩
def vz:V->List V->Hp->VK->Prop:=fun x vs H Q=>∃(a b:Qg),x=.str a/\vs=[.str b]/\Q (.bl (decide (0+b.length<=a.length)&&subAt a b 0)) H
theorem yn:NS X "str.startswith" vz:=by
 intro pins s σ H x vs v us Q I rx rv h
 obtain⟨a,b,rfl,rfl,q⟩:=h
 obtain⟨t,rfl⟩:=rx
 obtain⟨u,rfl,u',rfl⟩:=rv.one
 exact Sn Xc (typeIs_str _ _ _) F.entry_str_startswith (F.args_str_startswith_2 _ _) (gives_str_startswith a b t u').meets (show EP X pins σ Q (.bool (decide (0+b.length<=a.length)&&subAt a b 0)) s from⟨.bl _,H,I,rfl,q⟩)
def yX:V->Option Int->Option Int->Hp->VK->Prop:=fun x lo hi H Q=>∃z:Qg,x=.str z/\z.length<=Qr/\Q (.str (Ra z lo hi)) H
theorem qm:P4 X yX:=by
 intro pins s σ H x v vl vu lo hi sl Q I rx hs pl pu h
 obtain⟨z,rfl,hz,q⟩:=h
 obtain⟨t,rfl⟩:=rx
 refine⟨"str",_,F.slot_str_getitem.lookup,typeIs_str _ _ _,?_⟩
 have fin:∀(t':Tok)(k:Nat),EP X pins σ Q (.str (Ra z lo hi) t') {s with toks:=k}:=fun t' k=>⟨.str (Ra z lo hi),H,I.tok k,⟨t',rfl⟩,q⟩
 have hle:=Qt (aav z lo hi) hz
 cases pl with
 |none=>
  cases pu with
  |none=>exact Vr (l:=none) (u:=none) (st:=none) hs rfl (post_val_or_str ⟨hle,fin⟩)
  |int j uj=>exact Vr (l:=none) (u:=some (j,uj)) (st:=none) hs rfl (post_val_or_str ⟨hle,fin⟩)
 |int i ui=>
  cases pu with
  |none=>exact Vr (l:=some (i,ui)) (u:=none) (st:=none) hs rfl (post_val_or_str ⟨hle,fin⟩)
  |int j uj=>exact Vr (l:=some (i,ui)) (u:=some (j,uj)) (st:=none) hs rfl (post_val_or_str ⟨hle,fin⟩)
end
end L2
namespace L2
open PySem PySem.Spec PyProof.Rows
def Pg(x:Qg):It:=⟨fun i _=>i<x.cps.size,fun i H v H'=>H'=H/\v=.str ⟨#[x.cps.getD i 0]⟩,fun i _=>x.cps.size<=i⟩
theorem Gz{P:Qy}{w:Qv}{K:Qj}{tg:Qp}(it:Qh)(x:Qg)(t:Tok):Turn P w K tg (Pg x) [it] it (fun i h=>h.IsStrIter it "str_ascii_iterator" x t i) where
 mem:=⋯
 obj:=fun i h st b hb=>by
  have e:b=it:=by simpa using hb
  subst e
  obtain⟨o,e,c,d⟩:=st
  exact⟨o,e,fun v z=>by rw[d]at z;cases z⟩
 keep:=fun i h h' st k=>by
  obtain⟨o,e,r⟩:=st
  exact⟨o,k it ⋯ o e,r⟩
 item:=by
  intro X hP hw hK hc i pins s σ H E I hf st hg
  subst hP hw hK
  obtain⟨f0,f1,f2,f3,f4,f5⟩:=hf it ⋯
  have hg:i<x.cps.size:=hg
  refine wpAny_pyNext_ascii_item st (c:=x.cps[i]) (by simp[hg]) fun h' st' sb=>?_
  have I1:Inv X pins σ H {s with heap:=h',toks:=s.toks+1}:=I.turned (t':=s.toks+1) (fun b o hb e=>(sb.2 b hb).trans e) f0 f1 f3 f4 f5
  obtain⟨o,e,c,d⟩:=id st'
  have ex:x.cps.getD i 0=x.cps[i]:=by simp[Array.getD,hg]
  exact⟨_,rfl,Dc (s:={s with heap:=h',toks:=s.toks+1}) e c d (by decide) ⟨.str ⟨#[x.cps[i]]⟩,H,I1,⟨_,rfl⟩,⟨rfl,by rw[ex]⟩,st',fun b hb=>(hf b hb).1⟩⟩
 done:=by
  intro X hP hw hK hc i pins s σ H E I hf st hg
  subst hP hw hK
  obtain⟨f0,f1,f2,f3,f4,f5⟩:=hf it ⋯
  have hg:x.cps.size<=i:=hg
  exact wpAny_pyNext_ascii_end (I.ok.hd hc) st (by simp;omega) fun h' eb=>⟨rfl,I.turned (t':=s.toks) (fun b o hb e=>eb b o hb e) f0 f1 f3 f4 f5⟩
 self:=fun _ _ _ _ _ st h=>wpAny_pyIter_striter_ascii st h
section
variable {X:Cx}{tg:Qp}
def FL(tl:TE):TI:=fun σ H R=>tl σ H fun v H1=>∃x:Qg,v=.str x/\x.cps.all (· < 128)=true/\R (Pg x) H1
theorem F7{l:Qp}{tl:TE}(hl:PE X l tl):PI X tg l (FL tl):=by
 intro pins s σ H R I h
 refine cX (hl pins s σ H _ I h) fun v s1 ⟨y,H1,I1,r1,q1⟩=>?_
 obtain⟨x,e,ha,q⟩:=q1
 subst e
 obtain⟨t,rfl⟩:=r1
 refine wpAny_pyIter_ascii ha ?_
 refine⟨s1.heap.objs.size,[s1.heap.objs.size],_,_,H1,rfl,I1.kept (t':=s1.toks) fun b o e=>QS _ e,Gz _ x t,⟨_,QX _ rfl,rfl,rfl⟩,fun b hb=>?_,q⟩
 have e:b=s1.heap.objs.size:=by simpa using hb
 subst e
 exact I1.fpOk (QC _) (I1.hok.fresh (QC _))
end
theorem Gg{x:Qg}(p:Nat):Ys (Pg x) (av p) (fun _=>True) x.cps.size (fun i σ=>σ.set p (some (.str ⟨#[x.cps.getD i 0]⟩))) where
 go:=fun i H hi _=>hi
 stop:=fun H _=>QC _
 yld:=fun i H v H' σ Q hi _ y q=>by
  obtain⟨e,y⟩:=y
  subst e y
  exact q _ (ar.refl _)
section
variable {X:Cx}
def ID:R2:=fun x y H Q=>∃(z:Qg)(n:Int),x=.str z/\y=.int n/\0<=n/\n<=1000/\z.length<=1000/\Q (.str (Sd z n)) H
theorem Cu{z:Qg}{n:Int}(h0:0<=n)(h1:n<=1000)(hz:z.length<=1000):MulOk z n:=by
 exists ?_,?_
 ·simp;omega
 ·intro a b
  have h:(1000:Int)<=(2 ^ 63-1)/n:=Int.le_ediv_of_mul_le (by omega) (by omega)
  omega
 ·intro a b
  have h:z.length*n.toNat<=1000*1000:=Nat.mul_le_mul hz (by omega)
  have k:Qr=16777216:=by decide
  refine decide_eq_false ?_
  rw[k]
  omega
theorem vT:jM X (RV .Mult) ID:=by
 intro pins s σ H x y v u Q I rx ry h
 obtain⟨z,n,rfl,rfl,h0,h1,hz,q⟩:=h
 obtain⟨t,rfl⟩:=rx
 obtain⟨t',rfl⟩:=ry
 exact SB.mul (Cu h0 h1 hz) fun t' k=>⟨.str (Sd z n),H,I.tok k,⟨t',rfl⟩,q⟩
def pW(te:TE):TE:=fun σ H Q=>te σ H fun x H1=>∃z:Qg,x=.str z/\(reprText z).length<=Qr/\Q (.str (reprText z)) H1
theorem iN{e:Qp}{te:TE}{pos:QH}(he:PE X e te):PE X (.FormattedValue e 114 none pos) (pW te):=by
 intro pins s σ H Q I h
 refine wpAny_FormattedValue_repr (cX (he pins s σ H _ I h) fun v s1 ⟨x,H1,I1,r1,z,hx,hl,q⟩=>?_)
 subst hx
 obtain⟨tk,rfl⟩:=r1
 refine wpAny_pyReprObj_gives (typeIs_str _ z tk) F.slot_str_repr F.entry_str_repr (F.args_str_repr_1 _) (gives_str_repr z tk) ?_ (hx:=hl)
 have fin:∀(t':Tok)(k:Nat),EP X pins σ Q (.str (reprText z) t') {s1 with toks:=k}:=fun t' k=>⟨.str (reprText z),H1,I1.tok k,⟨t',rfl⟩,q⟩
 exact wpAny_formatField_str (fin _ _) (fin _ _) (hx:=hl)
end
noncomputable def FU(K:Qj)(C:Qi)(i j:Nat)(t:XK->TE)(tb:TS):TS:=fun D σ H=>
 t (fun cls _ H'=>Sa K cls C=some true/\∀a oe,H' a=none->oe.cls=cls->UR oe=true->oe.dict=none->
  tb {nx:=fun σ' H''=>D.nx (σ'.set i none) H'',rt:=D.rt,bk:=fun σ' H''=>D.bk (σ'.set i none) H'',ct:=fun σ' H''=>D.ct (σ'.set i none) H''} (σ.set i (some (.ref a))) (upd H' a (.frz oe (.own a)))) σ H fun v H'=>D.nx (σ.set j (some v)) H'
section
variable {X:Cx}{x n y:Qg}{j:Nat}{py:QH}{C:Qi}{i:Nat}{t:XK->TE}{tb:TS}{e:Qp}{b₀:Qs}{suite:List Qs}{pos epos hpos np:QH}
theorem GV(hj:X.N[j]?=some y)(hy:X.env.scope.names.lookup y=some .local)(hx:∀b,b∉X.ex)(hst:X.stack=X.env::X.outer)(hN:X.N.Nodup)(hi:X.N[i]?=some n)(hn:X.env.scope.names.lookup n=some .local)(hl:X.env.kindOf n=some .local)(hg:Gl X x)(hm:X.mg x=some C)
  (he:∀E,PX X e E (t E)) (hb:∀v,xc (X.marked v) (b₀::suite) tb) (hdb:(x==("__debug__":Qg))=false:=by decide) (hs:swapsWith e (some (.Name y py)) epos.line X.env=pure false:=by rfl):
  PS X (.Try [.Assign [.Name y py] e epos] [.ExceptHandler (some (.Name x np)) (some n) (b₀::suite) hpos] [] [] pos) (FU X.K C i j t tb):=by
 intro pins s σ H D I h
 refine wpAny_Try_except (wpAny_execs_cons ?_)
 refine wpAny_Assign_Name (Rl (he _ pins s σ H _ I h) (fun v s1 ⟨z,H1,I1,r1,q1⟩=>?_) ?_) hs
 ·exact kG I1 hN hj (.inl hy) r1 (fun s2 I2=>SS (SS ⟨_,H1,I2,q1⟩)) (.inr hy)
 ·intro ev s1 hxp
  obtain⟨a,T,cls,H1,rfl,J,fa,fT,tr,q⟩:=hxp
  obtain⟨qc,qb⟩:=q
  have hf:X.env.frame=some X.env.locals:=vD J.ok hst
  refine FN (base:=X.base) (outer:=X.outer) (hst▸J.ok.frames) (hst▸J.stack) hf tr J.bk fun h2 k1 k2 ⟨T2,hT2,tr2⟩=>?_
  have J2:Inv X pins σ H1 {s1 with heap:=h2}:=J.left (ch:=[a,T]) (fun b hb=>by
   have hb':b=a\/b=T:=by simpa using hb
   rcases hb' with z|z
   ·rw[z];exact fa
   ·rw[z];exact fT) (fun b o hb hs hq=>k1 b o (fun z=>hb (by simp[z])) (fun z=>hb (by simp[z])) (hst▸hs) hq) (fun b o hb hq=>k2 b o (fun z=>hb (by simp[z])) (fun z=>hb (by simp[z])) hq)
  have fT2:Im X pins H1 T2:=J.fpO (Uo hT2) (hx T2) (J.hok.fresh hT2)
  have tr3:=tr2
  obtain⟨⟨oe,vs,oT,ts,t1,t2,tn,t3,t4,t5,t6,t7⟩,t8,t9⟩:=tr3
  subst t2
  have LT:W4 (model X.prog X.w) h2 (typeOf (.ref a)) oe.cls:=(WL t1).andThen .now
  refine wpAny_handleBy_cons (codeAny_handlers_test ?_) (by intro z;cases z)
  refine lV (X:=X.marked (.ref a)) (J2.marked (.ref a)) hg hm ?_ hdb
  refine(XW J2.kIn LT qc).here ?_
  refine codeAny_handlers_suite_as ?_
  refine xu tr2 fun h3 k3=>?_
  have J3:=Inv.left (s:={s1 with heap:=h2}) (h':=h3) (ch:=[T2]) J2 (fun b hb=>by rw[Q8.mp hb];exact fT2) (fun b o hb _ hq=>k3 b o (fun z=>hb (by simp[z])) hq) (fun b o hb hq=>⟨o.slots,k3 b o (fun z=>hb (by simp[z])) hq⟩)
  have h3a:h3.get? a=some oe:=k3 a oe (QT t9) t1
  have J4:=J3.track (a:=a) (o:=.frz oe (.own a)) fa ⟨h3a,oe,h3a⟩
  refine kG (X:=X.marked (.ref a)) (v:=.ref a) (J4.marked (.ref a)) hN hi (.inl hn) rfl (fun s5 I5=>?_) (.inr hn)
  refine Rl (hb (.ref a) pins s5 _ _ _ I5 (qb a oe fa.1 rfl (by unfold UR;rw[t3]) tn)) (fun fl s6 hq=>?_) fun _ _ z=>z.elim
  have hp:(X.env.scope.kind==.class || (X.env.scope.kind==.module&&X.env.locals != X.env.globals))=false:=by rw[J.ok.kind];rfl
  have go:∀{σ6 H6 R},Inv (X.marked (.ref a)) pins σ6 H6 s6->(∀s7,Inv X pins (σ6.set i none) H6 s7->SP X pins D fl s7)->(R=fun (_:Unit) s7=>SP X pins D fl s7)->Ql (model X.prog X.w) X.A (do bindName X.env n .none;unbindBehindTheSuite X.env n hpos) R X.xe s6:=fun {σ6 H6 R} I6 w e=>by
   subst e
   have I7:=Inv.unmarked J.ok I6
   obtain⟨m,hn6,hl6⟩:=id I7.loc
   exact wpAny_nameGoes_keeps hl hn6 hp fun h7 v7 hn7 hs7=>w _ (I7.forget hN hi hn6 hl6 hn7 hs7)
  cases fl with
  |next=>
   obtain⟨σ6,H6,I6,q6⟩:=hq
   exact go I6 (fun s7 I7=>⟨_,_,I7,q6⟩) rfl
  |brk=>
   obtain⟨σ6,H6,I6,q6⟩:=hq
   exact go I6 (fun s7 I7=>⟨_,_,I7,q6⟩) rfl
  |cont=>
   obtain⟨σ6,H6,I6,q6⟩:=hq
   exact go I6 (fun s7 I7=>⟨_,_,I7,q6⟩) rfl
  |ret u=>
   obtain⟨v6,σ6,H6,I6,r6,q6⟩:=hq
   exact go I6 (fun s7 I7=>⟨v6,_,_,I7,r6,q6⟩) rfl
end
structure JN(mg:Qg->Option Qi)(x:Qg)(i:Qg):Prop where
 ex:∃t,mg x=some (.str i t)
theorem JN.pe{X:Cx}{x:Qg}{i:Qg}{pos:QH}(k:JN X.mg x i)(hg:Gl X x)(hd:(x==("__debug__":Qg))=false:=by decide):PE X (.Name x pos) (tC (.str i)):=by
 obtain⟨t,e⟩:=k.ex
 exact Bm hg e ⟨t,rfl⟩ hd
theorem LV{K:Qj}{mg:Qg->Option Qi}{h:Qq}{x:Qg}{i:Qg}{t:Tok}(X:K.In h)(G:h.Ns Q6 mg)(z:RE K Q6 x=some (some (.str i t))):JN mg x i:=⟨t,Tb X G z⟩
def cL:R2:=fun x y H Q=>∃i j,x=.str i/\y=.str j/\i.length+j.length<=Qr/\Q (.str (i++j)) H
def Jt:R2:=fun x y H Q=>∃i j,x=.str i/\y=.str j/\Q (.bl (!(UQ j i 0 j.length 1).isEmpty)) H
def iH:List V->Hp->VK->Prop:=fun xs H Q=>∃i,xs=[.int i]/\i.natAbs.log2<1920/\Q (.str (toString i)) H
def vU:List V->Hp->VK->Prop:=fun xs H Q=>∃z:Qg,xs=[.str z]/\z.length<=Qr/\Q (.int z.length) H
section
variable {X:Cx}
theorem bU:jM X (RV .Add) cL:=Ep
theorem Kv:jM X (Rc .In) Jt:=Ie
theorem dc:d4 X (.type "str") iH:=rF
theorem oW:d4 X (.builtin "len") vU:=Ay
end
structure cH(K:Qj)(c m qual:Qg)(st:Qs)(ps:List Qg):Prop where
 ex:∃f fd,G1 K (aq K c) m f/\MB K m qual st f fd/\∀us:List Qi,us.length=ps.length->bindArgs fd ⟨us,[]⟩=pure (ps.zip us)
structure fe(CX:GU)(P:Qy)(w:Qv)(K:Qj)(mg:Qg->Option Qi)(base:Qq)(k:Nat)(c m:Qg)(ps:List Qg)(sp:Sp):Prop where
 ex:∃f fd,G1 K (aq K c) m f/\Binds K fd ps []/\nj P w K mg base CX k f fd ps sp
structure oo(K:Qj)(mg:Qg->Option Qi)(c:Qg):Prop where
 bound:mg c=some (.ref (aq K c))
 cls:il K (aq K c)
 makes:VB K (aq K c)=true
 kp:R9 K (.ref (aq K c))=true
section
variable {P:Qy}{w:Qv}{K:Qj}{mg:Qg->Option Qi}{base:Qq}
theorem cH.cal{c m qual:Qg}{st:Qs}{ps N:List Qg}{rd:TS}{k:Nat}{sp:Sp}(F:cH K c m qual st ps)(S:aC N ps (ao st))(len:∀vs H Q E,sp vs H Q E->vs.length=ps.length)
  (hb:∀(f:Qh)(cdv:Qi)(A:QF)(outer:List QP)(s:Qk)(H:Hp)(E:XK),dv k (A.deeper (Rt qual (ao st) s.heap.objs.size f cdv))->xc (cJ sL P w K mg base N qual (ao st) f cdv A outer s H E).nox (dO st) rd)
  (hr:∀vs H Q E,sp vs H Q E->rd {nx:=fun _ H'=>Q .non H',rt:=Q} (start N vs) H):fe sL P w K mg base (k+1) c m ps sp:=by
 obtain⟨a,fd,hm,hF,hbd⟩:=F.ex
 exact⟨a,fd,hm,.all hbd,hF.ok S len fun cdv A outer s H vs Q E room h=>⟨rd,hb a cdv A outer s H E room,hr vs H Q E h⟩⟩
theorem cH.calX{c m qual:Qg}{st:Qs}{ps N:List Qg}{rd:XK->TS}{k:Nat}{sp:Sp}(F:cH K c m qual st ps)(S:aC N ps (ao st))(len:∀vs H Q E,sp vs H Q E->vs.length=ps.length)
  (hb:∀(f:Qh)(cdv:Qi)(A:QF)(outer:List QP)(s:Qk)(H:Hp)(E:XK),dv k (A.deeper (Rt qual (ao st) s.heap.objs.size f cdv))->xc (cJ (eQ P w base) P w K mg base N qual (ao st) f cdv A outer s H E) (dO st) (rd E))
  (hr:∀vs H Q E,sp vs H Q E->rd E {nx:=fun _ H'=>Q .non H',rt:=Q} (start N vs) H):fe (eQ P w base) P w K mg base (k+1) c m ps sp:=by
 obtain⟨a,fd,hm,hF,hbd⟩:=F.ex
 exact⟨a,fd,hm,.all hbd,hF.okX S len fun cdv A outer s H vs Q E room h=>⟨rd E,hb a cdv A outer s H E room,hr vs H Q E h⟩⟩
theorem LD{h:Qq}{c m qual:Qg}{st:Qs}{ps:List Qg}{C f:Qh}{oc:Qi}{od an:Option Qh}{osl:Array (Option Qi)}{kV doc pm cdv ct:Qi}
  (a:RE K Q6 c=some (some (.ref C))) (a4:Rv K (.ref C) m=some (some (.ref f))) (fn:Vz K (.ref f)=true) (l4:K.lookup f=some ⟨oc,od,.func (SD m qual (l9 st) (dO st) (ao st) .none kV doc pm an cdv ct),osl⟩)
  (c4:UT K cdv qual=true) (k4:R9 K (.ref f)=true)
  (hb:∀(kV doc pm:Qi)(an:Option Qh)(cdv ct:Qi)(us:List Qi),us.length=ps.length->bindArgs (SD m qual (l9 st) (dO st) (ao st) .none kV doc pm an cdv ct) ⟨us,[]⟩=pure (ps.zip us)):cH K c m qual st ps:=
 ⟨f,_,by rw[hU a];exact⟨a4,fn,k4⟩,Jf l4 c4 k4,hb kV doc pm an cdv ct⟩
theorem MG{h:Qq}{c:Qg}{C:Qh}(X:K.In h)(G:h.Ns Q6 mg)(a:RE K Q6 c=some (some (.ref C)))(pg:Ux K C QO=true)(hd:Vp K C=true)(po:WH K C=true)
  (sa:Rv K (.ref C) "__setattr__"=some (some (.builtin "object.__setattr__"))) (mk:VB K C=true) (kp:R9 K (.ref C)=true):oo K mg c:=by
 have e:=hU a
 exact⟨by rw[e];exact Tb X G a,by rw[e];exact⟨pg,hd,po,sa⟩,by rw[e];exact mk,by rw[e];exact kp⟩
theorem GK{c f:Qg}{C:Qh}(a:RE K Q6 c=some (some (.ref C)))(n:Rv K (.ref C) f=some none):dC K (aq K c) f:=by
 rw[hU a];exact n
end
section
variable {X:Cx}{k:Nat}{c m:Qg}{ps:List Qg}{sp:Sp}{o e:Qp}{es:List Qp}{ta:TE}{t:TA}{apos pos p:QH}{pl:Sem Bool}
theorem ro(M:fe sL X.prog X.w X.K X.mg X.base k c m ps sp)(C:oo X.K X.mg c)(hr:dv k X.A)(he:PE X o ta)(ha:PA X (e::es) t)
  (hst:Qx (e::es) X.env=(false,eval e X.env)::Qx es X.env:=by rfl) (hpl:(Q1 pos (Qx es X.env)).any (·.1)=false:=by rfl)
  (ht:eval (.Call (.Attribute o m apos) (e::es) [] pos) X.env=(do
   let ov <-eval o X.env
   standAt apos.atName
   let (f,first) <-holding [ov] (Sw ov m pl)
   callWith pos f first (Q1 pos (Qx (e::es) X.env)) (Sg pos (Sf [] X.env))):=by rfl):PE X (.Call (.Attribute o m apos) (e::es) [] pos) (bP (aq X.K c) m sp [] E0 ta t):=by
 obtain⟨f,fd,hm,hb,F⟩:=M.ex
 exact A9 he C.cls hm F hr hb .nil Gh ha hst hpl ht
theorem c7(M:fe sL X.prog X.w X.K X.mg X.base k c m ps sp)(C:oo X.K X.mg c)(hr:dv k X.A)(he:PE X o ta)
  (ht:eval (.Call (.Attribute o m apos) [] [] pos) X.env=(do
   let ov <-eval o X.env
   standAt apos.atName
   let (f,first) <-holding [ov] (Sw ov m pl)
   callWith pos f first (Q1 pos (Qx [] X.env)) (Sg pos (Sf [] X.env))):=by rfl):PE X (.Call (.Attribute o m apos) [] [] pos) (bP (aq X.K c) m sp [] E0 ta au):=by
 obtain⟨f,fd,hm,hb,F⟩:=M.ex
 exact JL he C.cls hm F hr hb .nil Gh ht
theorem IB(M:fe (eQ X.prog X.w X.base) X.prog X.w X.K X.mg X.base k c m ps sp)(C:oo X.K X.mg c)(hr:dv k X.A)(he:PE X o ta)(ha:PA X (e::es) t)
  (hst:Qx (e::es) X.env=(false,eval e X.env)::Qx es X.env:=by rfl) (hpl:(Q1 pos (Qx es X.env)).any (·.1)=false:=by rfl)
  (ht:eval (.Call (.Attribute o m apos) (e::es) [] pos) X.env=(do
   let ov <-eval o X.env
   standAt apos.atName
   let (f,first) <-holding [ov] (Sw ov m pl)
   callWith pos f first (Q1 pos (Qx (e::es) X.env)) (Sg pos (Sf [] X.env))):=by rfl):PE X (.Call (.Attribute o m apos) (e::es) [] pos) (bP (aq X.K c) m sp [] E0 ta t):=by
 obtain⟨f,fd,hm,hb,F⟩:=M.ex
 exact A9 he C.cls hm F hr hb .nil ND ha hst hpl ht
theorem sV(M:fe sL X.prog X.w X.K X.mg X.base k c "__init__" ps sp)(C:oo X.K X.mg c)(hr:dv (k+1) X.A)(hg:Gl X c:=by rfl)(hdb:(c==("__debug__":Qg))=false:=by decide):PE X (.Call (.Name c p) [] [] pos) (zx (aq X.K c) sp [] E0 au):=by
 obtain⟨f,fd,hm,hb,F⟩:=M.ex
 exact Ka ⟨C.makes,hm.at_,hm.fn,C.kp⟩ F hr hg C.bound hb .nil Gh hdb
end
section
variable {P:Qy}{w:Qv}{K:Qj}{mg:Qg->Option Qi}{base:Qq}{N:List Qg}{qual:Qg}{scope:Rh}{f:Qh}{cd:Qi}{A:QF}{outer:List QP}{s0:Qk}{H0:Hp}{E:XK}{k:Nat}{ps:List Qg}{sp:Sp}{c m:Qg}{apos pos:QH}{o e:Qp}{es:List Qp}{ta:TE}{t:TA}{pl:Sem Bool}
theorem ck(M:fe (eQ P w base) P w K mg base k c m ps sp)(C:oo K mg c)(hr:dv k (cJ (eQ P w base) P w K mg base N qual scope f cd A outer s0 H0 E).A)(he:PE (cJ (eQ P w base) P w K mg base N qual scope f cd A outer s0 H0 E) o ta)(ha:PA (cJ (eQ P w base) P w K mg base N qual scope f cd A outer s0 H0 E) (e::es) t)
  (hst:Qx (e::es) (cJ (eQ P w base) P w K mg base N qual scope f cd A outer s0 H0 E).env=(false,eval e (cJ (eQ P w base) P w K mg base N qual scope f cd A outer s0 H0 E).env)::Qx es (cJ (eQ P w base) P w K mg base N qual scope f cd A outer s0 H0 E).env:=by rfl)
  (hpl:(Q1 pos (Qx es (cJ (eQ P w base) P w K mg base N qual scope f cd A outer s0 H0 E).env)).any (·.1)=false:=by rfl)
  (ht:eval (.Call (.Attribute o m apos) (e::es) [] pos) (cJ (eQ P w base) P w K mg base N qual scope f cd A outer s0 H0 E).env=(do
   let ov <-eval o (cJ (eQ P w base) P w K mg base N qual scope f cd A outer s0 H0 E).env
   standAt apos.atName
   let (f',first) <-holding [ov] (Sw ov m pl)
   callWith pos f' first (Q1 pos (Qx (e::es) (cJ (eQ P w base) P w K mg base N qual scope f cd A outer s0 H0 E).env)) (Sg pos (Sf [] (cJ (eQ P w base) P w K mg base N qual scope f cd A outer s0 H0 E).env))):=by rfl):
  PE (cJ (eQ P w base) P w K mg base N qual scope f cd A outer s0 H0 E) (.Call (.Attribute o m apos) (e::es) [] pos) (bP (aq K c) m sp [] E ta t):=by
 obtain⟨f',fd,hm,hb,F⟩:=M.ex
 exact A9 he C.cls hm F hr hb .nil Dd ha hst hpl ht
end
section
variable {κ:Type} [DecidableEq κ]
def iu(kvs:List (κ×V))(k:κ):Option V:=(kvs.find? fun kv=>decide (kv.1=k)).map (·.2)
def putK(kvs:List (κ×V))(k:κ)(v:V):List (κ×V):=
 if(kvs.any fun kv=>decide (kv.1=k))=true then kvs.map (fun kv=>if kv.1=k then(kv.1,v)else kv)else kvs++[(k,v)]
def rh(kvs:List (κ×V))(k:κ):List (κ×V):=kvs.filter fun kv=>decide (kv.1≠k)
theorem rC{p:κ×V}{r:List (κ×V)}{k:κ}(e:p.1=k):iu (p::r) k=some p.2:=by simp[iu,Ug,e]
theorem oC{p:κ×V}{r:List (κ×V)}{k:κ}(e:¬p.1=k):iu (p::r) k=iu r k:=by simp[iu,Ug,e]
theorem xy(k:κ):∀kvs:List (κ×V),(kvs.any fun kv=>decide (kv.1=k))=(iu kvs k).isSome
 |[]=>rfl
 |p::r=>by
  rw[SK]
  by_cases e:p.1=k
  ·simp only[rC e,decide_eq_true e,Bool.true_or,YN]
  ·rw[oC e,decide_eq_false e,YL];exact xy k r
theorem uu(kvs:List (κ×V))(k:κ)(v:V):(putK kvs k v).length<=kvs.length+1:=by
 unfold putK
 split
 ·rw[Qw];omega
 ·rw[Rz,Rn,Xh];omega
theorem Kf{kvs:List (κ×V)}{k:κ}(v:V)(h:iu kvs k=none):putK kvs k v=kvs++[(k,v)]:=by
 unfold putK
 rw[xy,h]
 exact if_neg (by decide)
theorem nN.isSome_eq{o:Option V}{u:Option Qi}(r:nN o u):o.isSome=u.isSome:=by
 cases o with
 |none=>cases u with
  |none=>rfl
  |some _=>exact(show False from r).elim
 |some _=>cases u with
  |none=>exact(show False from r).elim
  |some _=>rfl
theorem KV.val{kvs:List (κ×V)}{vs:List (κ×Qi)}(r:KV kvs vs)(k:κ):nN (iu kvs k) (valueAt vs k):=by
 unfold KV at r
 induction r with
 |nil=>exact SU
 |@cons p q ps qs h t ih=>
  obtain⟨h1,h2⟩:=h
  by_cases e:p.1=k
  ·have e':q.1=k:=h1.symm.trans e
   have b:valueAt (q::qs) k=some q.2:=by simp[valueAt,Ug,e']
   rw[rC e,b];exact h2
  ·have e':¬q.1=k:=fun z=>e (h1.trans z)
   have b:valueAt (q::qs) k=valueAt qs k:=by simp[valueAt,Ug,e']
   rw[oC e,b];exact ih
theorem KV.any{kvs:List (κ×V)}{vs:List (κ×Qi)}(r:KV kvs vs)(k:κ):(kvs.any fun kv=>decide (kv.1=k))=vs.any fun kv=>decide (kv.1=k):=by
 unfold KV at r
 induction r with
 |nil=>rfl
 |cons h t ih=>rw[SK,SK,ih,h.1]
theorem KV.repl{kvs:List (κ×V)}{vs:List (κ×Qi)}(r:KV kvs vs)(k:κ){y:V}{u:Qi}(ry:RelV y u):
  KV (kvs.map fun kv=>if kv.1=k then(kv.1,y)else kv) (vs.map fun kv=>if kv.1=k then(kv.1,u)else kv):=by
 unfold KV at r ⊢
 induction r with
 |nil=>exact .nil
 |@cons p q ps qs h t ih=>
  rw[QW,QW]
  refine .cons ?_ ih
  obtain⟨h1,h2⟩:=h
  by_cases e:p.1=k
  ·rw[if_pos e,if_pos (h1.symm.trans e)];exact⟨h1,ry⟩
  ·rw[if_neg e,if_neg (fun z=>e (h1.trans z))];exact⟨h1,h2⟩
theorem KV.put{kvs:List (κ×V)}{vs:List (κ×Qi)}(r:KV kvs vs)(k:κ){y:V}{u:Qi}(ry:RelV y u):KV (putK kvs k y) (stored vs k u):=by
 unfold putK stored
 rw[r.any k]
 by_cases e:(vs.any fun kv=>decide (kv.1=k))=true
 ·rw[if_pos e,if_pos e];exact r.repl k ry
 ·rw[if_neg e,if_neg e];exact Xf r ⟨rfl,ry⟩
theorem KV.drop{kvs:List (κ×V)}{vs:List (κ×Qi)}(r:KV kvs vs)(k:κ):KV (rh kvs k) (without vs k):=by
 unfold KV at r ⊢
 unfold rh without
 induction r with
 |nil=>exact .nil
 |@cons p q ps qs h t ih=>
  obtain⟨h1,h2⟩:=h
  rw[Tt,Tt]
  by_cases e:p.1=k
  ·have a:¬decide (p.1≠k)=true:=by simp[e]
   have b:¬decide (q.1≠k)=true:=by simp[h1.symm.trans e]
   rw[if_neg a,if_neg b];exact ih
  ·have e':¬q.1=k:=fun z=>e (h1.trans z)
   have a:decide (p.1≠k)=true:=by simp[e]
   have b:decide (q.1≠k)=true:=by simp[e']
   rw[if_pos a,if_pos b];exact .cons ⟨h1,h2⟩ ih
theorem KV.length{kvs:List (κ×V)}{vs:List (κ×Qi)}(r:KV kvs vs):kvs.length=vs.length:=QU r
theorem Cr(kvs:List (κ×V))(k:κ):(rh kvs k).length<=kvs.length:=RU _ _
end
theorem uJ{P:Qy}{w:Qv}{k:Key}{u:Qi}(r:RelV (kV k) u):(bh P w).is k u=true:=by
 cases k with
 |inl i=>obtain⟨t,e⟩:=(show ∃t,u=So i t from r);subst e;exact CW P w i t
 |inr x=>obtain⟨t,e⟩:=(show ∃t,u=Tu x t from r);subst e;exact DK P w x t
theorem Aq{P:Qy}{w:Qv}:∀{ks:List Key}{us:List Qi},cu (ks.map kV) us->ItemsAre (bh P w) ks us
 |[],_,r=>by rw[Tq]at r;cases r;exact .nil
 |k::ks,_,r=>by
  rw[QW]at r
  cases r with
  |cons h t=>exact .cons (uJ h) (Aq t)
abbrev KT(H:Hp):List (List Key×V)->List (List Key×Qh×Qi)->Prop:=QE fun p q=>p.1=q.1/\H q.2.1=some (.tup (p.1.map kV))/\RelV p.2 q.2.2
theorem KT.val{H:Hp}{kvs:List (List Key×V)}{xs:List (List Key×Qh×Qi)}(r:KT H kvs xs)(k:List Key):nN (iu kvs k) ((atKey xs k).map (·.2)):=by
 induction r with
 |nil=>exact SU
 |@cons p q ps qs h t ih=>
  obtain⟨h1,_,h2⟩:=h
  by_cases e:p.1=k
  ·have e':q.1=k:=h1.symm.trans e
   have b:atKey (q::qs) k=some q.2:=by simp[atKey,Ug,e']
   rw[rC e,b];exact h2
  ·have e':¬q.1=k:=fun z=>e (h1.trans z)
   have b:atKey (q::qs) k=atKey qs k:=by simp[atKey,Ug,e']
   rw[oC e,b];exact ih
theorem KT.repl{H:Hp}{kvs:List (List Key×V)}{xs:List (List Key×Qh×Qi)}(r:KT H kvs xs)(k:List Key){y:V}{u:Qi}(ry:RelV y u):
  KT H (kvs.map fun kv=>if kv.1=k then(kv.1,y)else kv) (xs.map (putAt k u)):=by
 induction r with
 |nil=>exact .nil
 |@cons p q ps qs h t ih=>
  rw[QW,QW]
  refine .cons ?_ ih
  obtain⟨h1,h2,h3⟩:=h
  unfold putAt
  by_cases e:p.1=k
  ·rw[if_pos e,if_pos (h1.symm.trans e)];exact⟨h1,h2,ry⟩
  ·rw[if_neg e,if_neg (fun z=>e (h1.trans z))];exact⟨h1,h2,h3⟩
theorem KT.put{H:Hp}{kvs:List (List Key×V)}{xs:List (List Key×Qh×Qi)}(r:KT H kvs xs)(k:List Key){b:Qh}{y:V}{u:Qi}(hb:H b=some (.tup (k.map kV)))(ry:RelV y u):
  KT H (putK kvs k y) (storedH xs k b u):=by
 have e:(kvs.any fun kv=>decide (kv.1=k))=(atKey xs k).isSome:=by
  rw[xy,(r.val k).isSome_eq,WC]
 unfold putK storedH
 rw[e]
 by_cases q:(atKey xs k).isSome=true
 ·rw[if_pos q,if_pos q];exact r.repl k ry
 ·rw[if_neg q,if_neg q];exact Xf r ⟨rfl,hb,ry⟩
theorem KT.keeps{H H':Hp}{kvs:List (List Key×V)}{xs:List (List Key×Qh×Qi)}(r:KT H kvs xs)(ht:∀b ys,H b=some (.tup ys)->H' b=some (.tup ys)):KT H' kvs xs:=
 Paired.mapP r fun _ _ z=>⟨z.1,ht _ _ z.2.1,z.2.2⟩
section
variable {P:Qy}{w:Qv}{H:Hp}{h:Qq}{a:Qh}
theorem Md{u:HO}(ok:pB P w H h)(e:Rd H a u):de P w H h a u:=e.ok ok
theorem fZ{kvs:List (Key×V)}(ok:pB P w H h)(e:Rd H a (.dK kvs)):kvs.length<=Qr/\(a==R3)=false/\∃vs,KV kvs vs/\h.DictOf (bh P w) a vs:=
 show de P w H h a (.dK kvs)from Md ok e
theorem Jw{kvs:List (Key×V)}(ok:pB P w H h)(e:H a=some (.dK kvs)):kvs.length<=Qr/\(a==R3)=false/\∃vs,KV kvs vs/\h.DictOf (bh P w) a vs:=fZ ok (.inl e)
theorem vL{ks:List Key}(ok:pB P w H h)(e:H a=some (.tup (ks.map kV))):(tupleKind (bh P w)).is h ks a:=by
 obtain⟨_,its,r,o,h1,h2,n,h3⟩:=(show de P w H h a (.tup (ks.map kV))from ok a _ e)
 exact⟨o,its.toArray,n,h1,h2,h3,by simpa using Aq r⟩
theorem zZ{kvs:List (List Key×V)}(ok:pB P w H h)(e:Rd H a (.dT kvs)):kvs.length<=Qr/\(a==R3)=false/\
  ∃xs,KT H kvs xs/\h.DictOfH (tupleKind (bh P w)) a xs:=by
 obtain⟨z,y,xs,r,o,es,ep,h1,h2,h3,h4,h5⟩:=(show de P w H h a (.dT kvs)from Md ok e)
 refine⟨z,y,xs,r,o,es,ep,h1,h2,h3,h4,fun x hx=>?_,h5⟩
 have all:∀{l:List (List Key×V)}{m:List (List Key×Qh×Qi)},KT H l m->∀x∈m,(tupleKind (bh P w)).is h x.1 x.2.1:=by
  intro l m q
  induction q with
  |nil=>intro x hx;exact nomatch hx
  |@cons p q ps qs hq t ih=>
   intro x hx
   rcases QI.mp hx with e|hx
   ·subst e
    exact vL ok (by rw[<-hq.1];exact hq.2.1)
   ·exact ih x hx
 exact all r x hx
theorem Om{kvs:List (List Key×V)}(ok:pB P w H h)(e:H a=some (.dT kvs)):kvs.length<=Qr/\(a==R3)=false/\
  ∃xs,KT H kvs xs/\h.DictOfH (tupleKind (bh P w)) a xs:=zZ ok (.inl e)
end
def qN(H:Hp)(a:Qh)(y:V)(r:Option V):Prop:=
 (∃kvs k,Rd H a (.dK kvs)/\y=kV k/\r=iu kvs k)\/∃kvs k b,Rd H a (.dT kvs)/\y=.ref b/\H b=some (.tup (k.map kV))/\r=iu kvs k
noncomputable def Gv(H:Hp)(a:Qh)(y v:V)(H':Hp):Prop:=
 (∃kvs k,H a=some (.dK kvs)/\y=kV k/\kvs.length<Qr/\H'=upd H a (.dK (putK kvs k v)))\/
 ∃kvs k b,H a=some (.dT kvs)/\y=.ref b/\H b=some (.tup (k.map kV))/\kvs.length<Qr/\H'=upd H a (.dT (putK kvs k v))
theorem qN.k{H:Hp}{a:Qh}{kvs:List (Key×V)}{k:Key}(e:H a=some (.dK kvs)):qN H a (kV k) (iu kvs k):=.inl ⟨kvs,k,.inl e,rfl,rfl⟩
theorem Gv.k{H:Hp}{a:Qh}{kvs:List (Key×V)}{k:Key}{v:V}(e:H a=some (.dK kvs))(hl:kvs.length<Qr):Gv H a (kV k) v (upd H a (.dK (putK kvs k v))):=.inl ⟨kvs,k,e,rfl,hl,rfl⟩
section
variable {X:Cx}{pins:List (Qh×Qo)}{σ:St}{H:Hp}{s:Qk}{a:Qh}{y v:V}{u r:Qi}{o:Option V}{A:QF}{E:Qi->Qk->Prop}
theorem Inv.big(I:Inv X pins σ H s):R3<s.heap.objs.size:=by
 have h:Q6<s.heap.objs.size:=(I.mod.glob.keeps I.bk).lt
 exact Vl (by decide) h
theorem Hk{Q:Qi->Qk->Prop}(hu:A.units+1<cLine)(I:Inv X pins σ H s)(g:qN H a y (some v))(ry:RelV y u)(h:∀w' s',Inv X pins σ H s'->RelV v w'->Q w' s'):
  Ql (model X.prog X.w) A (getItem (.ref a) u) Q E s:=by
 rcases g with⟨kvs,k,e,ey,l⟩|⟨kvs,k,b,e,ey,eb,l⟩
 ·subst ey
  obtain⟨z,hd,vs,rel,dd⟩:=fZ I.hok e
  obtain⟨w',hw,rw'⟩:=nN.some_of (v:=v) (o:=valueAt vs k) (by rw[l];exact rel.val k)
  exact wpAny_getItem_of (uJ ry) dd.mapOf hw (h w' _ (I.tok _) rw')
 ·subst ey
  cases(show u=QL b from ry)
  obtain⟨z,hd,xs,rel,dd⟩:=zZ I.hok e
  obtain⟨w',hw,rw'⟩:=nN.some_of (v:=v) (o:=(atKey xs k).map (·.2)) (by rw[l];exact rel.val k)
  obtain⟨p,hp,hp2⟩:=Option.map_eq_some_iff.mp hw
  refine wpAny_getItem_heap (U2 hu) (vL I.hok eb) dd hp ?_
  rw[hp2]
  exact h w' _ (I.tok _) rw'
theorem P5{Q:Qi->Qk->Prop}(hu:A.units+1<cLine)(I:Inv X pins σ H s)(g:qN H a y o)(ry:RelV y u)(h:∀s',Inv X pins σ H s'->Q (.bool o.isSome) s'):
  Ql (model X.prog X.w) A (Rc .In u (.ref a)) Q E s:=by
 rcases g with⟨kvs,k,e,ey,l⟩|⟨kvs,k,b,e,ey,eb,l⟩
 ·subst ey
  obtain⟨z,hd,vs,rel,dd⟩:=fZ I.hok e
  refine wpAny_in_of (uJ ry) hd dd.mapOf ?_
  rw[<-(rel.val k).isSome_eq,<-l]
  exact h _ (I.tok _)
 ·subst ey
  cases(show u=QL b from ry)
  obtain⟨z,hd,xs,rel,dd⟩:=zZ I.hok e
  refine wpAny_in_heap (U2 hu) (vL I.hok eb) hd dd ?_
  have q:=(rel.val k).isSome_eq
  rw[WC]at q
  rw[<-q,<-l]
  exact h _ (I.tok _)
theorem LQ{Q:Qi->Qk->Prop}(hu:A.units+1<cLine)(I:Inv X pins σ H s)(g:qN H a y o)(ry:RelV y u)(h:∀s',Inv X pins σ H s'->Q (.bool (!o.isSome)) s'):
  Ql (model X.prog X.w) A (Rc .NotIn u (.ref a)) Q E s:=by
 rcases g with⟨kvs,k,e,ey,l⟩|⟨kvs,k,b,e,ey,eb,l⟩
 ·subst ey
  obtain⟨z,hd,vs,rel,dd⟩:=fZ I.hok e
  refine wpAny_notIn_of (uJ ry) hd dd.mapOf ?_
  rw[<-(rel.val k).isSome_eq,<-l]
  exact h _ (I.tok _)
 ·subst ey
  cases(show u=QL b from ry)
  obtain⟨z,hd,xs,rel,dd⟩:=zZ I.hok e
  refine wpAny_notIn_heap (U2 hu) (vL I.hok eb) hd dd ?_
  have q:=(rel.val k).isSome_eq
  rw[WC]at q
  rw[<-q,<-l]
  exact h _ (I.tok _)
theorem vw{h':Qq}{t':Nat}{ob:HO}(I:Inv X pins σ H s)(mu:Oq (H a))(hs:Sh a s.heap h')(he:∃q,h'.get? a=some q)(new:de X.prog X.w (upd H a ob) h' a ob):
  Inv X pins σ (upd H a ob) {s with heap:=h',toks:=t'}:=
 I.write (x:=a) (e:=a) mu (.inl rfl) (fun b q hb z=>(hs.2 b hb).trans z) he new
theorem wU{P:Qy}{w:Qv}{H':Hp}{h':Qq}{kvs:List (Key×V)}{vs:List (Key×Qi)}(z:kvs.length<=Qr)(hd:(a==R3)=false)(rel:KV kvs vs)(dd:h'.DictOf (bh P w) a vs):
  de P w H' h' a (.dK kvs):=⟨z,hd,vs,rel,dd⟩
theorem Gs{H':Hp}{Q:Unit->Qk->Prop}(hu:A.units+1<cLine)(I:Inv X pins σ H s)(g:Gv H a y v H')(ry:RelV y u)(rv:RelV v r)(h:∀s',Inv X pins σ H' s'->Q () s'):
  Ql (model X.prog X.w) A (setItem (.ref a) u r) Q E s:=by
 rcases g with⟨kvs,k,e,ey,l,eH⟩|⟨kvs,k,b,e,ey,eb,l,eH⟩
 ·subst ey eH
  obtain⟨z,hd,vs,rel,dd⟩:=Jw I.hok e
  have hz:vs.length<=Qr:=by rw[<-rel.length];exact z
  have hl:(putK kvs k v).length<=Qr:=by have:=uu kvs k v;omega
  refine wpAny_setItem_pairs (hsz:=hz) (uJ ry) dd fun h' dd' hs=>h _ ?_
  have he:∃q,h'.get? a=some q:=let ⟨q,_,_,hq,_⟩:=dd';⟨q,hq⟩
  exact vw I (by rw[e];exact SU) hs he (wU hl hd (rel.put k rv) dd')
 ·subst ey eH
  cases(show u=QL b from ry)
  obtain⟨z,hd,xs,rel,dd⟩:=Om I.hok e
  have hz:xs.length<=Qr:=by rw[<-QU rel];exact z
  have hl:(putK kvs k v).length<=Qr:=by have:=uu kvs k v;omega
  refine wpAny_setItem_heap (hsz:=hz) (U2 hu) (vL I.hok eb) dd fun h' dd' hs=>h _ ?_
  obtain⟨q,es,ep,hq,h2,h3,h4,_,h5⟩:=dd'
  refine vw I (by rw[e];exact SU) hs ⟨q,hq⟩ ⟨hl,hd,_,(rel.put k eb rv).keeps fun c ys ec=>?_,q,es,ep,hq,h2,h3,h4,h5⟩
  rw[ax (Of ec e (fun z=>nomatch z))]
  exact ec
end
section
variable {X:Cx}{pins:List (Qh×Qo)}{σ:St}{H:Hp}{s:Qk}{a:Qh}{kvs:List (Key×V)}{k:Key}{u:Qi}{A:QF}{E:Qi->Qk->Prop}
theorem NZ{Q:Unit->Qk->Prop}(I:Inv X pins σ H s)(e:H a=some (.dK kvs))(ry:RelV (kV k) u)(l:(iu kvs k).isSome=true)(h:∀s',Inv X pins σ (upd H a (.dK (rh kvs k))) s'->Q () s'):
  Ql (model X.prog X.w) A (delItem (.ref a) u) Q E s:=by
 obtain⟨z,hd,vs,rel,dd⟩:=Jw I.hok e
 refine wpAny_delItem_slot dd.typeIs (by decide) Ye
  (TN Ye dd.typeIs aaK (aaY _ _) (meets_dict_delitem_pairs (bh X.prog X.w) a (uJ ry)) ⟨vs,dd,by rw[<-rel.length];exact z,by rw[<-(rel.val k).isSome_eq];exact l,fun h' dd' hs=>h _ ?_⟩)
 have he:∃q,h'.get? a=some q:=let ⟨q,_,_,hq,_⟩:=dd';⟨q,hq⟩
 exact vw I (by rw[e];exact SU) hs he (wU (Qt (Cr kvs k) z) hd (rel.drop k) dd')
theorem Oi{v:V}{more:List Qi}{Q:Qi->Qk->Prop}(I:Inv X pins σ H s)(e:H a=some (.dK kvs))(ry:RelV (kV k) u)(l:iu kvs k=some v)(hm:more=[]\/∃x,more=[x])
  (h:∀w' s',Inv X pins σ (upd H a (.dK (rh kvs k))) s'->RelV v w'->Q w' s'):Ql (model X.prog X.w) A (call (.builtin "dict.pop") (.ref a::u::more)) Q E s:=by
 obtain⟨z,hd,vs,rel,dd⟩:=Jw I.hok e
 obtain⟨w',hw,rw'⟩:=nN.some_of (v:=v) (o:=valueAt vs k) (by rw[<-l];exact rel.val k)
 have hp:(keyPart u).isSome=true:=by
  cases k with
  |inl i=>obtain⟨t,q⟩:=(show ∃t,u=So i t from ry);subst q;rfl
  |inr x=>obtain⟨t,q⟩:=(show ∃t,u=Tu x t from ry);subst q;rfl
 have ha:argsOk "dict.pop" ⟨.ref a::u::more,[]⟩:=by
  rcases hm with q|⟨x,q⟩
  ·subst q;exact Z0 _ _
  ·subst q;exact aaD _ _ _
 refine TN XE dd.typeIs Z3 ha (meets_dict_pop_there (bh X.prog X.w) a (uJ ry) more hm hp)
  ⟨vs,w',dd,by rw[<-rel.length];exact z,hw,fun h' dd' hs=>h w' _ ?_ rw'⟩
 have he:∃q,h'.get? a=some q:=let ⟨q,_,_,hq,_⟩:=dd';⟨q,hq⟩
 exact vw I (by rw[e];exact SU) hs he (wU (Qt (Cr kvs k) z) hd (rel.drop k) dd')
theorem O0{Q:Qi->Qk->Prop}(I:Inv X pins σ H s)(e:Rd H a (.dK kvs))(h:∀t s',Inv X pins σ H s'->Q (.int kvs.length t) s'):Ql (model X.prog X.w) A (call (.builtin "len") [.ref a]) Q E s:=by
 obtain⟨z,hd,vs,rel,dd⟩:=fZ I.hok e
 refine call_len_dict hd dd (by rw[<-rel.length];rw[sizeLine_eq]at z;omega) ?_
 rw[<-rel.length]
 exact h _ _ (I.tok _)
theorem K2{Q:Bool->Qk->Prop}(I:Inv X pins σ H s)(e:Rd H a (.dK kvs))(h:∀s',Inv X pins σ H s'->Q (!kvs.isEmpty) s'):Ql (model X.prog X.w) A (truthy (.ref a)) Q E s:=by
 obtain⟨z,hd,vs,rel,dd⟩:=fZ I.hok e
 refine wpAny_truthy_dict hd dd (by rw[<-rel.length];rw[sizeLine_eq]at z;omega) ?_
 have q:kvs.isEmpty=vs.isEmpty:=by cases rel<;>rfl
 rw[<-q]
 exact h _ (I.tok _)
end
def N8(i:Qp):Prop:=∀ov iv,subscripted i false ov iv=operate [ov,iv] (getItem ov iv)
theorem LB{prog:Qy}{w:Qv}{A:QF}{E:Qi->Qk->Prop}{s:Qk}{env:QP}{value slice:Qp}{pos:QH}{T id:String}{Q:Qi->Qk->Prop}
  (hl:UJ (.type T) "__getitem__"=pure (some (.builtin id))) (hs:N8 slice)
  (h:Ql (model prog w) A (eval value env) (fun o s₁=>Ql (model prog w) A (eval slice env) (fun i s₂=>s₂.TypeIs o T/\Ql (model prog w) A (getItem o i) Q E s₂) E s₁) E s):
  Ql (model prog w) A (eval (.Subscript value slice pos) env) Q E s:=by
 refine Subscript_ (Rl h (fun o s₁ h₁=>Rl h₁ (fun i s₂ h₂=>?_) fun _ _ x=>x) fun _ _ x=>x)
 obtain⟨hT,h₂⟩:=h₂
 unfold subscriptTail
 refine Qm ?_
 rw[getitemInPython_of_ne hT.not_modules]
 refine Qm (wpAny_specialOf hT hl ?_)
 have fin:Ql (model prog w) A (subscripted slice false o i) (fun r s₃=>Ql (model prog w) A (letTemporaryGo value o r >>= fun _=>pure r) Q E s₃) E s₂:=by
  rw[hs o i]
  exact wpAny_operating (Rl h₂ (fun r s₃ h₃=>Qm (wpAny_letTemporaryGo (QG h₃))) fun _ _ x=>x)
 first
  |exact QG (Qm fin)
  |exact Qm (QG (Qm fin))
  |exact Qm fin
theorem Ck{X:Cx}{pins:List (Qh×Qo)}{σ:St}{H:Hp}{s:Qk}{a:Qh}{y:V}{o:Option V}(I:Inv X pins σ H s)(g:qN H a y o):s.TypeIs (.ref a) "dict":=by
 rcases g with⟨kvs,k,e,_,_⟩|⟨kvs,k,b,e,_,_,_⟩
 ·obtain⟨_,_,vs,_,dd⟩:=fZ I.hok e
  exact dd.typeIs
 ·obtain⟨_,_,xs,_,dd⟩:=zZ I.hok e
  exact dd.typeIs
def Gn(td ty:TE):TE:=fun σ H Q=>td σ H fun x H1=>ty σ H1 fun y H2=>∃a v,x=.ref a/\qN H2 a y (some v)/\Q v H2
def MK(ty td:TE):TE:=fun σ H Q=>ty σ H fun y H1=>td σ H1 fun x H2=>∃a o,x=.ref a/\qN H2 a y o/\Q (.bl o.isSome) H2
def vA(ty td:TE):TE:=fun σ H Q=>ty σ H fun y H1=>td σ H1 fun x H2=>∃a o,x=.ref a/\qN H2 a y o/\Q (.bl (!o.isSome)) H2
def F0(td ty tv:TE):TS:=fun D σ H=>tv σ H fun v H1=>td σ H1 fun x H2=>ty σ H2 fun y H3=>∃a H4,x=.ref a/\Gv H3 a y v H4/\D.nx σ H4
section
variable {X:Cx}{o i e value:Qp}{pos pos' tpos:QH}{td ty tv:TE}
theorem FA(hu:X.A.units+1<cLine)(ho:PE X o td)(hi:PE X i ty)(hs:N8 i):PE X (.Subscript o i pos) (Gn td ty):=by
 intro pins s σ H Q I h
 refine LB Zz.lookup hs (cX (ho pins s σ H _ I h) fun u s1 ⟨x,H1,I1,rx,q1⟩=>cX (hi pins s1 σ H1 _ I1 q1) fun iv s2 ⟨y,H2,I2,ry,a,v,ex,g,q2⟩=>?_)
 subst ex
 obtain rfl:u=QL a:=rx
 exact⟨Ck I2 g,Hk hu I2 g ry fun w' s3 I3 rw'=>⟨v,H2,I3,rw',q2⟩⟩
theorem Mz(hu:X.A.units+1<cLine)(hi:PE X i ty)(ho:PE X o td):PC X .In i o (MK ty td):=by
 intro pins s σ H Q I h
 refine cX (hi pins s σ H _ I h) fun iv s1 ⟨y,H1,I1,ry,q1⟩=>cX (ho pins s1 σ H1 _ I1 q1) fun u s2 ⟨x,H2,I2,rx,a,ov,ex,g,q2⟩=>?_
 subst ex
 obtain rfl:u=QL a:=rx
 exact P5 hu I2 g ry fun s3 I3=>⟨.bl ov.isSome,H2,I3,rfl,q2⟩
theorem zS(hu:X.A.units+1<cLine)(hi:PE X i ty)(ho:PE X o td):PC X .NotIn i o (vA ty td):=by
 intro pins s σ H Q I h
 refine cX (hi pins s σ H _ I h) fun iv s1 ⟨y,H1,I1,ry,q1⟩=>cX (ho pins s1 σ H1 _ I1 q1) fun u s2 ⟨x,H2,I2,rx,a,ov,ex,g,q2⟩=>?_
 subst ex
 obtain rfl:u=QL a:=rx
 exact LQ hu I2 g ry fun s3 I3=>⟨.bl (!ov.isSome),H2,I3,rfl,q2⟩
theorem Fz(hu:X.A.units+1<cLine)(ho:PE X o td)(hi:PE X i ty)(hv:PE X value tv)(hs:swapsWith value (some (.Subscript o i pos')) pos.line X.env=pure false):
  PS X (.Assign [.Subscript o i pos'] value pos) (F0 td ty tv):=by
 intro pins s σ H D I h
 refine wpAny_Assign_Subscript (cX (hv pins s σ H _ I h) fun r s1 ⟨v,H1,I1,rv,q1⟩=>cX (ho pins s1 σ H1 _ I1 q1) fun u s2 ⟨x,H2,I2,rx,q2⟩=>cX (hi pins s2 σ H2 _ I2 q2) fun iv s3 ⟨y,H3,I3,ry,a,H4,ex,g,q3⟩=>?_) hs
 subst ex
 obtain rfl:u=QL a:=rx
 exact Gs hu I3 g ry rv fun s4 I4=>⟨σ,H4,I4,q3⟩
end
theorem IC{P:Qy}{w:Qv}{H:Hp}(h:Qq)(hb:R3<h.objs.size):de P w H (h.push {cls:=.type "dict",data:=.dict #[]}) h.objs.size (.dK []):=
 ⟨Rm _,beq_eq_false_iff_ne.mpr (QT (QV hb)),[],.nil,WE h⟩
def Bw:TE:=fun _ H Q=>∀p,H p=none->Q (.ref p) (upd H p (.dK []))
section
variable {X:Cx}{pos:QH}
theorem CC:PE X (.Dict [] [] pos) Bw:=fun pins s σ H Q I h=>
 wpAny_Dict_empty ⟨.ref s.heap.objs.size,_,I.laid (a:=s.heap.objs.size) (o:=.dK []) (t':=s.toks) (fun _ _ q=>QS _ q) (QC _) (IC s.heap I.big),rfl,h _ (I.hok.fresh (QC _))⟩
end
structure M1(X:Cx)(o:Qp)(m:Qg)(apos:QH)(e:Qp)(cpos:QH):Prop where
 base:Tp o m X.env (eval o X.env)=eval o X.env
 few:((Q1 cpos (Qx [e] X.env)).all (fun x=>!x.1)&&(Sg cpos (Sf [] X.env)).all (fun x=>x.1.isSome)
  && decide (([e]:List Qp).length+([]:List Keyword).length+(if([]:List Keyword).isEmpty then 0 else 1)<30))=true
 line:(apos.endLine==cpos.line)=true
 trees:Q1 cpos (Qx [e] X.env)=[(false,eval e X.env)]
def P0(H:Hp)(a:Qh):Prop:=(∃kvs,Rd H a (.dK kvs))\/∃kvs,Rd H a (.dT kvs)
theorem Nw{X:Cx}{pins:List (Qh×Qo)}{σ:St}{H:Hp}{s:Qk}{a:Qh}(I:Inv X pins σ H s)(d:P0 H a):
  s.TypeIs (.ref a) "dict"/\(∀b,QL a=.ref b->∃ob,s.heap.get? b=some ob/\ob.dict=none)/\(a==R3)=false:=by
 rcases d with⟨kvs,e⟩|⟨kvs,e⟩
 ·obtain⟨_,hd,vs,_,dd⟩:=fZ I.hok e
  refine⟨dd.typeIs,fun b q=>?_,hd⟩
  cases q
  obtain⟨ob,_,_,h1,h2,_⟩:=dd
  exact⟨ob,h1,h2.2.1⟩
 ·obtain⟨_,hd,xs,_,dd⟩:=zZ I.hok e
  refine⟨dd.typeIs,fun b q=>?_,hd⟩
  cases q
  obtain⟨ob,_,_,h1,h2,_⟩:=dd
  exact⟨ob,h1,h2.2.1⟩
section
variable {X:Cx}{pins:List (Qh×Qo)}{σ:St}{H:Hp}{s:Qk}{a:Qh}{y d:V}{u r:Qi}{o:Option V}{A:QF}{E:Qi->Qk->Prop}
end
def AE(td ty:TE):TE:=fun σ H Q=>td σ H fun x H1=>∃a,x=.ref a/\P0 H1 a/\ty σ H1 fun y H2=>∃kvs k v,H2 a=some (.dK kvs)/\y=kV k/\iu kvs k=some v/\Q v (upd H2 a (.dK (rh kvs k)))
section
variable {X:Cx}{o e f:Qp}{apos cpos:QH}{td ty tx:TE}
theorem Cb(ho:PE X o td)(he:PE X e ty)(m:M1 X o "pop" apos e cpos):PE X (.Call (.Attribute o "pop" apos) [e] [] cpos) (AE td ty):=by
 intro pins s σ H Q I h
 refine wpAny_Call_method m.base m.few m.line US XE ZR (cX (ho pins s σ H _ I h) fun u s1 ⟨x,H1,I1,rx,a,ex,d,q1⟩=>?_)
 subst ex
 obtain rfl:u=QL a:=rx
 obtain⟨t1,t2,_⟩:=Nw I1 d
 exists t1,t2
 rw[m.trees]
 refine Ut rfl (VU (VP (cX (he pins s1 σ H1 _ I1 q1) fun iv s2 ⟨y,H2,I2,ry,kvs,k,v,ea,ey,l,q2⟩=>V9 ?_)))
 subst ey
 exact Oi I2 ea ry l (.inl rfl) fun w' s3 I3 rw'=>⟨v,_,I3,rw',q2⟩
end
section
variable {X:Cx}{pins:List (Qh×Qo)}{σ:St}{H:Hp}{s:Qk}{a:Qh}{kvs:List (Key×V)}{A:QF}{E:Qi->Qk->Prop}
end
section
variable {X:Cx}{pins:List (Qh×Qo)}{σ:St}{H:Hp}{s:Qk}{a:Qh}{y:V}{u:Qi}{A:QF}{E:Qi->Qk->Prop}
end
section
variable {X:Cx}
theorem HA:d4 X (.builtin "len") (fun xs H Q=>∃a kvs,xs=[V.ref a]/\H a=some (.dK kvs)/\Q (.int kvs.length) H):=by
 intro pins s σ H xs us Q I r h
 obtain⟨a,kvs,rfl,ha,q⟩:=h
 obtain⟨u,rfl,ru⟩:=vals1 r
 cases ru
 exact O0 I (.inl ha) fun t s' I'=>⟨.int kvs.length,H,I',⟨t,rfl⟩,q⟩
end
section
variable {κ:Type} [DecidableEq κ]
end
end L2
namespace L2
open PySem PySem.Spec PyProof.Rows PySem.W
section
variable {X:Cx}{pins:List (Qh×Qo)}{σ:List (Option V)}{H H':Hp}{s:Qk}{h':Qq}
theorem Inv.many{t':Nat}(I:Inv X pins σ H s)(k:∀b u,s.heap.get? b=some u->h'.get? b=some u)(sub:∀b o,H b=some o->H' b=some o)(new:∀b o,H' b=some o->H b=some o\/(s.heap.objs.size<=b/\de X.prog X.w H' h' b o)):
  Inv X pins σ H' {s with heap:=h',toks:=t'}:=by
 refine I.un (t':=t') ⟨fun b o q _ _ _=>k b o q,fun b o q _ _ _=>⟨o.slots,k b o q⟩,fun b o q n _=>?_,fun b o q _=>⟨o,k b o q⟩,fun b xs q=>sub b _ q,fun b o u q=>sub b _ q,fun b ps q=>⟨#[],by simpa using sub b _ q⟩⟩ fun b o e=>?_
 ·cases e:H' b with
  |none=>rfl
  |some u=>
   rcases new b u e with z|⟨z,_⟩
   ·rw[n]at z;cases z
   ·exact absurd (QJ q) (Nat.not_lt.mpr z)
 ·rcases new b o e with z|⟨_,z⟩
  ·exact(I.hok b o z).stay (fun c u _ q=>k c u q) (fun c q=>sub c _ q) fun c xs q=>sub c _ q
  ·exact z
def nO(v d:Qh):HO:=.ext fun h=>h.IsItemsView v d
def EA:V->List V->Hp->VK->Prop:=fun x vs H Q=>∃(d:Qh)(kvs:List (Key×V)),x=.ref d/\vs=[]/\H d=some (.dK kvs)/\∀v,H v=none->Q (.ref v) (upd H v (nO v d))
theorem JD:Po X "dict.items" EA:=by
 intro pins s σ H x xs v us Q I rx r h
 obtain⟨d,kvs,rfl,rfl,e,q⟩:=h
 cases r
 cases(show v=QL d from rx)
 obtain⟨z,hd,vs,rel,dd⟩:=fZ I.hok (.inl e)
 refine TN Vg dd.typeIs Xs (WZ _) (meets_dict_items (bh X.prog X.w) d hd) ⟨⟨vs,dd⟩,?_⟩
 refine⟨.ref s.heap.objs.size,upd H s.heap.objs.size (nO s.heap.objs.size d),I.laid (t':=s.toks) (fun b u e=>QS _ e) (QC _) ⟨⟨_,QX _ rfl,rfl,rfl⟩,⟨_,QX _ rfl⟩,fun h1 h2 x k=>?_⟩,rfl,q _ (I.hok.fresh (QC _))⟩
 obtain⟨o,ho,r⟩:=x
 exact⟨o,k o ho,r⟩
noncomputable def Ks:List V->Hp->VK->Prop:=fun xs H Q=>∃(v d:Qh)(kvs:List (Key×V)),xs=[.ref v]/\H v=some (nO v d)/\H d=some (.dK kvs)/\
 ∀(l:Qh)(ts:List Qh)(H':Hp),H l=none->ar H H'->H' l=some (.lst (ts.map V.ref))->QE (fun (p:Key×V) t=>H t=none/\t≠l/\H' t=some (.tup [kV p.1,p.2])) kvs ts->Q (.ref l) H'
theorem sP{k:Key}{u:Qi}{prog:Qy}{w:Qv}(h:(bh prog w).is k u=true):RelV (kV k) u:=by
 rcases da (show wj k u=true from h)with⟨i,t,rfl,rfl⟩|⟨x,t,rfl,rfl⟩
 ·exact⟨t,rfl⟩
 ·exact⟨t,rfl⟩
theorem mr{κ:Type}:∀{kvs:List (κ×V)}{vs:List (κ×Qi)},KV kvs vs->∀(i:Nat)(p:κ×Qi),vs[i]?=some p->∃q,kvs[i]?=some q/\q.1=p.1/\RelV q.2 p.2
 |_,_,.nil,i,p,h=>by simp at h
 |q::_,_,.cons hq _,0,p,h=>by
  simp at h
  subst h
  exact⟨q,rfl,hq.1,hq.2⟩
 |_,_,.cons _ t,i+1,p,h=>by
  obtain⟨q,h1,h2⟩:=mr t i p (by simpa using h)
  exact⟨q,by simpa using h1,h2⟩
def nW(H:Hp)(kvs:List (Key×V))(as:List Qh):Hp:=fun b=>match as.findIdx? (·==b)with
 |some i=>(kvs[i]?).map fun q=>.tup [kV q.1,q.2]
 |none=>H b
theorem HL{H:Hp}{kvs:List (Key×V)}{as:List Qh}(nd:as.Pairwise (· < ·)){i:Nat}{a:Qh}(h:as[i]?=some a):nW H kvs as a=(kvs[i]?).map fun q=>.tup [kV q.1,q.2]:=by
 unfold nW
 obtain⟨hi,e⟩:=Q0.mp h
 have:as.findIdx? (·==a)=some i:=by
  rw[List.findIdx?_eq_some_iff_getElem]
  refine⟨hi,by simpa using e,fun j hj=>?_⟩
  have:=TU.mp nd j i (by omega) hi hj
  rw[e]at this
  have:as[j]≠a:=QV this
  simpa using this
 rw[this]
theorem xK{H:Hp}{kvs:List (Key×V)}{as:List Qh}{b:Qh}(h:b∉as):nW H kvs as b=H b:=by
 unfold nW
 have:as.findIdx? (·==b)=none:=by
  rw[List.findIdx?_eq_none_iff]
  intro x hx
  have:x≠b:=fun z=>h (z▸hx)
  simpa using this
 rw[this]
theorem Fi(hc:X.calm=true):d4 X (.type "list") Ks:=by
 intro pins s σ H xs us Q I r h
 obtain⟨v,d,kvs,rfl,hv,hd,q⟩:=h
 obtain⟨u,rfl,ru⟩:=vals1 r
 cases ru
 obtain⟨z,hdS,vs,rel,dd⟩:=fZ I.hok (.inl hd)
 obtain⟨ep,hat⟩:=dd.dictAt
 have hvw:s.heap.IsItemsView v d:=(show de X.prog X.w H s.heap v (nO v d)from I.hok v _ hv).1
 have hlen:kvs.length=vs.length:=QU rel
 refine kdx_call (knd:=bh X.prog X.w) (I.ok.hd hc) hvw hat (by rw[<-hlen];exact z) fun h' tk acc c as hk hS hl G hacc=>?_
 have hfr:∀a∈as,s.heap.objs.size<a:=G.above
 let l:=s.heap.objs.size
 let Hp2:Hp:=upd (nW H kvs as) l (.lst (as.map V.ref))
 have hla:l∉as:=fun z=>RQ _ (hfr l z)
 have hsub:∀b o,H b=some o->Hp2 b=some o:=fun b o e=>by
  have hb:b<s.heap.objs.size:=I.hok.lt e
  show upd (nW H kvs as) l _ b=_
  rw[ax (QV hb),xK fun z=>Wi hb (hfr b z)]
  exact e
 have hpair:∀(j:Nat)(a:Qh),as[j]?=some a->∃p,kvs[j]?=some p/\Hp2 a=some (.tup [kV p.1,p.2])/\∃key x,h'.get? a=some {cls:=.type "tuple",data:=.seq #[key,x]}/\RelV (kV p.1) key/\RelV p.2 x:=fun j a e=>by
  obtain⟨key,k,x,e1,e2,e3⟩:=G.pairs j a e
  obtain⟨p,p1,p2,p3⟩:=mr rel j (k,x) e1
  refine⟨p,p1,?_,key,x,e3,by rw[p2];exact sP e2,p3⟩
  show upd (nW H kvs as) l _ a=_
  rw[ax (fun z=>hla (by rw[<-z];exact SH e)),HL G.rise e,p1]
  rfl
 have I2:Inv X pins σ Hp2 {s with heap:=h',toks:=tk}:=by
  refine I.many (t':=tk) hk hsub fun b o e=>?_
  by_cases hb:b=l
  ·subst hb
   have e':some (HO.lst (as.map V.ref))=some o:=by rw[<-e];exact ay.symm
   cases e'
   refine .inr ⟨QC _,?_,as.map QL,c,?_,?_⟩
   ·rw[Qw,hl,<-hlen];exact z
   ·clear hpair e hsub hla hfr G hacc hl
    induction as with
    |nil=>exact .nil
    |cons a as ih=>exact .cons rfl ih
   ·have e1:(as.map QL).toArray=acc:=by rw[<-hacc]
    rw[e1];exact hS
  ·by_cases hba:b∈as
   ·obtain⟨j,hj,ej⟩:=SX hba
    obtain⟨p,p1,p2,key,x,p3,p4,p5⟩:=hpair j b (by rw[Qz hj,ej])
    rw[p2]at e
    cases e
    exact .inr ⟨SA (hfr b hba),by show 2<=Qr;decide,[key,x],.cons p4 (.cons p5 .nil),⟨_,p3,rfl,_,rfl⟩⟩
   ·refine .inl ?_
    have e':upd (nW H kvs as) l (.lst (as.map V.ref)) b=some o:=e
    rw[ax hb,xK hba]at e'
    exact e'
 refine⟨.ref l,Hp2,I2,rfl,q l as Hp2 (I.hok.fresh (QC _)) hsub ay ?_⟩
 have hl':as.length=kvs.length:=by rw[hl,hlen]
 have go:∀(ks:List (Key×V))(bs:List Qh),bs.length=ks.length->(∀(j:Nat)(a:Qh),bs[j]?=some a->∃p,ks[j]?=some p/\H a=none/\a≠l/\Hp2 a=some (.tup [kV p.1,p.2]))->QE (fun (p:Key×V) t=>H t=none/\t≠l/\Hp2 t=some (.tup [kV p.1,p.2])) ks bs:=by
  intro ks
  induction ks with
  |nil=>intro bs hb _;rw[List.eq_nil_of_length_eq_zero hb];exact .nil
  |cons p ks ih=>
   intro bs hb hj
   cases bs with
   |nil=>simp at hb
   |cons a bs=>
    obtain⟨p',e1,e2⟩:=hj 0 a rfl
    simp at e1
    subst e1
    exact .cons e2 (ih bs (by simpa using hb) fun j a e=>by simpa using hj (j+1) a (by simpa using e))
 refine go kvs as hl' fun j a e=>?_
 obtain⟨p,p1,p2,_⟩:=hpair j a e
 have hm:=SH e
 exact⟨p,p1,I.hok.fresh (SA (hfr a hm)),fun z=>hla (z▸hm),p2⟩
end
theorem oN:UJ (.type "list") "keys"=pure none:=by rw[VW,builtinLookup_eq_fast];kernel_rfl
section
variable {prog:Qy}{w:Qv}{A:QF}{E:Qi->Qk->Prop}{s:Qk}
theorem Hw{a:Qh}{o:Qo}{xs:Array Qi}{k:Nat}{Q:Option Qi->Qk->Prop}(hx:s.heap.get? a=some o)(hc:o.cls=.type "list")(hdat:o.data=.seq xs k)(hd:o.dict=none)(hA:A.handled=none)
  (h:∀h' tk,(∀b o,s.heap.get? b=some o->h'.get? b=some o)->Q none {s with heap:=h',toks:=tk}):Ql (model prog w) A (getAttr? (.ref a) "keys") Q E s:=by
 obtain⟨c,dct,dat,sl⟩:=o
 simp only at hc hdat hd
 subst hc hdat hd
 obtain⟨hp,g,d,tk,os⟩:=s
 have hT:∀tk',(⟨hp,g,d,tk',os⟩:Qk).TypeIs (.ref a) "list":=fun _=>⟨_,hx,rfl⟩
 have f1:=sub_AttributeError
 have f3:=VO.lookup
 have f4:=VO.bind (.ref a)
 have f5:=am_list_getattr_none
 have f6:=oN
 unfold getAttr? getAttrBy? getAttrBy
 repeat (any_goals (first|assumption|exact hT _|((with_reducible show Ql _ _ (call (TF "list.__getattribute__") _ _) _ _ _);refine Sn VO (hT _) am_entry_list_getattribute (aaA _ _) (meets_getattribute_miss_list a xs k sl "keys" _ oN (by decide)) ⟨hx,hA,fun h' tk' e hx'=>?_⟩)|wp_step))
 obtain⟨t',u',he⟩:=hx'.there
 show Ql _ _ (VC _ _ _ _ _ _ _) _ _ _
 unfold VC
 repeat (any_goals (first|assumption|wp_step))
 exact h _ _ hx'.keeps
end
section
variable {prog:Qy}{w:Qv}{K:Type} [DecidableEq K] {knd:KeyKind prog w K}{A:QF}{R:Result->Qk->Prop}{I:Qh}{fp wr:List Qh}{G:Array GenState->Array GenState->Prop}{n:Nat}{P:Nat->Qi->Prop}{St:Nat->Qk->Prop}
theorem o9:entryFor table "dict.update.loop"=some R0.«dict.update.loop»:=entryFor_of_tree (by kernel_rfl)
theorem fC:plainId "dict.update.loop"=true:=nofun
def vx(knd:KeyKind prog w K)(h:Qq)(T:Qh)(kv:K×Qi):Prop:=∃o key m,h.get? T=some o/\o.cls=.type "tuple"/\o.data=.seq #[key,kv.2] m/\knd.is kv.1 key=true
theorem Em(W:WalksS prog w A.in1 I fp wr G n P St)(D:Qh)(hDf:D∉fp)(vs:List (K×Qi))(ts:List Qh)(res:Qi)(hvn:vs.length=n)(htn:ts.length=n)(hval:∀i v,P i v->∃t,ts[i]?=some t/\v=.ref t)(hT:∀t∈ts,t≠D/\t∉wr)(hn:n<=1000)(nd:(vs.map (·.1)).Nodup):
  ∀(k i:Nat)(s:Qk),n-i=k->i<=n->St i s->(∀(j:Nat)(t:Qh)(p:K×Qi),ts[j]?=some t->vs[j]?=some p->vx knd s.heap t p)->s.heap.DictOf knd D (vs.take i)->
   (∀s',Moved (D::wr) G s s'->s'.heap.DictOf knd D vs->R (.ok (.ret res)) s')->
   Sj (model prog w) A (.builtin "dict.update.loop" ⟨[.ref D,.ref I,.int i 0,res],[]⟩) R s:=by
 have hDw:D∉wr:=fun h=>hDf (W.sub _ h)
 have hsub:∀b∈wr,b∈D::wr:=fun b hb=>Q2 _ hb
 have dstay:∀{kvs:List (K×Qi)}{h h':Qq},h.DictOf knd D kvs->(∀o,h.get? D=some o->h'.get? D=some o)->h'.DictOf knd D kvs:=fun x k=>let ⟨o,es,ep,ho,r⟩:=x;⟨o,es,ep,k o ho,r⟩
 intro k
 induction k with
 |zero=>
  intro i s hk hi hst hP hD hR
  have hin:i=n:=by omega
  subst hin
  rw[S7 (by omega)]at hD
  refine codeAny_builtin o9 ?_
  rw[Vq fC _]
  show Ql _ A.in1 (RB (.ref I) >>= _) _ _ s
  refine Qm (W.done s _ _ hst fun s' hm=>?_)
  show Ql _ A.in1 (X8 D [] >>= fun _=>ret res) _ _ s'
  exact Qm (QG (QG (hR s' (hm.mono hsub) (dstay hD fun o e=>hm.heap D _ hDw e))))
 |succ k ih=>
  intro i s hk hi hst hP hD hR
  have hlt:i<n:=by omega
  refine codeAny_builtin o9 ?_
  rw[Vq fC _]
  show Ql _ A.in1 (RB (.ref I) >>= _) _ _ s
  refine Qm (W.item i s _ _ hlt hst fun v s' hPv hst' hm=>?_)
  obtain⟨t,ht,rfl⟩:=hval i v hPv
  have hvi:vs[i]?=some vs[i]:=Qz (by omega)
  generalize vs[i]=p at hvi
  have hD':=dstay hD fun o e=>hm.heap D _ hDw e
  have hP':∀(j:Nat)(t:Qh)(p:K×Qi),ts[j]?=some t->vs[j]?=some p->vx knd s'.heap t p:=fun j t p e1 e2=>by
   obtain⟨o,key,m,h1,h2⟩:=hP j t p e1 e2
   exact⟨o,key,m,hm.heap _ _ (hT t (SH e1)).2 h1,h2⟩
  obtain⟨o,key,m,h1,h2,h3,h4⟩:=hP' i t p ht hvi
  show Ql _ A.in1 (holding [QL t] _ >>= _) _ _ s'
  refine Qm (Tn ?_)
  refine Qm (wpAny_tryCatch ?_)
  unfold WM
  refine Qm (Vs (T:="tuple") ⟨o,h1,h2⟩ ?_)
  rw[if_pos (by decide)]
  refine Qm (Sy h1 h3 (QG ?_))
  show Ql _ A.in1 (holding [key,p.2] (dictSet D key p.2)) _ _ s'
  refine Tn (wpAny_dictSet_pairs (knd:=knd) h4 hD' (fun h' hd' hsb=>?_) (by rw[Rw,sizeLine_eq];omega))
  have hst2:stored (vs.take i) p.1 p.2=vs.take (i+1):=by
   unfold stored
   rw[if_neg]
   ·rw[Uu,hvi];rfl
   ·intro z
    obtain⟨x,hx,e⟩:=Wv.mp z
    obtain⟨j,hj,ej⟩:=SX hx
    have hj':j<i/\j<vs.length:=by rw[Rw]at hj;omega
    rw[Wr]at ej
    have e:x.1=p.1:=by simpa using e
    obtain⟨hi',ei⟩:=Q0.mp hvi
    have:=TU.mp nd j i (by simp;omega) (by simp;omega) hj'.1
    simp only[V5]at this
    rw[ej,ei]at this
    exact this e
  rw[hst2]at hd'
  refine QG ⟨plainId_quiet fC _,?_⟩
  refine ih (i+1) _ (by omega) hlt (W.frame _ s' _ _ hst' (RM _) fun b hb o e=>?_) (fun j t p e1 e2=>?_) hd' fun s'' hm'' hS''=>?_
  ·rw[hsb.2 b (fun h:b=D=>hDf (by rw[<-h];exact hb))];exact e
  ·obtain⟨o,key,m,h1,h2⟩:=hP' j t p e1 e2
   exact⟨o,key,m,by rw[hsb.2 _ (hT t (SH e1)).1];exact h1,h2⟩
  ·refine hR s'' (Moved.trans W.gtrans ((hm.mono hsub).then_heap (RM _) fun b o hb e=>?_) hm'') hS''
   rw[hsb.2 b (fun h:b=D=>hb (by rw[h];exact Ri))];exact e
end
section
variable {prog:Qy}{w:Qv}{K:Type} [DecidableEq K] {knd:KeyKind prog w K}{A:QF}{E:Qi->Qk->Prop}{s:Qk}
theorem uR{l:Qh}{ts:List Qh}{vs:List (K×Qi)}{Q:Qi->Qk->Prop}(hh:A.handled=none)(hl:∃m,s.heap.get? l=some {cls:=.type "list",data:=.seq (ts.map QL).toArray m})(hlen:ts.length=vs.length)
  (hp:∀(j:Nat)(t:Qh)(p:K×Qi),ts[j]?=some t->vs[j]?=some p->vx knd s.heap t p) (nd:(vs.map (·.1)).Nodup) (hn:vs.length<=1000)
  (h:∀(h':Qq)(tk:Nat),(∀b o,s.heap.get? b=some o->h'.get? b=some o)->h'.DictOf knd s.heap.objs.size vs->Q (.ref s.heap.objs.size) {s with heap:=h',toks:=tk}):
  Ql (model prog w) A (call (.type "dict") [.ref l]) Q E s:=by
 obtain⟨m,hl⟩:=hl
 refine callType_codes (Q₁:=fun obj s₁=>obj=.ref s.heap.objs.size/\s₁={s with heap:=s.heap.push {cls:=.type "dict",data:=.dict #[]}}) W0 (Yl _) W7 (kt_code_dict_new _ ⟨rfl,rfl⟩) ?_
 rintro obj s₁ ⟨rfl,rfl⟩
 have hnew:(s.heap.push {cls:=.type "dict",data:=.dict #[]}).DictOf knd s.heap.objs.size []:=WE s.heap
 have hl1:(s.heap.push {cls:=.type "dict",data:=.dict #[]}).get? l=some {cls:=.type "list",data:=.seq (ts.map QL).toArray m}:=QS _ hl
 exists hnew.typeIs,Yf _ _
 unfold R0.«dict.__init__»
 refine Qm ?_
 unfold Yv
 refine Qm (wpAny_notOrdered_dict hnew.typeIs ?_)
 show Ql _ _ (pure (s.heap.objs.size,[QL l])) _ _ _
 refine QG ?_
 show Ql _ _ (U5 "dict.__init__" s.heap.objs.size (.ref l) [] .none) _ _ _
 unfold U5
 refine Qm (Vs (T:="list") ⟨_,hl1,rfl⟩ ?_)
 rw[if_pos (by decide)]
 refine Qm (Hw hl1 rfl rfl rfl hh fun h2 tk2 k2=>?_)
 simp only[Xz,if_true]
 refine Qm (wpAny_rule ?_)
 have hl2:h2.IsList l (ts.map QL).toArray:=⟨_,k2 _ _ hl1,rfl,m,rfl⟩
 refine Qm (Vt hl2 ?_)
 have hdlt:s.heap.objs.size<h2.objs.size:=by
  obtain⟨o,_,_,ho,_⟩:=hnew
  exact QJ (k2 _ _ ho)
 have hllt:l<h2.objs.size:=QJ (k2 _ _ hl1)
 have hls:l<s.heap.objs.size:=QJ hl
 have keep:∀b o,s.heap.get? b=some o->(h2.push {cls:=.type "list_iterator",data:=.fields #[.ref l,.int 0 0]}).get? b=some o:=fun b o e=>QS _ (k2 _ _ (QS _ e))
 have hsz:(ts.map QL).toArray.size=vs.length:=by simp[hlen]
 have htl:∀t∈ts,t<s.heap.objs.size:=fun t ht=>by
  obtain⟨j,hj,e⟩:=SX ht
  obtain⟨o,_,_,h1,_⟩:=hp j t vs[j] (by rw[Qz hj,e]) (Qz (by omega))
  exact QJ h1
 refine QG ⟨plainId_quiet fC _,?_⟩
 refine Em (knd:=knd) ((Yn (A:=A.in1.in1) hh h2.objs.size l (QV hllt) (ts.map QL).toArray).toS) s.heap.objs.size (by simp only[QI,RD,or_false,not_or];exact⟨QV hdlt,RK hls⟩)
  vs ts .none hsz.symm (by rw[hsz,hlen]) (fun i v hv=>?_) (fun t ht=>⟨QV (htl t ht),fun z=>?_⟩) (by rw[hsz];exact hn) nd _ 0 _ rfl (Rm _) ⟨⟨_,QX _ rfl,rfl,rfl⟩,hl2.push _⟩ (fun j t p e1 e2=>?_) ?_ fun s' hm hD=>?_
 ·have hv:(ts.map QL).toArray[i]?=some v:=hv
  rw[List.getElem?_toArray,SM]at hv
  cases e:ts[i]? with
  |none=>rw[e]at hv;cases hv
  |some t=>rw[e]at hv;exact⟨t,rfl,(Rk hv).symm⟩
 ·rw[Q8.mp z]at ht
  exact Wi hdlt (htl _ ht)
 ·obtain⟨o,key,m',h1,h3⟩:=hp j t p e1 e2
  exact⟨o,key,m',keep _ _ h1,h3⟩
 ·obtain⟨o,es,ep,ho,r⟩:=hnew
  exact⟨o,es,ep,QS _ (k2 _ _ ho),r⟩
 ·rw[Moved.eq_with hm]
  refine⟨rfl,h s'.heap s'.toks (fun b o e=>hm.heap b o (fun z=>?_) (keep b o e)) hD⟩
  have hb:=QJ e
  rcases QI.mp z with z|z
  ·rw[z]at hb;exact RQ _ hb
  ·rw[Q8.mp z]at hb;exact Wi hdlt hb
end
noncomputable def Ku(K:Qj):List V->Hp->VK->Prop:=fun xs H Q=>∃(l:Qh)(ts:List Qh)(kvs:List (Key×V)),xs=[.ref l]/\H l=some (.lst (ts.map V.ref))/\QE (fun (p:Key×V) t=>iM K H t [kV p.1,p.2]) kvs ts/\(kvs.map (·.1)).Nodup/\kvs.length<=1000/\
 ∀d,H d=none->Q (.ref d) (upd H d (.dK kvs))
section
variable {X:Cx}
theorem FZ:∀{ts:List Qh}{its:List Qi},cu (ts.map V.ref) its->its=ts.map QL
 |[],_,.nil=>rfl
 |t::ts,_,.cons h r=>by
  cases(show _=QL t from h)
  rw[FZ r];rfl
theorem Fj(hc:X.calm=true):d4 X (.type "dict") (Ku X.K):=by
 intro pins s σ H xs us Q I r h
 obtain⟨l,ts,kvs,rfl,hl,hp,nd,hn,q⟩:=h
 obtain⟨u,rfl,ru⟩:=vals1 r
 cases ru
 obtain⟨z,its,m,rv,hg⟩:=(show de X.prog X.w H s.heap l (.lst (ts.map V.ref))from I.hok l _ hl)
 have ei:=FZ rv
 subst ei
 have hl':kvs.length=ts.length:=QU hp
 have go:∀(ks:List (Key×V))(bs:List Qh),QE (fun (p:Key×V) t=>iM X.K H t [kV p.1,p.2]) ks bs->∃vs:List (Key×Qi),KV ks vs/\∀(j:Nat)(t:Qh)(p:Key×Qi),bs[j]?=some t->vs[j]?=some p->vx (bh X.prog X.w) s.heap t p:=by
  intro ks bs hpr
  induction hpr with
  |nil=>exact⟨[],.nil,fun j t p e=>by simp at e⟩
  |@cons p t ks bs hq _ ih=>
   obtain⟨vs,h1,h2⟩:=ih
   obtain⟨its,rv,⟨o,e1,e2,n,e3⟩,_⟩:=I.tuple hq
   cases rv with
   |@cons _ key _ _ rk rr=>
   cases rr with
   |@cons _ x _ _ rx rr=>
   cases rr
   refine⟨(p.1,x)::vs,.cons ⟨rfl,rx⟩ h1,fun j t' p' f1 f2=>?_⟩
   cases j with
   |zero=>
    simp at f1 f2
    subst f1;subst f2
    exact⟨o,key,n,e1,e2,e3,uJ rk⟩
   |succ j=>exact h2 j t' p' (by simpa using f1) (by simpa using f2)
 obtain⟨vs,hkv,hpa⟩:=go kvs ts hp
 have hvl:kvs.length=vs.length:=QU hkv
 have ek:vs.map (·.1)=kvs.map (·.1):=by
  clear hpa hvl go hp q nd hn hl' hl
  induction hkv with
  |nil=>rfl
  |cons h _ ih=>rw[QW,QW,ih,h.1]
 refine uR (knd:=bh X.prog X.w) (I.ok.hd hc) ⟨m,hg⟩ (by omega) hpa (by rw[ek];exact nd) (by omega) fun h' tk k' dd=>?_
 refine⟨.ref s.heap.objs.size,_,I.laid (t':=tk) (a:=s.heap.objs.size) (o:=.dK kvs) k' (QC _) (wU (Qt hn (by decide)) (beq_eq_false_iff_ne.mpr (QT (QV I.big))) hkv dd),rfl,q _ (I.hok.fresh (QC _))⟩
end
section
variable {X:Cx}{pins pins0:List (Qh×Qo)}{σ σ0:List (Option V)}{H H0:Hp}{s s0:Qk}{d:Qh}{u u' u0:HO}{o:Qo}
theorem Inv.retag(I:Inv X pins σ H s)(hd:H d=some u)(h1:∀a,u≠.own a)(h2:∀xs,u≠.tup xs)(b1:∀xs,X.H₀ d≠some (.tup xs))(b2:∀o v,X.H₀ d≠some (.frz o v))(b3:∀ps,X.H₀ d≠some (.tbl ps))
  (new:de X.prog X.w (upd H d u') s.heap d u'):Inv X pins σ (upd H d u') s:=by
 have ne:∀{b:Qh},H b=none->b≠d:=fun h z=>by rw[z,hd]at h;cases h
 refine⟨I.ok,I.os,I.bare,⟨I.base.keep,I.base.slot,fun b ob q n hx=>?_,I.base.there,fun b xs q=>?_,fun b ob w q=>?_,fun b ps q=>?_⟩,I.loc,I.cell,?_,fun x c e=>?_,fun p hp=>?_,fun b w q=>?_,I.len⟩
 ·have:=I.base.free b ob q n hx
  rw[ax (ne this)];exact this
 ·rw[ax (fun z=>b1 xs (by rw[<-z];exact q))];exact I.base.tups b xs q
 ·rw[ax (fun z=>b2 ob w (by rw[<-z];exact q))];exact I.base.frzs b ob w q
 ·rw[ax (fun z=>b3 ps (by rw[<-z];exact q))];exact I.base.tbls b ps q
 ·rw[ax (ne I.free)];exact I.free
 ·rw[ax (ne (I.freeC x c e))];exact I.freeC x c e
 ·obtain⟨a1,a2,a3⟩:=I.pin p hp
  exact⟨a1,by rw[ax (ne a2)];exact a2,a3⟩
 ·by_cases hb:b=d
  ·subst hb
   rw[ay]at q
   cases q
   exact new
  ·rw[ax hb]at q
   refine(I.hok b w q).stay (fun c v _ q'=>q') (fun c q'=>?_) fun c xs q'=>?_
   ·rw[ax (fun z=>by rw[z,hd]at q';exact h1 b (Rk q'))];exact q'
   ·rw[ax (fun z=>by rw[z,hd]at q';exact h2 xs (Rk q'))];exact q'
theorem Inv.base_dK{kvs:List (Key×V)}(I:Inv X pins σ H s)(hd:H d=some (.dK kvs)):(∀xs,X.H₀ d≠some (.tup xs))/\(∀o v,X.H₀ d≠some (.frz o v))/\∀ps,X.H₀ d≠some (.tbl ps):=by
 refine⟨fun xs z=>?_,fun o v z=>?_,fun ps z=>?_⟩
 ·have:=I.base.tups d xs z;rw[hd]at this;cases this
 ·have:=I.base.frzs d o v z;rw[hd]at this;cases this
 ·obtain⟨m,this⟩:=I.base.tbls d ps z;rw[hd]at this;cases this
theorem Inv.freeze{kvs:List (Key×V)}(I:Inv X pins σ H s)(hd:H d=some (.dK kvs))(ho:s.heap.get? d=some o):Inv X pins σ (upd H d (.frz o (.dK kvs))) s:=by
 obtain⟨b1,b2,b3⟩:=I.base_dK hd
 exact I.retag hd (fun a z=>nomatch z) (fun xs z=>nomatch z) b1 b2 b3 ⟨ho,(show de X.prog X.w H s.heap d (.dK kvs)from I.hok d _ hd)⟩
theorem Inv.thaw{kvs kvs0:List (Key×V)}(I0:Inv X pins0 σ0 H0 s0)(h0:H0 d=some (.dK kvs0))(I:Inv X pins σ H s)(hd:H d=some (.frz o (.dK kvs))):Inv X pins σ (upd H d (.dK kvs)) s:=by
 obtain⟨b1,b2,b3⟩:=I0.base_dK h0
 exact I.retag hd (fun a z=>nomatch z) (fun xs z=>nomatch z) b1 b2 b3 (show de X.prog X.w H s.heap d (.frz o (.dK kvs))from I.hok d _ hd).2
end
noncomputable def Ph(d:Qh)(o:Qo)(kvs:List (Key×V)):It:=
 ⟨fun i H=>H d=some (.frz o (.dK kvs))/\i<kvs.length,fun i H x H'=>∃T p,x=.ref T/\H T=none/\kvs[i]?=some p/\H'=upd H T (.tup [kV p.1,p.2]),fun i H=>H d=some (.frz o (.dK kvs))/\kvs.length<=i⟩
theorem j7{X:Cx}{pins:List (Qh×Qo)}{σ:List (Option V)}{H:Hp}{s:Qk}{d:Qh}{o:Qo}{kvs:List (Key×V)}{es:Array Si}{ep:Nat}(I:Inv X pins σ H s)(hd:H d=some (.frz o (.dK kvs)))(ho:o.data=.dict es ep):
  ∃vs,KV kvs vs/\s.heap.DictAt (bh X.prog X.w) d vs ep:=by
 obtain⟨hg,_,_,vs,rel,o',es',ep',h1,h2,h3,h4⟩:=(show de X.prog X.w H s.heap d (.frz o (.dK kvs))from I.hok d _ hd)
 rw[hg]at h1
 cases h1
 rw[ho]at h3
 cases h3
 exact⟨vs,rel,o,es,hg,h2,ho,h4⟩
theorem E9{P:Qy}{w:Qv}{K:Qj}{elts:List Qp}{x1}{pos:QH}(d it:Qh)(o:Qo)(es:Array Si)(ep:Nat)(ho:o.data=.dict es ep)(kvs:List (Key×V))(hne:d≠it):
  Turn P w K (.Tuple elts x1 pos) (Ph d o kvs) [it] it (fun i h=>∃ok ov,IsItemIter h it d i kvs.length ep ok ov) where
 mem:=⋯
 obj:=fun i h st b hb=>by
  obtain⟨ok,ov,he⟩:=st
  have z:b=it:=by simpa using hb
  subst z
  exact⟨_,he,fun v z=>by
   have z':Uv _=Tr v:=z
   cases z'⟩
 keep:=fun i h h' st k=>by
  obtain⟨ok,ov,he⟩:=st
  exact⟨ok,ov,k it ⋯ _ he⟩
 item:=by
  intro X hP hw hK hc i pins s σ H E I hf st hg
  subst hP hw hK
  obtain⟨ok,ov,he⟩:=st
  obtain⟨hd,hi⟩:=hg
  obtain⟨vs,rel,hat⟩:=j7 I hd ho
  have hlen:kvs.length=vs.length:=QU rel
  obtain⟨g0,g1,g2,g3,g4,g5⟩:=hf it ⋯
  have fT:H s.heap.objs.size=none:=I.fresh
  have hvi:vs[i]?=some vs[i]:=Qz (by omega)
  obtain⟨p,hp1,hp2,hp3⟩:=mr rel i _ hvi
  rw[hlen]at he
  refine wpAny_pyNext_items_item (k:=(vs[i]).1) (v:=(vs[i]).2) he hat hvi fun key h' hkey heo ht hsz hk=>⟨_,rfl,?_⟩
  refine wpAny_letOwnedTupleGo_items heo fun h2 he2 hs2=>?_
  have hs2:Sh it h' h2:=hs2
  have heT:it≠s.heap.objs.size:=QV (QJ he)
  have oldK:∀b o,b≠it->s.heap.get? b=some o->h2.get? b=some o:=fun b o h1 q=>hs2.extBut b o h1 (hk b o h1 q)
  have hT2:h2.get? s.heap.objs.size=some {cls:=.type "tuple",data:=.seq #[key,(vs[i]).2]}:=hs2.extBut _ _ (QT heT) ht
  have neT:∀b o,s.heap.get? b=some o->b≠s.heap.objs.size:=fun b o q=>QV (QJ q)
  have nH:∀b w',H b=some w'->b≠it:=fun b w' q z=>by rw[z,g0]at q;cases q
  have I2:Inv X pins σ (upd H s.heap.objs.size (.tup [kV p.1,p.2])) {s with heap:=h2,toks:=s.toks}:=by
   refine I.step (g':=s.gens) (d':=s.drawn) (t':=s.toks) (ch:=[it]) (fun b hb=>?_) (fun b o _ _ hb q _=>?_) (fun b o _ _ hb q _=>?_) (fun b o _ q n=>?_) (fun b o hb q=>?_)
    (fun b ys q=>?_) (fun b o w' q=>?_) (fun b ps q=>?_) (fun m hm=>?_) (fun b w' q=>?_) I.bare
   ·have z:b=it:=by simpa using hb
    subst z;exact⟨g3,g1,g4,g5⟩
   ·exact oldK b o (fun z=>hb (by simp[z])) q
   ·exact⟨o.slots,oldK b o (fun z=>hb (by simp[z])) q⟩
   ·rw[ax (neT b o q)];exact n
   ·exact⟨o,oldK b o (fun z=>hb (by simp[z])) q⟩
   ·rw[ax (bx q fT)];exact q
   ·rw[ax (bx q fT)];exact q
   ·exact⟨#[],by rw[ax (bx q fT),q];simp⟩
   ·obtain⟨o,es,ep,ho,r⟩:=hm
    exact⟨o,es,ep,oldK _ o (QT g1) ho,r⟩
   ·by_cases hb:b=s.heap.objs.size
    ·subst hb
     rw[ay]at q
     cases q
     exact⟨by show 2<=Qr;decide,[key,(vs[i]).2],.cons (by rw[hp2];exact sP hkey) (.cons hp3 .nil),_,hT2,rfl,_,rfl⟩
    ·rw[ax hb]at q
     refine(I.hok b w' q).stay (fun c v hc q'=>oldK c v ?_ q') (fun c q'=>?_) fun c ys q'=>?_
     ·rcases hc with z|z
      ·rw[z];exact nH b w' q
      ·exact nH c _ z
     ·rw[ax (bx q' fT)];exact q'
     ·rw[ax (bx q' fT)];exact q'
  refine⟨.ref s.heap.objs.size,_,I2,rfl,⟨s.heap.objs.size,p,rfl,fT,hp1,rfl⟩,⟨key,(vs[i]).2,?_⟩,fun b hb=>?_⟩
  ·rw[hlen];exact he2
  ·have z:b=it:=by simpa using hb
   rw[z,ax heT];exact g0
 done:=by
  intro X hP hw hK hc i pins s σ H E I hf st hg
  subst hP hw hK
  obtain⟨ok,ov,he⟩:=st
  obtain⟨hd,hi⟩:=hg
  obtain⟨vs,rel,hat⟩:=j7 I hd ho
  have hlen:kvs.length=vs.length:=QU rel
  obtain⟨g0,g1,g2,g3,g4,g5⟩:=hf it ⋯
  rw[hlen]at he
  refine wpAny_pyNext_items_end (I.ok.hd hc) he hat (SY (by omega)) fun h' eb=>⟨rfl,I.turned (t':=s.toks) (fun b o hb e'=>eb b o hb e') g0 g1 g3 g4 g5⟩
 self:=fun A i s Q E st h=>by
  obtain⟨ok,ov,he⟩:=st
  have hT:s.TypeIs (.ref it) "dict_itemiterator":=⟨_,he,rfl⟩
  refine wpAny_pyIter_slot hT WQ (TM WQ hT kcp_entry ?_ (Zf _))
  show Ql _ _ (ret (.ref it)) _ _ s
  exact QG ⟨_,rfl,"dict_itemiterator",_,hT,ZC.lookup,h⟩
section
variable {X:Cx}
def yb(td:TE):TI:=fun σ H R=>td σ H fun x H1=>∃(d:Qh)(kvs:List (Key×V)),x=.ref d/\H1 d=some (.dK kvs)/\∀(o:Qo)(v:Qh),H1 v=none->v≠d->R (Ph d o kvs) (upd (upd H1 v (nO v d)) d (.frz o (.dK kvs)))
theorem DX{e:Qp}{td:TE}{elts:List Qp}{x1}{apos cpos pt:QH}(he:PE X e td)
  (hbase:Tp e "items" X.env (eval e X.env)=eval e X.env:=by rfl) (hline:(apos.endLine==cpos.line)=true:=by rfl):
  PI X (.Tuple elts x1 pt) (.Call (.Attribute e "items" apos) [] [] cpos) (yb td):=by
 intro pins s σ H R I h
 refine wpAny_Call_method0_late hbase hline (cX (he pins s σ H _ I h) fun v s1 ⟨x,H1,I1,r1,d,kvs,ex,hd,q1⟩=>?_)
 subst ex
 cases(show v=QL d from r1)
 obtain⟨z,hdS,vs,rel,dd⟩:=fZ I1.hok (.inl hd)
 have hlen:kvs.length=vs.length:=QU rel
 have h2:∀a,QL d=.ref a->∃ob,s1.heap.get? a=some ob/\ob.dict=none:=fun a e=>by
  cases e
  obtain⟨o,_,_,ho,hex,_⟩:=id dd
  exact⟨o,ho,hex.2.1⟩
 refine⟨"dict","dict.items",US,Vg,Yz,dd.typeIs,h2,Ut rfl (Wt ?_)⟩
 refine TN Vg dd.typeIs Xs (WZ _) (meets_dict_items (bh X.prog X.w) d hdS) ⟨⟨vs,dd⟩,?_⟩
 have fV:H1 s1.heap.objs.size=none:=I1.hok.fresh (QC _)
 have hdlt:d<s1.heap.objs.size:=I1.hok.lt hd
 have IV:Inv X pins σ (upd H1 s1.heap.objs.size (nO s1.heap.objs.size d)) {s1 with heap:=s1.heap.push {cls:=.type "dict_items",data:=.fields #[.ref d]},toks:=s1.toks}:=
  I1.laid (t':=s1.toks) (fun b u e=>QS _ e) (QC _) ⟨⟨_,QX _ rfl,rfl,rfl⟩,⟨_,QX _ rfl⟩,fun h1 h2 x k=>by
   obtain⟨o,ho,r⟩:=x
   exact⟨o,k o ho,r⟩⟩
 have hd':upd H1 s1.heap.objs.size (nO s1.heap.objs.size d) d=some (.dK kvs):=by rw[ax (QV hdlt)];exact hd
 obtain⟨o,es,ep,ho,hex,hdat,r⟩:=id dd
 have ho1:(s1.heap.push {cls:=.type "dict_items",data:=.fields #[.ref d]}).get? d=some o:=QS _ ho
 have IF:=IV.freeze hd' ho1
 have hat:(s1.heap.push {cls:=.type "dict_items",data:=.fields #[.ref d]}).DictAt (bh X.prog X.w) d vs ep:=⟨o,es,ho1,hex,hdat,r⟩
 show Ql _ _ (pyIter (.ref s1.heap.objs.size)) _ _ _
 refine wpAny_pyIter_items (knd:=bh X.prog X.w) (d:=d) ⟨_,QX _ rfl,rfl,rfl⟩ hat ?_
 have hsz:s1.heap.objs.size<(s1.heap.push {cls:=.type "dict_items",data:=.fields #[.ref d]}).objs.size:=by rw[RS];exact Vi _
 refine⟨_,[_],_,Ph d o kvs,_,rfl,IF.kept (t':=s1.toks) (fun b u e=>QS _ e),E9 d _ o es ep hdat kvs (QV (Vl hdlt hsz)),⟨.none,.none,?_⟩,fun b hb=>?_,q1 o _ fV (RK hdlt)⟩
 ·rw[hlen]
  exact QX _ rfl
 ·have zb:b=(s1.heap.push {cls:=.type "dict_items",data:=.fields #[.ref d]}).objs.size:=by simpa using hb
  subst zb
  exact IF.fpOk (QC _) (IF.hok.fresh (QC _))
def iG(te:TE):TE:=fun σ H Q=>∃(d:Qh)(kvs0:List (Key×V)),H d=some (.dK kvs0)/\te σ H fun v H'=>∃o kvs,H' d=some (.frz o (.dK kvs))/\Q v (upd H' d (.dK kvs))
theorem vB{e:Qp}{te:TE}(he:PE X e te):PE X e (iG te):=by
 intro pins s σ H Q I h
 obtain⟨d,kvs0,hd,q⟩:=h
 refine cX (he pins s σ H _ I q) fun v s1 ⟨x,H1,I1,r1,o,kvs,hf,q1⟩=>?_
 exact⟨x,_,Inv.thaw I hd I1 hf,r1,q1⟩
end
section
variable {X:Cx}
def OL(t:TE):TT:=fun σ H Q=>t σ H fun x H1=>∃a kvs,x=.ref a/\H1 a=some (.dK kvs)/\Q (!kvs.isEmpty) H1
theorem E4{e:Qp}{t:TE}(h:PE X e t)(he:∀whole,isTrue e X.env whole=(do let v <-whole;standAt e.pos;holding [v] (truthy v)):=by intro _;rfl):PT X e (OL t):=by
 intro pins s σ H Q I hw
 refine isTrue_plain (cX (h pins s σ H _ I hw) fun v s1 ⟨x,H1,I1,r1,q1⟩=>?_) (he _)
 obtain⟨a,kvs,rfl,hd,q⟩:=q1
 cases r1
 exact K2 I1 (.inl hd) fun s' I'=>⟨H1,I',q⟩
def xZ:List V->Hp->VK->Prop:=fun xs H Q=>∃a kvs,xs=[V.ref a]/\H a=some (.dK kvs)/\Q (.int kvs.length) H
theorem jt:d4 X (.builtin "len") xZ:=HA
end
section
variable {K:Qj}{σ:St}{H:Hp}{Q:VK}{D:Ends}{R:Hp->Prop}{ta td ty tv:TE}{t:TA}{f m n:Qg}{sp:Sp}{E:XK}{C c d dx:Qh}{fs:List (Qg×V)}{v y:V}{kvs:List (Key×V)}
def OZ(K:Qj)(f:Qg)(Q:VK):VK:=fun x H1=>∃a C dx fs v,x=.ref a/\H1 a=some (.ins C dx fs)/\il K C/\dC K C f/\fs.lookup f=some v/\Q v H1
theorem OA(h:ta σ H (OZ K f Q)):dk K ta f σ H Q:=h
theorem cq(h:H c=some (.ins C dx fs))(cl:il K C)(na:dC K C f)(l:fs.lookup f=some v)(q:Q v H):OZ K f Q (.ref c) H:=⟨c,C,dx,fs,v,rfl,h,cl,na,l,q⟩
def O3(K:Qj)(f:Qg)(y:V)(R:Hp->Prop):VK:=fun x H2=>∃a C dx fs,x=.ref a/\H2 a=some (.ins C dx fs)/\il K C/\dC K C f/\fs.length<1000/\R (upd H2 a (.ins C dx (cE f y fs)))
theorem Mu(h:tv σ H fun y H1=>ta σ H1 (O3 K f y (D.nx σ))):sE K ta tv f D σ H:=h
theorem mK(h:H c=some (.ins C dx fs))(cl:il K C)(na:dC K C f)(l:fs.length<1000)(q:R (upd H c (.ins C dx (cE f y fs)))):O3 K f y R (.ref c) H:=⟨c,C,dx,fs,rfl,h,cl,na,l,q⟩
noncomputable def N7(K:Qj)(f:Qg)(tv:TE)(rd:V->V->Hp->VK->Prop)(σ:St)(R:Hp->Prop):VK:=fun x H1=>∃a C dx fs v,x=.ref a/\H1 a=some (.ins C dx fs)/\il K C/\dC K C f/\fs.lookup f=some v/\
 tv σ H1 fun y H2=>rd v y H2 fun z H3=>∃dx' fs',H3 a=some (.ins C dx' fs')/\fs'.length<1000/\R (upd H3 a (.ins C dx' (cE f z fs')))
theorem M7{rd:V->V->Hp->VK->Prop}(h:ta σ H (N7 K f tv rd σ (D.nx σ))):j4 K ta tv rd f D σ H:=h
theorem zD{rd:V->V->Hp->VK->Prop}(h:H c=some (.ins C dx fs))(cl:il K C)(na:dC K C f)(l:fs.lookup f=some v)
  (q:tv σ H fun y H2=>rd v y H2 fun z H3=>∃dx' fs',H3 c=some (.ins C dx' fs')/\fs'.length<1000/\R (upd H3 c (.ins C dx' (cE f z fs')))):N7 K f tv rd σ R (.ref c) H:=⟨c,C,dx,fs,v,rfl,h,cl,na,l,q⟩
def Lg(C:Qh)(m:Qg)(sp:Sp)(E:XK)(t:TA)(σ:St)(Q:VK):VK:=fun x H1=>∃a dx fs,x=.ref a/\H1 a=some (.ins C dx fs)/\fs.lookup m=none/\t σ H1 fun vs H2=>sp (x::vs) H2 Q E
theorem MV(h:ta σ H (Lg C m sp E t σ Q)):bP C m sp [] E ta t σ H Q:=by
 have e:(fun x H1=>∃a dx fs,x=V.ref a/\H1 a=some (HO.ins C dx fs)/\fs.lookup m=none/\t σ H1 fun vs H2=>sp (x::(vs++[])) H2 Q E)=Lg C m sp E t σ Q:=by
  unfold Lg
  simp only[UL]
 show ta σ H (fun x H1=>∃a dx fs,x=V.ref a/\H1 a=some (HO.ins C dx fs)/\fs.lookup m=none/\t σ H1 fun vs H2=>sp (x::(vs++[])) H2 Q E)
 rw[e]
 exact h
theorem bJ(h:H c=some (.ins C dx fs))(l:fs.lookup m=none)(q:t σ H fun vs H2=>sp (.ref c::vs) H2 Q E):Lg C m sp E t σ Q (.ref c) H:=⟨c,dx,fs,rfl,h,l,q⟩
theorem Fc(h:∀x dx,H x=none->H dx=none->dx≠x->sp [.ref x] (upd (upd H dx (.own x)) x (.ins C dx [])) (fun v H2=>v=.non/\Q (.ref x) H2) E):zx C sp [] E au σ H Q:=h
def Qc(Q:VK)(x y:V)(H:Hp):Prop:=∃a v,x=.ref a/\qN H a y (some v)/\Q v H
theorem Np(h:td σ H fun x H1=>ty σ H1 fun y H2=>Qc Q x y H2):Gn td ty σ H Q:=h
theorem Kl(h:H d=some (.dK kvs))(l:iu kvs (.inr n)=some v)(q:Q v H):Qc Q (.ref d) (.str n) H:=⟨d,v,rfl,by rw[<-l];exact qN.k (k:=.inr n) h,q⟩
def Qb(v:V)(R:Hp->Prop)(x y:V)(H:Hp):Prop:=∃a H4,x=.ref a/\Gv H a y v H4/\R H4
theorem M0(h:tv σ H fun v H1=>td σ H1 fun x H2=>ty σ H2 fun y H3=>Qb v (D.nx σ) x y H3):F0 td ty tv D σ H:=h
theorem Ji(h:H d=some (.dK kvs))(l:kvs.length<Qr)(q:R (upd H d (.dK (putK kvs (.inr n) v)))):Qb v R (.ref d) (.str n) H:=⟨d,_,rfl,Gv.k (k:=.inr n) h l,q⟩
def Nq(Q:VK)(neg:Bool)(y x:V)(H:Hp):Prop:=∃a o,x=.ref a/\qN H a y o/\Q (.bl (o.isSome != neg)) H
theorem O8(h:ty σ H fun y H1=>td σ H1 fun x H2=>Nq Q false y x H2):MK ty td σ H Q:=by
 have e:(fun y H1=>td σ H1 fun x H2=>Nq Q false y x H2)=fun y H1=>td σ H1 fun x H2=>∃a o,x=.ref a/\qN H2 a y o/\Q (.bl o.isSome) H2:=by
  unfold Nq
  simp only[TL]
 rw[e]at h
 exact h
theorem M6(h:ty σ H fun y H1=>td σ H1 fun x H2=>Nq Q true y x H2):vA ty td σ H Q:=by
 have e:(fun y H1=>td σ H1 fun x H2=>Nq Q true y x H2)=fun y H1=>td σ H1 fun x H2=>∃a o,x=.ref a/\qN H2 a y o/\Q (.bl (!o.isSome)) H2:=by
  unfold Nq
  simp only[Uy]
 rw[e]at h
 exact h
theorem FE{neg:Bool}(h:H d=some (.dK kvs))(q:Q (.bl ((iu kvs (.inr n)).isSome != neg)) H):Nq Q neg (.str n) (.ref d) H:=⟨d,_,rfl,qN.k (k:=.inr n) h,q⟩
def Pz(ty:TE)(σ:St)(Q:VK):VK:=fun x H1=>∃a,x=.ref a/\P0 H1 a/\ty σ H1 fun y H2=>∃kvs k v,H2 a=some (.dK kvs)/\y=kV k/\iu kvs k=some v/\Q v (upd H2 a (.dK (rh kvs k)))
theorem O2(h:td σ H (Pz ty σ Q)):AE td ty σ H Q:=h
theorem Og{R:Bool->Hp->Prop}(h:td σ H fun x H1=>∃a kvs,x=.ref a/\H1 a=some (.dK kvs)/\R (!kvs.isEmpty) H1):OL td σ H R:=h
theorem xX(h:H d=some (.dK kvs))(q:Q (.int kvs.length) H):xZ [.ref d] H Q:=⟨d,kvs,rfl,h,q⟩
theorem Lw(h:H d=some (.dK kvs))(q:∀v H1,H v=none->ar H H1->H1 v=some (nO v d)->Q (.ref v) H1):LK K "dict" (.ref d) H/\EA (.ref d) [] H Q:=
 ⟨.inr (.inr (.inl ⟨rfl,.inl ⟨kvs,h⟩⟩)),d,kvs,rfl,rfl,h,fun v hv=>q v _ hv (ar.updN hv) ay⟩
theorem Kk(h:∀p H1,H p=none->ar H H1->H1 p=some (.dK [])->Q (.ref p) H1):Bw σ H Q:=fun p hp=>h p _ hp (ar.updN hp) ay
end
theorem fG{α β γ:Type}{F:β->γ->Prop}{f:α->β}:∀{xs:List α}{ys:List γ},QE (fun x y=>F (f x) y) xs ys->QE F (xs.map f) ys
 |_,_,.nil=>.nil
 |_,_,.cons h t=>.cons h (fG t)
theorem dy{α β:Type}{F:α->β->Prop}:∀{l₁:List α}{l₂:List β}{i:Nat}{a:α},QE F l₁ l₂->l₁[i]?=some a->∃b,l₂[i]?=some b/\F a b
 |_,_,_,_,.nil,e=>by simp at e
 |_,_,0,_,.cons r _,e=>by simp at e;subst e;exact⟨_,rfl,r⟩
 |_,_,i+1,x,.cons _ t,e=>by
  obtain⟨u,h1,h2⟩:=dy (i:=i) (a:=x) t (by simpa using e)
  exact⟨u,by simpa using h1,h2⟩
section
variable {mp:List (Option Nat)}{g:TG}{tt:TT}{te:TE}{J:It}{P:Hp->Prop}{n:Nat}{f:Nat->St->St}{σ:St}{H:Hp}{Q:VK}
theorem nC(Y:Ys J g P n f)(st:Nat->St)(hf:∀i σ',(σ'=dM mp σ\/∃j,σ'=st j)->f i σ'=st i)(hP:∀H',ar H H'->P H')(hz:n<=Qr)(b:Nat->Bool)(row:Nat->List V)
  (ht:∀i,i<n->∀(H':Hp)(G:Bool->Hp->Prop),ar H H'->(∀H'',ar H' H''->G (b i) H'')->tt (st i) H' G)
  (he:∀i,i<n->b i=true->∀(H':Hp)(G:VK),ar H H'->(∀a H'',H' a=none->ar H' H''->H'' a=some (.tup (row i))->G (.ref a) H'')->te (st i) H' G)
  (hd:∀l bs H',H l=none->ar H H'->H' l=some (.lst (bs.map V.ref))->QE (fun i a=>H' a=some (.tup (row i))) ((QM n).filter b) bs->Q (.ref l) H'):dP mp g tt te J σ H Q:=by
 refine gL Y st hf hP hz b (fun l i v H'=>∃a,v=.ref a/\a≠l/\H' a=some (.tup (row i))) (fun l i v H1 H2 s ⟨a,e,hl,h1⟩=>⟨a,e,hl,s a _ hl h1⟩) ht
  (fun l i hi hb H' G hl ⟨o,ho⟩ s k=>he i hi hb H' G s fun a H'' h0 s' h1=>k _ H'' ⟨a,rfl,(fun e=>by rw[e,ho]at h0;cases h0),h1⟩ s') fun l ys H' h0 s h1 pr=>?_
 obtain⟨bs,rfl,pr'⟩:=j0 (T:=fun a i=>a≠l/\H' a=some (.tup (row i))) pr
 exact hd l bs H' h0 s h1 (Paired.mapP pr' fun _ _ q=>q.2)
end
theorem Cz{K:Qj}{d:Qh}{o:Qo}{kvs:List (Key×V)}(p r:Nat)(u v:Nat->V)(hu:∀i q,kvs[i]?=some q->kV q.1=u i/\q.2=v i):
  Ys (Ph d o kvs) (d0 K 2 (bj (av p) (bj (av r) eB))) (fun H=>H d=some (.frz o (.dK kvs))) kvs.length (fun i σ=>(σ.set p (some (u i))).set r (some (v i))) where
 go:=fun i H hi h=>⟨h,hi⟩
 stop:=fun H h=>⟨h,QC _⟩
 yld:=fun i H x H' σ Q hi h y q=>by
  obtain⟨T,w,rfl,hT,hw,rfl⟩:=y
  obtain⟨e1,e2⟩:=hu i w hw
  exists T,_,rfl,iM.of ay,rfl,_,_,rfl,_,_,rfl,rfl
  have:=q _ (ar.updN hT (o:=.tup [kV w.1,w.2]))
  rw[<-e1,<-e2]at this
  exact this
section
variable {K:Qj}{mp:List (Option Nat)}{te td:TE}{σ:St}{H:Hp}{Q:VK}{d:Qh}{kvs:List (Key×V)}
theorem EX(htd:∀k:VK,k (.ref d) H->td σ H k)(hd:H d=some (.dK kvs))(hz:kvs.length<=Qr)(u v:Nat->V)(hu:∀i q,kvs[i]?=some q->kV q.1=u i/\q.2=v i)
  (st:Nat->St) (hf:∀i σ',(σ'=dM mp σ\/∃j,σ'=st j)->(σ'.set 0 (some (u i))).set 1 (some (v i))=st i) (row:Nat->List V)
  (he:∀i,i<kvs.length->∀(H':Hp)(G:VK),(∀a H'',H' a=none->ar H' H''->H'' a=some (.tup (row i))->G (.ref a) H'')->te (st i) H' G)
  (hq:∀l bs H2,H l=none->ar H H2->H2 l=some (.lst (bs.map V.ref))->QE (fun i a=>H2 a=some (.tup (row i))) (QM kvs.length) bs->Q (.ref l) H2):
  iG (cy mp (yb td) (d0 K 2 (bj (av 0) (bj (av 1) eB))) eA te) σ H Q:=by
 exists d,kvs,hd
 refine ow ?_
 refine htd _ ⟨d,kvs,rfl,hd,fun o w hw hne=>?_⟩
 have hl0:∀a,upd (upd H w (nO w d)) d (.frz o (.dK kvs)) a=none->H a=none:=fun a ha=>by
  by_cases h1:a=d
  ·subst h1;rw[ay]at ha;cases ha
  ·rw[ax h1]at ha
   by_cases h2:a=w
   ·subst h2;exact hw
   ·rwa [ax h2]at ha
 refine nC (Cz 0 1 u v hu) st hf (fun H' s=>s _ _ ay) hz (fun _=>true) row (fun i hi H' G s k=>k H' (ar.refl _)) (fun i hi _ H' G _ k=>he i hi H' G k) fun l bs H' h0 s h1 pr=>?_
 rw[SI.mpr (fun _ _=>rfl)]at pr
 have hfd:H' d=some (.frz o (.dK kvs)):=s _ _ ay
 have hld:l≠d:=fun e=>by rw[e,ay]at h0;cases h0
 refine⟨o,kvs,hfd,hq l bs _ (hl0 l h0) (fun a x ha=>?_) (by rw[ax hld];exact h1) (Paired.mapP pr fun i a q=>?_)⟩
 ·by_cases h1:a=d
  ·subst h1
   rw[ay,<-hd];exact ha
  ·rw[ax h1]
   have hw2:a≠w:=fun e=>by rw[e,hw]at ha;cases ha
   exact s _ _ (by rw[ax h1,ax hw2];exact ha)
 ·rw[ax (fun e=>by rw[e,hfd]at q;cases q)];exact q
end
def OP(d:Qh)(o:Qo)(kvs:List (Key×V)):It:=
 ⟨fun i H=>H d=some (.frz o (.dK kvs))/\i<kvs.length,fun i H x H'=>H'=H/\∃p,kvs[i]?=some p/\x=kV p.1,fun i H=>H d=some (.frz o (.dK kvs))/\kvs.length<=i⟩
theorem HB{P:Qy}{w:Qv}{K:Qj}{tg:Qp}(d it:Qh)(o:Qo)(es:Array Si)(ep:Nat)(ho:o.data=.dict es ep)(kvs:List (Key×V)):
  Turn P w K tg (OP d o kvs) [it] it (fun i h=>h.IsKeyIter it d i kvs.length ep) where
 mem:=⋯
 obj:=fun i h st b hb=>by
  have z:b=it:=by simpa using hb
  subst z
  obtain⟨io,e,c,dt⟩:=st
  exact⟨io,e,fun v z=>by rw[dt]at z;cases z⟩
 keep:=fun i h h' st k=>by
  obtain⟨io,e,r⟩:=st
  exact⟨io,k it ⋯ io e,r⟩
 item:=by
  intro X hP hw hK hc i pins s σ H E I hf st hg
  subst hP hw hK
  obtain⟨hd,hi⟩:=hg
  obtain⟨vs,rel,hat⟩:=j7 I hd ho
  have hlen:kvs.length=vs.length:=QU rel
  obtain⟨f0,f1,f2,f3,f4,f5⟩:=hf it ⋯
  have hvi:vs[i]?=some vs[i]:=Qz (by omega)
  obtain⟨p,hp1,hp2,hp3⟩:=mr rel i _ hvi
  have st':s.heap.IsKeyIter it d i vs.length ep:=by rw[<-hlen];exact st
  refine wpAny_pyNext_dict_item (knd:=bh X.prog X.w) (k:=(vs[i]).1) (v:=(vs[i]).2) st' hat hvi fun key h' hkey hit' sb=>?_
  have I1:Inv X pins σ H {s with heap:=h',toks:=s.toks}:=I.turned (t':=s.toks) (fun b o hb e=>(sb.2 b hb).trans e) f0 f1 f3 f4 f5
  obtain⟨io,e,c,dt⟩:=id hit'
  refine⟨_,rfl,Dc (s:={s with heap:=h'}) e c dt (by decide) ⟨kV p.1,H,I1,by rw[hp2];exact sP hkey,⟨rfl,p,hp1,rfl⟩,by rw[hlen];exact hit',fun b hb=>(hf b hb).1⟩⟩
 done:=by
  intro X hP hw hK hc i pins s σ H E I hf st hg
  subst hP hw hK
  obtain⟨hd,hi⟩:=hg
  obtain⟨vs,rel,hat⟩:=j7 I hd ho
  have hlen:kvs.length=vs.length:=QU rel
  obtain⟨f0,f1,f2,f3,f4,f5⟩:=hf it ⋯
  have st':s.heap.IsKeyIter it d i vs.length ep:=by rw[<-hlen];exact st
  exact wpAny_pyNext_dict_end (knd:=bh X.prog X.w) (I.ok.hd hc) st' hat (SY (by omega)) fun h' eb=>⟨rfl,I.turned (t':=s.toks) (fun b o hb e'=>eb b o hb e') f0 f1 f3 f4 f5⟩
 self:=fun _ _ _ _ _ st h=>wpAny_pyIter_keyiter st h
section
variable {X:Cx}{tg:Qp}
def Cv(td:TE):TI:=fun σ H R=>td σ H fun x H1=>∃(d:Qh)(kvs:List (Key×V)),x=.ref d/\H1 d=some (.dK kvs)/\∀(o:Qo),R (OP d o kvs) (upd H1 d (.frz o (.dK kvs)))
theorem FP{l:Qp}{tl:TE}(hl:PE X l tl):PI X tg l (Cv tl):=by
 intro pins s σ H R I h
 refine cX (hl pins s σ H _ I h) fun v s1 ⟨x,H1,I1,r1,d,kvs,ex,hd,q1⟩=>?_
 subst ex
 cases(show v=QL d from r1)
 obtain⟨z,hdS,vs,rel,dd⟩:=fZ I1.hok (.inl hd)
 have hlen:kvs.length=vs.length:=QU rel
 obtain⟨o,es,ep,ho,hex,hdat,r⟩:=id dd
 have IF:=I1.freeze hd ho
 have hat:s1.heap.DictAt (bh X.prog X.w) d vs ep:=⟨o,es,ho,hex,hdat,r⟩
 refine Uq (knd:=bh X.prog X.w) hdS hat ?_
 refine⟨_,[_],_,OP d o kvs,_,rfl,IF.kept (t':=s1.toks) (fun b u e=>QS _ e),HB d _ o es ep hdat kvs,⟨_,QX _ rfl,rfl,by rw[hlen];rfl⟩,fun b hb=>?_,q1 o⟩
 have zb:b=s1.heap.objs.size:=by simpa using hb
 subst zb
 exact IF.fpOk (QC _) (IF.hok.fresh (QC _))
end
theorem Gm{d:Qh}{o:Qo}{kvs:List (Key×V)}(p:Nat)(u:Nat->V)(hu:∀i q,kvs[i]?=some q->kV q.1=u i):
  Ys (OP d o kvs) (av p) (fun H=>H d=some (.frz o (.dK kvs))) kvs.length (fun i σ=>σ.set p (some (u i))) where
 go:=fun i H hi h=>⟨h,hi⟩
 stop:=fun H h=>⟨h,QC _⟩
 yld:=fun i H x H' σ Q hi h y q=>by
  obtain⟨e,w,hw,ex⟩:=y
  subst e ex
  rw[hu i w hw]
  exact q _ (ar.refl _)
section
variable {K:Qj}{mp:List (Option Nat)}{tt:TT}{te td:TE}{σ:St}{H:Hp}{Q:VK}{d:Qh}{kvs:List (Key×V)}
theorem G8(htd:∀k:VK,k (.ref d) H->td σ H k)(hd:H d=some (.dK kvs))(hz:kvs.length<=Qr)(u:Nat->V)(hu:∀i q,kvs[i]?=some q->kV q.1=u i)
  (st:Nat->St) (hf:∀i σ',(σ'=dM mp σ\/∃j,σ'=st j)->σ'.set 0 (some (u i))=st i) (b:Nat->Bool) (F:Nat->V)
  (ht:∀i,i<kvs.length->∀(H':Hp)(G:Bool->Hp->Prop),fJ d H H'->(∀H'',ar H' H''->G (b i) H'')->tt (st i) H' G)
  (he:∀i,i<kvs.length->b i=true->∀(H':Hp)(G:VK),fJ d H H'->(∀H'',ar H' H''->G (F i) H'')->te (st i) H' G)
  (hq:∀l H2,H l=none->ar H H2->H2 l=some (.lst (((QM kvs.length).filter b).map F))->Q (.ref l) H2):
  iG (cy mp (Cv td) (av 0) tt te) σ H Q:=by
 exists d,kvs,hd
 refine ow ?_
 refine htd _ ⟨d,kvs,rfl,hd,fun o=>?_⟩
 have hl0:∀a,upd H d (.frz o (.dK kvs)) a=none->H a=none:=fun a ha=>by
  by_cases h1:a=d
  ·subst h1;rw[ay]at ha;cases ha
  ·rwa [ax h1]at ha
 have hx:∀H',ar (upd H d (.frz o (.dK kvs))) H'->fJ d H H':=fun H' s a x ha h=>s _ _ (by rw[ax ha];exact h)
 refine qP (Gm 0 u hu) st hf (fun H' s=>s _ _ ay) hz b F (fun i hi H' G s k=>ht i hi H' G (hx H' s) k) (fun i hi hb H' G s k=>he i hi hb H' G (hx H' s) k) fun l H' h0 s h1=>?_
 have hfd:H' d=some (.frz o (.dK kvs)):=s _ _ ay
 have hld:l≠d:=fun e=>by rw[e,ay]at h0;cases h0
 refine⟨o,kvs,hfd,hq l _ (hl0 l h0) (fun a x ha=>?_) (by rw[ax hld];exact h1)⟩
 by_cases h1:a=d
 ·subst h1
  rw[ay,<-hd];exact ha
 ·rw[ax h1]
  exact hx H' s a x h1 ha
end
section
variable {X:Cx}
def HC(K:Qj)(neg:Bool):R2:=fun x y H Q=>∃(ds:List QY)(d:QY),dW K H y (.list ds)/\dW K H x d/\eY 8 (.list ds)/\eY 8 d/\Q (.bl ((ds.any fun y=>same y d) != neg)) H
theorem Dv{ds:List QY}{d:QY}(h1:d6 ds=true)(h2:nice d=true):(ds.any fun y=>PyData.eqv y d)=ds.any fun y=>same y d:=by
 induction ds with
 |nil=>rfl
 |cons a r ih=>
  rw[d6,Rj]at h1
  rw[SK,SK,ih h1.2,SeqAt.same_eq_eqv a d (sF a d h1.1 h2)]
theorem Ga{ds:List QY}(h:eY 8 (.list ds)):d6 ds=true/\Tj ds<=8:=by
 obtain⟨h1,h2⟩:=h
 rw[nice]at h1
 rw[SJ]at h2
 exact⟨h1,by omega⟩
theorem Kw(hu:X.A.units+64<cLine):jM X (Rc .In) (HC X.K false):=by
 intro pins s σ H x y u v Q I rx ry h
 obtain⟨ds,d,h1,h2,n1,n2,q⟩:=h
 obtain⟨as,a⟩:=fR I h1 ry
 obtain⟨bs,b⟩:=fR I h2 rx
 obtain⟨m1,m2⟩:=Ga n1
 refine SeqAt.in_list_reads a b (ie ds m1) (sj d n2.1) (by have:=n2.2;omega) ?_
 rw[Dv m1 n2.1]
 rw[TL]at q
 exact⟨.bl _,H,I,rfl,q⟩
theorem K3(hu:X.A.units+64<cLine):jM X (Rc .NotIn) (HC X.K true):=by
 intro pins s σ H x y u v Q I rx ry h
 obtain⟨ds,d,h1,h2,n1,n2,q⟩:=h
 obtain⟨as,a⟩:=fR I h1 ry
 obtain⟨bs,b⟩:=fR I h2 rx
 obtain⟨m1,m2⟩:=Ga n1
 refine SeqAt.notIn_list_reads a b (ie ds m1) (sj d n2.1) (by have:=n2.2;omega) ?_
 rw[Dv m1 n2.1]
 rw[Uy]at q
 exact⟨.bl _,H,I,rfl,q⟩
end
end L2
namespace L2
open PySem PySem.Spec PyProof.Rows PySem.W PySem.SeqAt PySem.MeetsSeq
open PySem.AutoSeq1 (wpAny_loadPart')
section
variable {X:Cx}
end
end L2
namespace L2
open PySem PySem.Spec PyProof.Rows PySem.W
section
variable {X:Cx}
def Jb:List V->Hp->VK->Prop:=fun xs H Q=>∃(d:Qh)(kvs:List (Key×V)),xs=[.ref d]/\H d=some (.dK kvs)/\∀l,H l=none->Q (.ref l) (upd H l (.lst (kvs.map fun p=>kV p.1)))
theorem Et(hc:X.calm=true):d4 X (.type "list") Jb:=by
 intro pins s σ H xs us Q I r h
 obtain⟨d,kvs,rfl,hd,q⟩:=h
 obtain⟨u,rfl,ru⟩:=vals1 r
 cases ru
 obtain⟨z,hdS,vs,rel,dd⟩:=fZ I.hok (.inl hd)
 obtain⟨ep,hat⟩:=dd.dictAt
 have hlen:kvs.length=vs.length:=QU rel
 refine kdl_call (kdl_dict (knd:=bh X.prog X.w) (kvs:=vs) (ep:=ep) hdS) (I.ok.hd hc) hat (by rw[<-hlen];exact z) fun h' tk acc c hk hl hacc=>?_
 have hal:acc.toList.length=vs.length:=by rw[Vf];exact hacc.1
 refine⟨.ref s.heap.objs.size,_,I.laid (t':=tk) (a:=s.heap.objs.size) (o:=.lst (kvs.map fun p=>kV p.1)) hk (QC _) ⟨by rw[Qw];exact z,acc.toList,c,?_,by rw[Wh];exact hl⟩,rfl,q _ (I.hok.fresh (QC _))⟩
 refine oG (by rw[Qw,hal,hlen]) fun i x u e1 e2=>?_
 obtain⟨k,y,hx,hkey⟩:=hacc.2 i u (by rw[<-WI];exact e2)
 obtain⟨p,hp1,hp2,_⟩:=mr rel i _ hx
 rw[SM,hp1]at e1
 cases e1
 show RelV (kV p.1) u
 rw[hp2]
 exact sP hkey
def oh(v d:Qh):HO:=.ext fun h=>h.IsValuesView v d
def Ky:V->List V->Hp->VK->Prop:=fun x vs H Q=>∃(d:Qh)(kvs:List (Key×V)),x=.ref d/\vs=[]/\H d=some (.dK kvs)/\∀v,H v=none->Q (.ref v) (upd H v (oh v d))
theorem KU:Po X "dict.values" Ky:=by
 intro pins s σ H x xs v us Q I rx r h
 obtain⟨d,kvs,rfl,rfl,e,q⟩:=h
 cases r
 cases(show v=QL d from rx)
 obtain⟨z,hd,vs,rel,dd⟩:=fZ I.hok (.inl e)
 refine TN U6 dd.typeIs YF (Y4 _) (meets_dict_values (bh X.prog X.w) d hd) ⟨⟨vs,dd⟩,?_⟩
 refine⟨.ref s.heap.objs.size,upd H s.heap.objs.size (oh s.heap.objs.size d),I.laid (t':=s.toks) (fun b u e=>QS _ e) (QC _) ⟨⟨_,QX _ rfl,rfl,rfl⟩,⟨_,QX _ rfl⟩,fun h1 h2 x k=>?_⟩,rfl,q _ (I.hok.fresh (QC _))⟩
 obtain⟨o,ho,r⟩:=x
 exact⟨o,k o ho,r⟩
def DU:List V->Hp->VK->Prop:=fun xs H Q=>∃(v d:Qh)(kvs:List (Key×V)),xs=[.ref v]/\H v=some (oh v d)/\H d=some (.dK kvs)/\∀l,H l=none->Q (.ref l) (upd H l (.lst (kvs.map (·.2))))
theorem Av(hc:X.calm=true):d4 X (.type "list") DU:=by
 intro pins s σ H xs us Q I r h
 obtain⟨v,d,kvs,rfl,hv,hd,q⟩:=h
 obtain⟨u,rfl,ru⟩:=vals1 r
 cases ru
 obtain⟨z,hdS,vs,rel,dd⟩:=fZ I.hok (.inl hd)
 obtain⟨ep,hat⟩:=dd.dictAt
 have hlen:kvs.length=vs.length:=QU rel
 have hvw:s.heap.IsValuesView v d:=(show de X.prog X.w H s.heap v (oh v d)from I.hok v _ hv).1
 refine kdl_call (kdl_values (knd:=bh X.prog X.w) (kvs:=vs) (ep:=ep)) (I.ok.hd hc) ⟨hvw,hat⟩ (by rw[<-hlen];exact z) fun h' tk acc c hk hl hacc=>?_
 have hal:acc.toList.length=vs.length:=by rw[Vf];exact hacc.1
 refine⟨.ref s.heap.objs.size,_,I.laid (t':=tk) (a:=s.heap.objs.size) (o:=.lst (kvs.map (·.2))) hk (QC _) ⟨by rw[Qw];exact z,acc.toList,c,?_,by rw[Wh];exact hl⟩,rfl,q _ (I.hok.fresh (QC _))⟩
 refine oG (by rw[Qw,hal,hlen]) fun i x u e1 e2=>?_
 obtain⟨k,hx⟩:=hacc.2 i u (by rw[<-WI];exact e2)
 obtain⟨p,hp1,hp2,hp3⟩:=mr rel i _ hx
 rw[SM,hp1]at e1
 cases e1
 exact hp3
end
def Oy(d:Qh)(o:Qo)(kvs:List (Key×V)):It:=
 ⟨fun i H=>H d=some (.frz o (.dK kvs))/\i<kvs.length,fun i H x H'=>H'=H/\∃p,kvs[i]?=some p/\x=p.2,fun i H=>H d=some (.frz o (.dK kvs))/\kvs.length<=i⟩
theorem HG{P:Qy}{w:Qv}{K:Qj}{tg:Qp}(d it:Qh)(o:Qo)(es:Array Si)(ep:Nat)(ho:o.data=.dict es ep)(kvs:List (Key×V)):
  Turn P w K tg (Oy d o kvs) [it] it (fun i h=>h.IsValIter it d i kvs.length ep) where
 mem:=⋯
 obj:=fun i h st b hb=>by
  have z:b=it:=by simpa using hb
  subst z
  obtain⟨io,e,c,dt⟩:=st
  exact⟨io,e,fun v z=>by rw[dt]at z;cases z⟩
 keep:=fun i h h' st k=>by
  obtain⟨io,e,r⟩:=st
  exact⟨io,k it ⋯ io e,r⟩
 item:=by
  intro X hP hw hK hc i pins s σ H E I hf st hg
  subst hP hw hK
  obtain⟨hd,hi⟩:=hg
  obtain⟨vs,rel,hat⟩:=j7 I hd ho
  have hlen:kvs.length=vs.length:=QU rel
  obtain⟨f0,f1,f2,f3,f4,f5⟩:=hf it ⋯
  have hvi:vs[i]?=some vs[i]:=Qz (by omega)
  obtain⟨p,hp1,hp2,hp3⟩:=mr rel i _ hvi
  have st':s.heap.IsValIter it d i vs.length ep:=by rw[<-hlen];exact st
  refine wpAny_pyNext_values_item (knd:=bh X.prog X.w) (k:=(vs[i]).1) (v:=(vs[i]).2) st' hat hvi fun h' hit' sb=>?_
  have I1:Inv X pins σ H {s with heap:=h',toks:=s.toks}:=I.turned (t':=s.toks) (fun b o hb e=>(sb.2 b hb).trans e) f0 f1 f3 f4 f5
  obtain⟨io,e,c,dt⟩:=id hit'
  refine⟨_,rfl,Dc (s:={s with heap:=h'}) e c dt (by decide) ⟨p.2,H,I1,hp3,⟨rfl,p,hp1,rfl⟩,by rw[hlen];exact hit',fun b hb=>(hf b hb).1⟩⟩
 done:=by
  intro X hP hw hK hc i pins s σ H E I hf st hg
  subst hP hw hK
  obtain⟨hd,hi⟩:=hg
  obtain⟨vs,rel,hat⟩:=j7 I hd ho
  have hlen:kvs.length=vs.length:=QU rel
  obtain⟨f0,f1,f2,f3,f4,f5⟩:=hf it ⋯
  have st':s.heap.IsValIter it d i vs.length ep:=by rw[<-hlen];exact st
  exact wpAny_pyNext_values_end (knd:=bh X.prog X.w) (I.ok.hd hc) st' hat (SY (by omega)) fun h' eb=>⟨rfl,I.turned (t':=s.toks) (fun b o hb e'=>eb b o hb e') f0 f1 f3 f4 f5⟩
 self:=fun _ _ _ _ _ st h=>wpAny_pyIter_valiter st h
section
variable {X:Cx}{tg:Qp}
def IZ(td:TE):TI:=fun σ H R=>td σ H fun x H1=>∃(d:Qh)(kvs:List (Key×V)),x=.ref d/\H1 d=some (.dK kvs)/\∀(o:Qo)(v:Qh),H1 v=none->v≠d->R (Oy d o kvs) (upd (upd H1 v (oh v d)) d (.frz o (.dK kvs)))
theorem Lu{e:Qp}{td:TE}{apos cpos:QH}(he:PE X e td)
  (hbase:Tp e "values" X.env (eval e X.env)=eval e X.env:=by rfl) (hline:(apos.endLine==cpos.line)=true:=by rfl):
  PI X tg (.Call (.Attribute e "values" apos) [] [] cpos) (IZ td):=by
 intro pins s σ H R I h
 refine wpAny_Call_method0_late hbase hline (cX (he pins s σ H _ I h) fun v s1 ⟨x,H1,I1,r1,d,kvs,ex,hd,q1⟩=>?_)
 subst ex
 cases(show v=QL d from r1)
 obtain⟨z,hdS,vs,rel,dd⟩:=fZ I1.hok (.inl hd)
 have hlen:kvs.length=vs.length:=QU rel
 have h2:∀a,QL d=.ref a->∃ob,s1.heap.get? a=some ob/\ob.dict=none:=fun a e=>by
  cases e
  obtain⟨o,_,_,ho,hex,_⟩:=id dd
  exact⟨o,ho,hex.2.1⟩
 refine⟨"dict","dict.values",US,U6,Xk,dd.typeIs,h2,Ut rfl (Wt ?_)⟩
 refine TN U6 dd.typeIs YF (Y4 _) (meets_dict_values (bh X.prog X.w) d hdS) ⟨⟨vs,dd⟩,?_⟩
 have fV:H1 s1.heap.objs.size=none:=I1.hok.fresh (QC _)
 have hdlt:d<s1.heap.objs.size:=I1.hok.lt hd
 have IV:Inv X pins σ (upd H1 s1.heap.objs.size (oh s1.heap.objs.size d)) {s1 with heap:=s1.heap.push {cls:=.type "dict_values",data:=.fields #[.ref d]},toks:=s1.toks}:=
  I1.laid (t':=s1.toks) (fun b u e=>QS _ e) (QC _) ⟨⟨_,QX _ rfl,rfl,rfl⟩,⟨_,QX _ rfl⟩,fun h1 h2 x k=>by
   obtain⟨o,ho,r⟩:=x
   exact⟨o,k o ho,r⟩⟩
 have hd':upd H1 s1.heap.objs.size (oh s1.heap.objs.size d) d=some (.dK kvs):=by rw[ax (QV hdlt)];exact hd
 obtain⟨o,es,ep,ho,hex,hdat,r⟩:=id dd
 have ho1:(s1.heap.push {cls:=.type "dict_values",data:=.fields #[.ref d]}).get? d=some o:=QS _ ho
 have IF:=IV.freeze hd' ho1
 have hat:(s1.heap.push {cls:=.type "dict_values",data:=.fields #[.ref d]}).DictAt (bh X.prog X.w) d vs ep:=⟨o,es,ho1,hex,hdat,r⟩
 show Ql _ _ (pyIter (.ref s1.heap.objs.size)) _ _ _
 refine wpAny_pyIter_values (knd:=bh X.prog X.w) (d:=d) ⟨_,QX _ rfl,rfl,rfl⟩ hat ?_
 refine⟨_,[_],_,Oy d o kvs,_,rfl,IF.kept (t':=s1.toks) (fun b u e=>QS _ e),HG d _ o es ep hdat kvs,⟨_,QX _ rfl,rfl,by rw[hlen];rfl⟩,fun b hb=>?_,q1 o _ fV (RK hdlt)⟩
 have zb:b=(s1.heap.push {cls:=.type "dict_values",data:=.fields #[.ref d]}).objs.size:=by simpa using hb
 subst zb
 exact IF.fpOk (QC _) (IF.hok.fresh (QC _))
end
section
variable {prog:Qy}{w:Qv}{κ:Type} [DecidableEq κ] {knd:KeyKind prog w κ}{A:QF}{E:Qi->Qk->Prop}{s:Qk}
theorem kW{it d:Qh}{i ep:Nat}{kvs:List (κ×Qi)}{k:κ}{v:Qi}{Q:Qi->Qk->Prop}(st:s.heap.IsKeyIter it d i kvs.length ep)(hm:s.heap.DictAt knd d kvs ep)(hx:kvs[i]?=some (k,v))
  (q:∀key h',knd.is k key=true->h'.IsKeyIter it d (i+1) kvs.length ep->Sh it s.heap h'->Q key {s with heap:=h'}):Ql (model prog w) A (Sq (.ref it)) Q E s:=by
 unfold Sq
 exact Qm (kdk_special st hm hx fun key h' h1 h2 h3=>QG (q key h' h1 h2 h3))
theorem oB{it d:Qh}{i ep:Nat}{kvs:List (κ×Qi)}{Q:Qi->Qk->Prop}(hA:A.handled=none)(st:s.heap.IsKeyIter it d i kvs.length ep)(hm:s.heap.DictAt knd d kvs ep)(none_:kvs[i]?=none)
  (q:∀h' e,Heap.ExtBut it s.heap h'->(∃x,h'.get? e=some x/\x.cls=.type "StopIteration")->E (.ref e) {s with heap:=h'}):Ql (model prog w) A (Sq (.ref it)) Q E s:=by
 obtain⟨io,g1,g2,g3⟩:=id st
 obtain⟨od,es,k1,k2,k3,k4,k5,k6⟩:=id hm
 have len:es.size=kvs.length:=by have:=k5.length;simpa using this
 have past:es.size<=i:=by rw[len];exact List.getElem?_eq_none_iff.mp none_
 unfold Sq
 refine Qm (Up (name:=UP "__next__") st.typeIs Yh (TM Yh st.typeIs Zs ?_ (aaB _)))
 refine Qm (QG (Qm (Qm ?_)))
 first|refine Qm (wpAny_typeNameOfWhole_keyiter st.typeIs (QG (Qm (wpAny_fieldsOf g1 g3 ?_))))|refine Qm (wpAny_typeNameOf_keyiter st.typeIs (QG (Qm (wpAny_fieldsOf g1 g3 ?_))))
 rw[show aaH "dict_keyiterator"=false from by decide]
 simp only[SO,if_false]
 show Ql _ _ (if(QL d==RC)=true then _ else _) _ _ s
 refine wpAny_ite_split (fun z=>absurd z Rf) fun _=>Qm (QG (Qm (wpAny_dictEntries k1 k3 ?_)))
 rw[if_neg (by rw[len];simp)]
 refine Qm (QG (Qm (wpAny_dictEpoch k1 k3 ?_)))
 rw[if_neg ⋯]
 refine QG ?_
 simp only[show ¬(((i:Nat):Int)<0)from by omega,if_false,VY,Array.getElem?_eq_none past]
 refine Qm ?_
 first|refine Qm (wpAny_typeNameOfWhole_keyiter st.typeIs (QG ?_))|refine Qm (wpAny_typeNameOf_keyiter st.typeIs (QG ?_))
 show Ql _ _ (setField (.ref it) 0 .none >>= _) _ _ s
 refine Qm (wpAny_setField g1 g3 ⋯ ?_)
 show Ql _ _ (newExc (.type "StopIteration") [] >>= _) _ _ _
 refine Qm ?_
 simp only[newExc,newTuple]
 refine Qm (wpAny_newObj_type (Qm (m:=firstArgMember _ _) (wpAny_of_eq (a:=RC) (by first|rfl|(simp only[firstArgMember];rfl)) (wpAny_newObj_type ?_ (by size_fits)))) (by size_fits))
 simp only[raiseNew]
 refine Qm (wpAny_handled ?_)
 first|rw[show A.in1.handled=none from hA]|rw[hA]
 exact Qm (QG (wpAny_throw (q _ _ (((ZM ..).extBut.push _).push _) ⟨_,QX _ rfl,rfl⟩)))
theorem xM(hA:A.handled=none)(it d:Qh)(hne:d≠it)(kvs:List (κ×Qi))(ep:Nat):
  Draws prog w A it [it,d] kvs.length (fun i v=>∃k x,kvs[i]?=some (k,x)/\knd.is k v=true) (fun i h=>h.IsKeyIter it d i kvs.length ep/\h.DictAt knd d kvs ep) where
 live:=fun _ _ st=>let ⟨o,ho,_⟩:=st.1;⟨o,ho⟩
 frame:=fun _ _ _ st hk=>⟨st.1.at fun o e=>hk it ⋯ o e,st.2.at' fun o e=>hk d ⋯ o e⟩
 item:=fun i s Q E hi st hQ=>by
  obtain⟨⟨k,x⟩,hx⟩:∃p,kvs[i]?=some p:=⟨kvs[i],by simp[hi]⟩
  exact kW st.1 st.2 hx fun key h' h1 h2 h3=>hQ key h' s.toks ⟨k,x,hx,h1⟩ ⟨h2,st.2.extBut h3.extBut hne⟩ h3
 done:=fun s Q E st hE=>oB hA st.1 st.2 ⋯ hE
def qh(d:Qh)(n ep:Nat):Qo:={cls:=.type "dict_keyiterator",data:=.fields #[.ref d,.int 0 0,.int n 0,.int ep 0]}
def A7(it:Qh):Qo:={cls:=.type "enumerate",data:=.fields #[.none,.bool false,.ref it,Rg 0,.none,.none]}
theorem yV(d:Qh)(lo:(d==R3)=false)(kvs:List (κ×Qi))(ep:Nat):
  MeetsIn prog w (R0.«enumerate.__new__» ⟨[.type "enumerate",.ref d],[]⟩) (fun _ R s=>s.heap.DictAt knd d kvs ep/\R (.ok (.ret (.ref (s.heap.push (qh d kvs.length ep)).objs.size))) {s with heap:=(s.heap.push (qh d kvs.length ep)).push (A7 s.heap.objs.size)}):=by
 refine WY fun A R s h=>?_
 obtain⟨hp,g,dr,tk,os⟩:=s
 obtain⟨hm,h⟩:=h
 have hsub:=sub_enumerate
 wp_walk
 refine wpAny_stack_any fun st=>QG ?_
 split
 ·rename_i c _ _ _ _ _
  cases(c==V6 "enumerate")
  ·wp_walk using(Uq (knd:=knd) lo hm)
   exact⟨_,rfl,h⟩
  ·wp_walk using(Uq (knd:=knd) lo hm)
   exact⟨_,rfl,h⟩
 ·wp_walk using(Uq (knd:=knd) lo hm)
  exact⟨_,rfl,h⟩
end
noncomputable def LP(d:Qh)(o:Qo)(kvs:List (Key×V)):It:=
 ⟨fun i H=>H d=some (.frz o (.dK kvs))/\i<kvs.length,fun i H x H'=>∃T p,x=.ref T/\H T=none/\kvs[i]?=some p/\H'=upd H T (.tup [.int i,kV p.1]),fun i H=>H d=some (.frz o (.dK kvs))/\kvs.length=i⟩
theorem En{P:Qy}{w:Qv}{K:Qj}{elts:List Qp}{x1}{pos:QH}(d e it:Qh)(o:Qo)(es:Array Si)(ep:Nat)(ho:o.data=.dict es ep)(kvs:List (Key×V))(hne:e≠it)(hdi:d≠it)(hde:d≠e):
  Turn P w K (.Tuple elts x1 pos) (LP d o kvs) [e,it] e (fun i h=>(∃old,IsEnum h e it ((i:Nat):Int) old)/\h.IsKeyIter it d i kvs.length ep) where
 mem:=⋯
 obj:=fun i h st b hb=>by
  obtain⟨⟨old,he⟩,o,ho,hc,hd⟩:=st
  rcases QI.mp hb with z|hb
  ·subst z
   exact⟨_,he,fun v z=>by
    have z':Uv _=Tr v:=z
    cases z'⟩
  ·have z:b=it:=by simpa using hb
   subst z
   exact⟨o,ho,fun v z=>by rw[hd]at z;cases z⟩
 keep:=fun i h h' st k=>by
  obtain⟨⟨old,he⟩,o,ho,r⟩:=st
  exact⟨⟨old,k e ⋯ _ he⟩,o,k it ⋯ _ ho,r⟩
 item:=by
  intro X hP hw hK hc i pins s σ H E I hf st hg
  subst hP hw hK
  obtain⟨⟨old,he⟩,hit⟩:=st
  obtain⟨hd,hi⟩:=hg
  obtain⟨vs,rel,hat⟩:=j7 I hd ho
  have hlen:kvs.length=vs.length:=QU rel
  have hit0:s.heap.IsKeyIter it d i vs.length ep:=by rw[<-hlen];exact hit
  obtain⟨f0,f1,f2,f3,f4,f5⟩:=hf e ⋯
  obtain⟨g0,g1,g2,g3,g4,g5⟩:=hf it ⋯
  have fT:H s.heap.objs.size=none:=I.fresh
  refine wpAny_pyNext_enum_itemD (xM (knd:=bh X.prog X.w) (A:=X.A.in1) (I.ok.hd hc) it d hdi vs ep) he ⟨hit0,hat⟩ (by omega) hne (by simp[hne,QT hde]) fun u h' tk hP heo hit' ht hsz hk=>⟨_,rfl,?_⟩
  obtain⟨k,y,hxy,hkey⟩:=hP
  obtain⟨p,hp1,hp2,_⟩:=mr rel i _ hxy
  have ru:RelV (kV p.1) u:=by rw[hp2];exact sP hkey
  refine wpAny_letOwnedTupleGo_enum heo fun h2 he2 hs2=>?_
  have hs2:Sh e h' h2:=hs2
  have heT:e≠s.heap.objs.size:=QV (QJ he)
  have oldK:∀b o,b≠e->b≠it->s.heap.get? b=some o->h2.get? b=some o:=fun b o h1 h2' q=>hs2.extBut b o h1 (hk b o h1 h2' q)
  have hT2:h2.get? s.heap.objs.size=some {cls:=.type "tuple",data:=.seq #[.int i tk,u]}:=hs2.extBut _ _ (QT heT) ht
  have neT:∀b o,s.heap.get? b=some o->b≠s.heap.objs.size:=fun b o q=>QV (QJ q)
  have nH:∀b w',H b=some w'->b≠e/\b≠it:=fun b w' q=>⟨fun z=>(by rw[z,f0]at q;cases q),fun z=>(by rw[z,g0]at q;cases q)⟩
  have I2:Inv X pins σ (upd H s.heap.objs.size (.tup [.int i,kV p.1])) {s with heap:=h2,toks:=tk+1}:=by
   refine I.step (g':=s.gens) (d':=s.drawn) (t':=tk+1) (ch:=[e,it]) (fun b hb=>?_) (fun b o _ _ hb q _=>?_) (fun b o _ _ hb q _=>?_) (fun b o _ q n=>?_) (fun b o hb q=>?_)
    (fun b ys q=>?_) (fun b o w' q=>?_) (fun b ps q=>?_) (fun m hm=>?_) (fun b w' q=>?_) I.bare
   ·rcases QI.mp hb with z|hb
    ·subst z;exact⟨f3,f1,f4,f5⟩
    ·have z:b=it:=by simpa using hb
     subst z;exact⟨g3,g1,g4,g5⟩
   ·exact oldK b o (fun z=>hb (by simp[z])) (fun z=>hb (by simp[z])) q
   ·exact⟨o.slots,oldK b o (fun z=>hb (by simp[z])) (fun z=>hb (by simp[z])) q⟩
   ·rw[ax (neT b o q)];exact n
   ·exact⟨o,oldK b o (fun z=>hb (by simp[z])) (fun z=>hb (by simp[z])) q⟩
   ·rw[ax (bx q fT)];exact q
   ·rw[ax (bx q fT)];exact q
   ·exact⟨#[],by rw[ax (bx q fT),q];simp⟩
   ·obtain⟨o,es,ep,ho,r⟩:=hm
    exact⟨o,es,ep,oldK _ o (QT f1) (QT g1) ho,r⟩
   ·by_cases hb:b=s.heap.objs.size
    ·subst hb
     rw[ay]at q
     cases q
     exact⟨by show 2<=Qr;decide,[.int i tk,u],.cons ⟨_,rfl⟩ (.cons ru .nil),_,hT2,rfl,_,rfl⟩
    ·rw[ax hb]at q
     refine(I.hok b w' q).stay (fun c v hc q'=>oldK c v ?_ ?_ q') (fun c q'=>?_) fun c ys q'=>?_
     ·rcases hc with z|z
      ·rw[z];exact(nH b w' q).1
      ·exact(nH c _ z).1
     ·rcases hc with z|z
      ·rw[z];exact(nH b w' q).2
      ·exact(nH c _ z).2
     ·rw[ax (bx q' fT)];exact q'
     ·rw[ax (bx q' fT)];exact q'
  refine⟨.ref s.heap.objs.size,_,I2,rfl,⟨s.heap.objs.size,p,rfl,fT,hp1,rfl⟩,⟨⟨u,?_⟩,?_⟩,fun b hb=>?_⟩
  ·have e1:((i+1:Nat):Int)=(i:Int)+1:=by omega
   rw[e1];exact he2
  ·rw[hlen]
   exact hit'.1.at fun o e=>hs2.extBut _ _ (QT hne) e
  ·have:b≠s.heap.objs.size:=by
    rcases QI.mp hb with z|hb
    ·rw[z];exact heT
    ·have z:b=it:=by simpa using hb
     rw[z]
     obtain⟨o,ho,_⟩:=hit
     exact neT it o ho
   rw[ax this]
   exact(hf b hb).1
 done:=by
  intro X hP hw hK hc i pins s σ H E I hf st hg
  subst hP hw hK
  obtain⟨⟨old,he⟩,hit⟩:=st
  obtain⟨hd,hi⟩:=hg
  obtain⟨vs,rel,hat⟩:=j7 I hd ho
  have hlen:kvs.length=vs.length:=QU rel
  obtain⟨g0,g1,g2,g3,g4,g5⟩:=hf it ⋯
  have hit0:s.heap.IsKeyIter it d i vs.length ep:=by rw[<-hlen];exact hit
  have en:i=vs.length:=by omega
  subst en
  exact wpAny_pyNext_enum_endD (xM (knd:=bh X.prog X.w) (A:=X.A.in1) (I.ok.hd hc) it d hdi vs ep) he ⟨hit0,hat⟩ fun h' eb=>⟨rfl,I.turned (t':=s.toks) (fun b o hb e'=>eb b o hb e') g0 g1 g3 g4 g5⟩
 self:=fun A i s Q E st h=>by
  obtain⟨⟨old,he⟩,_⟩:=st
  exact U8 he h
section
variable {X:Cx}
def EL(td:TE):TI:=fun σ H R=>td σ H fun x H1=>∃(d:Qh)(kvs:List (Key×V)),x=.ref d/\H1 d=some (.dK kvs)/\∀(o:Qo),R (LP d o kvs) (upd H1 d (.frz o (.dK kvs)))
theorem IY{l:Qp}{tl:TE}{elts:List Qp}{x1}{p pos pt:QH}(hg:Gl X "enumerate")(hm:X.mg "enumerate"=none)(hl:PE X l tl)(hs:Qx [l] X.env=[(false,eval l X.env)]:=by rfl):
  PI X (.Tuple elts x1 pt) (.Call (.Name "enumerate" p) [l] [] pos) (EL tl):=by
 intro pins s σ H R I h
 refine Call_ (kh I hg hm boot_enumerate (Td (cX (aa hl ag hs pos pins s σ H (fun vs H1=>∃x,vs=[x]/\∃(d:Qh)(kvs:List (Key×V)),x=.ref d/\H1 d=some (.dK kvs)/\∀(o:Qo),R (LP d o kvs) (upd H1 d (.frz o (.dK kvs)))) I ?_) fun us s1 ⟨vs,H1,I1,r1,q1⟩=>?_) hs rfl))
 ·have e:(fun (x:V) (H1:Hp)=>∃y,[x]=[y]/\∃(d:Qh)(kvs:List (Key×V)),y=V.ref d/\H1 d=some (HO.dK kvs)/\∀(o:Qo),R (LP d o kvs) (upd H1 d (.frz o (.dK kvs))))=fun x H1=>∃(d:Qh)(kvs:List (Key×V)),x=.ref d/\H1 d=some (.dK kvs)/\∀(o:Qo),R (LP d o kvs) (upd H1 d (.frz o (.dK kvs))):=by
   funext x H1
   simp
  show tl σ H (fun (x:V) (H1:Hp)=>∃y,[x]=[y]/\∃(d:Qh)(kvs:List (Key×V)),y=V.ref d/\H1 d=some (HO.dK kvs)/\∀(o:Qo),R (LP d o kvs) (upd H1 d (.frz o (.dK kvs))))
  rw[e]
  exact h
 ·obtain⟨x,rfl,d,kvs,rfl,hd,q⟩:=q1
  obtain⟨u,rfl,ru⟩:=vals1 r1
  cases ru
  obtain⟨z,hdS,vs,rel,dd⟩:=fZ I1.hok (.inl hd)
  have hlen:kvs.length=vs.length:=QU rel
  obtain⟨o,es,ep,ho,hex,hdat,r⟩:=id dd
  have IF:=I1.freeze hd ho
  have hat:s1.heap.DictAt (bh X.prog X.w) d vs ep:=⟨o,es,ho,hex,hdat,r⟩
  have hdlt:d<s1.heap.objs.size:=I1.hok.lt hd
  refine callType_newIn aaE (by decide) (Zi _) (ZA _) (fun obj=>Z6 obj _) ZN (yV (knd:=bh X.prog X.w) d hdS vs ep) ⟨hat,?_⟩
  have hz1:(s1.heap.push (qh d vs.length ep)).objs.size=s1.heap.objs.size+1:=RS ..
  show _/\_
  rw[hz1]
  have he:IsEnum ((s1.heap.push (qh d vs.length ep)).push (A7 s1.heap.objs.size)) (s1.heap.objs.size+1) s1.heap.objs.size 0 .none:=by
   have:=QX (s1.heap.push (qh d vs.length ep)) (o:=A7 s1.heap.objs.size) rfl
   rw[hz1]at this;exact this
  refine⟨⟨_,he,rfl⟩,U8 he ?_⟩
  have hk:∀b u,s1.heap.get? b=some u->((s1.heap.push (qh d vs.length ep)).push (A7 s1.heap.objs.size)).get? b=some u:=fun b u e=>QS _ (QS _ e)
  refine⟨s1.heap.objs.size+1,[s1.heap.objs.size+1,s1.heap.objs.size],_,LP d o kvs,_,rfl,IF.kept (t':=s1.toks) hk,En d _ _ o es ep hdat kvs (W3 _) (QV hdlt) (QV (Vm hdlt)),⟨⟨.none,he⟩,⟨_,QS _ (QX _ rfl),rfl,by rw[hlen];rfl⟩⟩,fun b hb=>?_,q o⟩
  have hb':s1.heap.objs.size<=b:=by
   rcases QI.mp hb with z|hb
   ·rw[z];exact RM _
   ·have z:b=s1.heap.objs.size:=by simpa using hb
    rw[z];exact QC _
  exact IF.fpOk hb' (IF.hok.fresh hb')
end
theorem JV{K:Qj}{d:Qh}{o:Qo}{kvs:List (Key×V)}(p r:Nat)(u:Nat->V)(hu:∀i q,kvs[i]?=some q->kV q.1=u i):
  Ys (LP d o kvs) (d0 K 2 (bj (av p) (bj (av r) eB))) (fun H=>H d=some (.frz o (.dK kvs))) kvs.length (fun i σ=>(σ.set p (some (.int i))).set r (some (u i))) where
 go:=fun i H hi h=>⟨h,hi⟩
 stop:=fun H h=>⟨h,rfl⟩
 yld:=fun i H x H' σ Q hi h y q=>by
  obtain⟨T,w,rfl,hT,hw,rfl⟩:=y
  exists T,_,rfl,iM.of ay,rfl,_,_,rfl,_,_,rfl,rfl
  have:=q _ (ar.updN hT (o:=.tup [.int i,kV w.1]))
  rw[<-hu i w hw]at this
  exact this
section
variable {prog:Qy}{w:Qv}{κ:Type} [DecidableEq κ] {knd:KeyKind prog w κ}{A:QF}{E:Qi->Qk->Prop}{s:Qk}
variable {z TI TO i1 i2 d l:Qh}{n ep:Nat}{kvs:List (κ×Qi)}{ys:Array Qi}{a b:Qi}
abbrev ee(s:Qk)(z TO i1 i2:Qh)(h':Qq):Prop:=∀c o,c≠z->c≠TO->c≠i1->c≠i2->s.heap.get? c=some o->h'.get? c=some o
theorem GA{k:κ}{v y:Qi}{Q:Qi->Qk->Prop}(D:RX z TI TO i1 i2 d l)(hz:RA s.heap z TI TO .none)(hTI:Q5 s.heap TI (.ref i1) (.ref i2))(hTO:Q5 s.heap TO a b)
  (h1:s.heap.IsKeyIter i1 d n kvs.length ep) (hd:s.heap.DictAt knd d kvs ep) (h2:s.heap.IsListIter i2 l n) (hl:s.heap.IsList l ys) (hx:kvs[n]?=some (k,v)) (hy:ys[n]?=some y)
  (q:∀x h',knd.is k x=true->RA h' z TI TO (Rg s.heap.objs.size)->Q5 h' TO x y->h'.IsKeyIter i1 d (n+1) kvs.length ep->h'.IsListIter i2 l (n+1)->Q5 h' s.heap.objs.size x y->h'.objs.size=s.heap.objs.size+1->ee s z TO i1 i2 h'->Q (.ref s.heap.objs.size) {s with heap:=h'}):
  Ql (model prog w) A (R0.«zip.__next__» ⟨[.ref z],[]⟩) (fun fin s'=>∃v,fin=.done (.ret v)/\Q v s') E s:=by
 show Ql _ _ (field (.ref z) 2 >>= _) _ _ _
 refine Qm (Ro hz rfl (x:=.bool false) rfl (Qm (Ro hz rfl (x:=.ref TI) rfl (Qm (Sy hTI rfl (Qm ?_))))))
 unfold Vu
 refine Qm (Ro hz rfl (x:=.none) rfl (QG ?_))
 simp only[if_true]
 refine Qm (wpAny_rule (Qm (Ro hz rfl (x:=.ref TO) rfl (Qm (TZ hz ⋯ fun m1 z1 e1=>Qm ?_)))))
 have z1:RA m1 z TI TO .ellipsis:=z1
 simp only[YE,Xx,UA,UU]
 refine Qm (Qm (wpAny_onRaise ?_))
 show Ql _ _ (Sq (.ref i1) >>= _) _ _ _
 refine Qm (kW (knd:=knd) (h1.at fun o e=>e1.extBut _ _ D.i1z e) (hd.extBut e1.extBut D.l1z) hx fun x m2 hkey g1 e2=>QG ?_)
 have t2:Q5 m2 TO a b:=e2.extBut _ _ D.TOi1 (e1.extBut _ _ D.TOz hTO)
 refine Qm (Sy t2 rfl (Qm (wpAny_updateSeq_pair t2 fun m3 t3 e3=>Qm (wpAny_letGo (QG (Qm (Qm (wpAny_onRaise ?_))))))))
 have t3:Q5 m3 TO x b:=t3
 show Ql _ _ (Sq (.ref i2) >>= _) _ _ _
 refine Qm (Y1 (h2.at fun o e=>e3.extBut _ _ D.TOi2.symm (e2.extBut _ _ D.i12.symm (e1.extBut _ _ D.i2z e))) (hl.at fun o e=>e3.extBut _ _ D.l2TO (e2.extBut _ _ D.l2i1 (e1.extBut _ _ D.l2z e))) hy fun m4 g2 e4=>QG ?_)
 have t4:Q5 m4 TO x b:=e4.extBut _ _ D.TOi2 t3
 refine Qm (Sy t4 rfl (Qm (wpAny_updateSeq_pair t4 fun m5 t5 e5=>Qm (wpAny_letGo (QG (QG ?_))))))
 have t5:Q5 m5 TO x y:=t5
 refine Qm (Sy t5 rfl (Qm (wpAny_newTuple ?_)))
 have sz:m5.objs.size=s.heap.objs.size:=by rw[e5.1,e4.1,e3.1,e2.1,e1.1]
 have z5:RA m5 z TI TO .ellipsis:=e5.extBut _ _ D.TOz.symm (e4.extBut _ _ D.i2z.symm (e3.extBut _ _ D.TOz.symm (e2.extBut _ _ D.i1z.symm z1)))
 have old:∀c o,c≠z->c≠TO->c≠i1->c≠i2->s.heap.get? c=some o->m5.get? c=some o:=fun c o c1 c2 c3 c4 e=>e5.extBut _ _ c2 (e4.extBut _ _ c4 (e3.extBut _ _ c2 (e2.extBut _ _ c3 (e1.extBut _ _ c1 e))))
 have g1':m5.IsKeyIter i1 d (n+1) kvs.length ep:=g1.at fun o e=>e5.extBut _ _ D.TOi1.symm (e4.extBut _ _ D.i12 (e3.extBut _ _ D.TOi1.symm e))
 have g2':m5.IsListIter i2 l (n+1):=g2.at fun o e=>e5.extBut _ _ D.TOi2.symm e
 have zlt:z<m5.objs.size:=QJ z5
 show Ql _ _ (Yt (.ref z) (.ref m5.objs.size) >>= _) _ _ _
 refine Qm ?_
 unfold Yt
 have z6:RA (m5.push {cls:=.type "tuple",data:=.seq #[x,y]}) z TI TO .ellipsis:=QS _ z5
 refine Qm (TZ z6 ⋯ fun m7 z7 e7=>?_)
 have z7:RA m7 z TI TO (Rg m5.objs.size):=z7
 refine TZ z7 ⋯ fun m8 z8 e8=>?_
 have z8:RA m8 z TI TO (Rg m5.objs.size):=z8
 have lift:∀c o,c≠z->m5.get? c=some o->m8.get? c=some o:=fun c o c1 e=>e8.extBut _ _ c1 (e7.extBut _ _ c1 (QS _ e))
 have t8:Q5 m8 m5.objs.size x y:=e8.extBut _ _ (RK zlt) (e7.extBut _ _ (RK zlt) (QX _ rfl))
 have s8:m8.objs.size=m5.objs.size+1:=by rw[e8.1,e7.1,RS]
 rw[sz]at z8 t8 s8
 refine QG ⟨_,rfl,?_⟩
 show Q (.ref m5.objs.size) _
 rw[sz]
 exact q x m8 hkey z8 (lift _ _ D.TOz t5) (g1'.at fun o e=>lift _ o D.i1z e) (g2'.at fun o e=>lift _ o D.i2z e) t8 s8 fun c o c1 c2 c3 c4 e=>lift c o c1 (old c o c1 c2 c3 c4 e)
theorem Jn{Q:Fin->Qk->Prop}(hA:A.handled=none)(D:RX z TI TO i1 i2 d l)(hz:RA s.heap z TI TO .none)(hTI:Q5 s.heap TI (.ref i1) (.ref i2))
  (h1:s.heap.IsKeyIter i1 d n kvs.length ep) (hd:s.heap.DictAt knd d kvs ep) (hx:kvs[n]?=none)
  (q:∀h' e,ee s z TO i1 i2 h'->(∃o,h'.get? e=some o/\o.cls=.type "StopIteration")->E (.ref e) {s with heap:=h'}):Ql (model prog w) A (R0.«zip.__next__» ⟨[.ref z],[]⟩) Q E s:=by
 show Ql _ _ (field (.ref z) 2 >>= _) _ _ _
 refine Qm (Ro hz rfl (x:=.bool false) rfl (Qm (Ro hz rfl (x:=.ref TI) rfl (Qm (Sy hTI rfl (Qm ?_))))))
 unfold Vu
 refine Qm (Ro hz rfl (x:=.none) rfl (QG ?_))
 simp only[if_true]
 refine Qm (wpAny_rule (Qm (Ro hz rfl (x:=.ref TO) rfl (Qm (TZ hz ⋯ fun m1 z1 e1=>Qm ?_)))))
 have z1:RA m1 z TI TO .ellipsis:=z1
 simp only[YE,Xx,UA,UU]
 refine Qm (Qm (wpAny_onRaise ?_))
 show Ql _ _ (Sq (.ref i1) >>= _) _ _ _
 refine Qm (oB (knd:=knd) hA (h1.at fun o e=>e1.extBut _ _ D.i1z e) (hd.extBut e1.extBut D.l1z) hx fun m2 e e2 ⟨oe,he,hc⟩=>?_)
 have z2:RA m2 z TI TO .ellipsis:=e2 _ _ D.i1z.symm z1
 have ez:e≠z:=fun x=>by subst x;rw[z2]at he;cases he;simp at hc
 exact TZ z2 ⋯ fun m3 _ e3=>q m3 e (fun c o c1 _ c3 _ x=>e3.extBut _ _ c1 (e2 _ _ c3 (e1.extBut _ _ c1 x))) ⟨oe,e3.extBut _ _ ez he,hc⟩
theorem pZ{k:κ}{v y:Qi}{Q:Option Qi->Qk->Prop}(D:RX z TI TO i1 i2 d l)(hz:RA s.heap z TI TO .none)(hTI:Q5 s.heap TI (.ref i1) (.ref i2))(hTO:Q5 s.heap TO a b)
  (h1:s.heap.IsKeyIter i1 d n kvs.length ep) (hd:s.heap.DictAt knd d kvs ep) (h2:s.heap.IsListIter i2 l n) (hl:s.heap.IsList l ys) (hx:kvs[n]?=some (k,v)) (hy:ys[n]?=some y)
  (q:∀x h',knd.is k x=true->RA h' z TI TO (Rg s.heap.objs.size)->Q5 h' TO x y->h'.IsKeyIter i1 d (n+1) kvs.length ep->h'.IsListIter i2 l (n+1)->Q5 h' s.heap.objs.size x y->h'.objs.size=s.heap.objs.size+1->ee s z TO i1 i2 h'->Q (some (.ref s.heap.objs.size)) {s with heap:=h'}):
  Ql (model prog w) A (RB (.ref z)) Q E s:=by
 have hT:s.TypeIs (.ref z) "zip":=⟨_,hz,rfl⟩
 unfold RB
 exact Qm (UW (Up (name:=UP "__next__") hT S2 (TM S2 hT Va (GA D hz hTI hTO h1 hd h2 hl hx hy fun x h' a0 a1 a2 a3 a4 a5 a6 a7=>QG (q x h' a0 a1 a2 a3 a4 a5 a6 a7)) (Vc _))))
theorem rN{Q:Option Qi->Qk->Prop}(hA:A.handled=none)(D:RX z TI TO i1 i2 d l)(hz:RA s.heap z TI TO .none)(hTI:Q5 s.heap TI (.ref i1) (.ref i2))
  (h1:s.heap.IsKeyIter i1 d n kvs.length ep) (hd:s.heap.DictAt knd d kvs ep) (hx:kvs[n]?=none) (q:∀h',ee s z TO i1 i2 h'->Q none {s with heap:=h'}):Ql (model prog w) A (RB (.ref z)) Q E s:=by
 have hT:s.TypeIs (.ref z) "zip":=⟨_,hz,rfl⟩
 unfold RB
 refine Qm (UW (Up (name:=UP "__next__") hT S2 (TM S2 hT Va (Jn (knd:=knd) (by first|exact hA|exact(show A.in1.handled=none from hA)) D hz hTI h1 hd hx fun h' e hk ⟨o,ho,hc⟩=>?_) (Vc _))))
 exact Qm (wpAny_isInstance (T:="StopIteration") (b:=true) ⟨o,ho,hc⟩ isSubtype_stop (QG (q _ hk)))
end
noncomputable def Pd(K:Qj)(d l:Qh)(o:Qo)(kvs:List (Key×V)):It:=
 ⟨fun i H=>H d=some (.frz o (.dK kvs))/\∃ys y p,bo K H l ys/\ys[i]?=some y/\kvs[i]?=some p,
  fun i H x H'=>∃T p v,x=.ref T/\H T=none/\H'=upd H T (.tup [kV p.1,v])/\kvs[i]?=some p/\∀ys,bo K H l ys->ys[i]?=some v,
  fun i H=>H d=some (.frz o (.dK kvs))/\kvs.length=i⟩
theorem HR{P:Qy}{w:Qv}{K:Qj}{elts:List Qp}{x1}{pos:QH}(d l z TI TO i1 i2:Qh)(o:Qo)(es:Array Si)(ep:Nat)(ho:o.data=.dict es ep)(kvs:List (Key×V))(D:RX z TI TO i1 i2 d l):
  Turn P w K (.Tuple elts x1 pos) (Pd K d l o kvs) [z,TO,i1,i2,TI] z (fun i h=>RA h z TI TO .none/\Q5 h TI (.ref i1) (.ref i2)/\(∃u v,Q5 h TO u v)/\h.IsKeyIter i1 d i kvs.length ep/\h.IsListIter i2 l i) where
 mem:=⋯
 obj:=fun i h st c hb=>by
  obtain⟨hz,hTI,⟨u,v,hTO⟩,⟨o1,ho1,hc1,hd1⟩,o2,ho2,hc2,hd2⟩:=st
  have hb':c=z\/c=TO\/c=i1\/c=i2\/c=TI:=by simpa using hb
  rcases hb' with rfl|rfl|rfl|rfl|rfl
  ·exact⟨_,hz,fun v q=>by have q':Uv _=Tr v:=q;cases q'⟩
  ·exact⟨_,hTO,fun v q=>by have q':Wy _ _=Tr v:=q;cases q'⟩
  ·exact⟨o1,ho1,fun v q=>by rw[hd1]at q;cases q⟩
  ·exact⟨o2,ho2,fun v q=>by rw[hd2]at q;cases q⟩
  ·exact⟨_,hTI,fun v q=>by have q':Wy _ _=Tr v:=q;cases q'⟩
 keep:=fun i h h' st k=>by
  obtain⟨hz,hTI,⟨u,v,hTO⟩,⟨o1,ho1,r1⟩,o2,ho2,r2⟩:=st
  exact⟨k z ⋯ _ hz,k TI ⋯ _ hTI,⟨u,v,k TO ⋯ _ hTO⟩,⟨o1,k i1 ⋯ _ ho1,r1⟩,o2,k i2 ⋯ _ ho2,r2⟩
 item:=by
  intro X hP hw hK hc i pins s σ H E I hf st hg
  subst hP hw hK
  obtain⟨hz,hTI,⟨u0,v0,hTO⟩,hi1,hi2⟩:=st
  obtain⟨hd,ys,y,p,hS2,hy,hp⟩:=hg
  obtain⟨vs,rel,hat⟩:=j7 I hd ho
  have hlen:kvs.length=vs.length:=QU rel
  have hi10:s.heap.IsKeyIter i1 d i vs.length ep:=by rw[<-hlen];exact hi1
  obtain⟨its2,rv2,pl2,hz2⟩:=I.list hS2
  obtain⟨v,hv,rv⟩:=rv2.get hy
  have hik:i<vs.length:=by rw[<-hlen];exact(Q0.mp hp).1
  have hvi:vs[i]?=some ((vs[i]).1,(vs[i]).2):=Qz hik
  obtain⟨p',hp1,hp2,_⟩:=mr rel i _ hvi
  rw[hp]at hp1
  cases hp1
  have fT:H s.heap.objs.size=none:=I.fresh
  refine pZ (knd:=bh X.prog X.w) D hz hTI hTO hi10 hat hi2 pl2.isList (y:=v) hvi (by simpa using hv) fun u h' hkey kz kTO k1 k2 hT hsz hk=>⟨_,rfl,?_⟩
  have ru:RelV (kV p.1) u:=by rw[hp2];exact sP hkey
  refine wpAny_letOwnedTupleGo_zip kz fun h2 kz2 hs2=>?_
  have hs2:Sh z h' h2:=hs2
  have zT:z≠s.heap.objs.size:=QV (QJ hz)
  have oldK:∀c o,c∉[z,TO,i1,i2,TI]->s.heap.get? c=some o->h2.get? c=some o:=fun c o hc q=>by
   have hc':¬(c=z\/c=TO\/c=i1\/c=i2\/c=TI):=by simpa using hc
   exact hs2.extBut c o (fun e=>hc' (.inl e)) (hk c o (fun e=>hc' (.inl e)) (fun e=>hc' (.inr (.inl e))) (fun e=>hc' (.inr (.inr (.inl e)))) (fun e=>hc' (.inr (.inr (.inr (.inl e))))) q)
  have hT2:h2.get? s.heap.objs.size=some {cls:=.type "tuple",data:=.seq #[u,v]}:=hs2.extBut _ _ (QT zT) hT
  have neT:∀b o,s.heap.get? b=some o->b≠s.heap.objs.size:=fun b o q=>QV (QJ q)
  have nH:∀b w',H b=some w'->b∉[z,TO,i1,i2,TI]:=fun b w' q hb=>by rw[(hf b hb).1]at q;cases q
  have I2:Inv X pins σ (upd H s.heap.objs.size (.tup [kV p.1,y])) {s with heap:=h2}:=by
   refine I.step (g':=s.gens) (d':=s.drawn) (t':=s.toks) (ch:=[z,TO,i1,i2,TI]) (fun b hb=>?_) (fun b o _ _ hb q _=>oldK b o hb q) (fun b o _ _ hb q _=>⟨o.slots,oldK b o hb q⟩) (fun b o _ q n=>?_) (fun b o hb q=>⟨o,oldK b o hb q⟩)
    (fun b ys' q=>?_) (fun b o w' q=>?_) (fun b ps q=>?_) (fun m hm=>?_) (fun b w' q=>?_) I.bare
   ·obtain⟨_,f1,_,f3,f4,f5⟩:=hf b hb
    exact⟨f3,f1,f4,f5⟩
   ·rw[ax (neT b o q)];exact n
   ·rw[ax (bx q fT)];exact q
   ·rw[ax (bx q fT)];exact q
   ·exact⟨#[],by rw[ax (bx q fT),q];simp⟩
   ·obtain⟨o,es,ep,ho,r⟩:=hm
    exact⟨o,es,ep,oldK _ o (fun q=>(hf _ q).2.1 rfl) ho,r⟩
   ·by_cases hb:b=s.heap.objs.size
    ·subst hb
     rw[ay]at q
     cases q
     exact⟨by show 2<=Qr;decide,[u,v],.cons ru (.cons rv .nil),_,hT2,rfl,_,rfl⟩
    ·rw[ax hb]at q
     refine(I.hok b w' q).stay (fun c v' hc q'=>oldK c v' ?_ q') (fun c q'=>?_) fun c ys' q'=>?_
     ·rcases hc with e|e
      ·rw[e];exact nH b w' q
      ·exact nH c _ e
     ·rw[ax (bx q' fT)];exact q'
     ·rw[ax (bx q' fT)];exact q'
  refine⟨.ref s.heap.objs.size,_,I2,rfl,⟨s.heap.objs.size,p,y,rfl,fT,rfl,hp,fun ys' hys=>?_⟩,⟨kz2,?_,⟨u,v,?_⟩,?_,?_⟩,fun b hb=>?_⟩
  ·rw[I.list_inj hys hS2];exact hy
  ·exact hs2.extBut _ _ D.TIz (hk _ _ D.TIz D.TITO D.TIi1 D.TIi2 hTI)
  ·exact hs2.extBut _ _ D.TOz kTO
  ·rw[hlen];exact k1.at fun o e=>hs2.extBut _ _ D.i1z e
  ·exact k2.extBut hs2.extBut D.i2z
  ·have:b≠s.heap.objs.size:=by
    have hb':b=z\/b=TO\/b=i1\/b=i2\/b=TI:=by simpa using hb
    obtain⟨o1,ho1,_⟩:=hi1
    obtain⟨o2,ho2,_⟩:=hi2
    rcases hb' with rfl|rfl|rfl|rfl|rfl
    ·exact zT
    ·exact neT _ _ hTO
    ·exact neT _ _ ho1
    ·exact neT _ _ ho2
    ·exact neT _ _ hTI
   rw[ax this]
   exact(hf b hb).1
 done:=by
  intro X hP hw hK hc i pins s σ H E I hf st hg
  subst hP hw hK
  obtain⟨hz,hTI,⟨u0,v0,hTO⟩,hi1,hi2⟩:=st
  obtain⟨hd,hi⟩:=hg
  obtain⟨vs,rel,hat⟩:=j7 I hd ho
  have hlen:kvs.length=vs.length:=QU rel
  have hi10:s.heap.IsKeyIter i1 d i vs.length ep:=by rw[<-hlen];exact hi1
  refine rN (knd:=bh X.prog X.w) (I.ok.hd hc) D hz hTI hi10 hat (SY (by omega)) fun h' hk=>⟨rfl,I.turnedL (t':=s.toks) (ch:=[z,TO,i1,i2,TI]) hf fun c o hc q=>?_⟩
  have hc':¬(c=z\/c=TO\/c=i1\/c=i2\/c=TI):=by simpa using hc
  exact hk c o (fun e=>hc' (.inl e)) (fun e=>hc' (.inr (.inl e))) (fun e=>hc' (.inr (.inr (.inl e)))) (fun e=>hc' (.inr (.inr (.inr (.inl e))))) q
 self:=fun A i s Q E st h=>WG st.1 h
def Jq(l:Qh):Qo:={cls:=.type "list_iterator",data:=.fields #[.ref l,.int 0 0]}
def M4(h:Qq)(d n ep:Nat):Qq:=h.push (qh d n ep)
def Nc(h:Qq)(d n ep l:Nat):Qq:=(M4 h d n ep).push (Jq l)
def MJ(h:Qq)(d n ep l:Nat):Qq:=(Nc h d n ep l).push {cls:=.type "tuple",data:=.seq #[.ref h.objs.size,.ref (M4 h d n ep).objs.size]}
def MF(h:Qq)(d n ep l:Nat):Qq:=(MJ h d n ep l).push {cls:=.type "tuple",data:=.seq #[.none,.none]}
def Px(h:Qq)(d n ep l:Nat):Qq:=(MF h d n ep l).push {cls:=.type "zip",data:=.fields #[.none,.bool false,.bool false,.ref (Nc h d n ep l).objs.size,.ref (MJ h d n ep l).objs.size]}
section
variable {prog:Qy}{w:Qv}{κ:Type} [DecidableEq κ] {knd:KeyKind prog w κ}{A:QF}{E:Qi->Qk->Prop}{s:Qk}
theorem Jv(d l:Qh)(lo:(d==R3)=false)(kvs:List (κ×Qi))(ep:Nat)(ys:Array Qi):
  MeetsIn prog w (R0.«zip.__new__» ⟨[.type "zip",.ref d,.ref l],[]⟩) (fun _ R s=>s.heap.DictAt knd d kvs ep/\s.heap.IsList l ys/\R (.ok (.ret (.ref (MF s.heap d kvs.length ep l).objs.size))) {s with heap:=Px s.heap d kvs.length ep l}):=by
 refine WY fun A R s h=>?_
 obtain⟨hp,g,dr,tk,os⟩:=s
 obtain⟨hm,hl,h⟩:=h
 have hsub:=sub_zip
 have hL:Heap.IsList (Shared.heap ⟨hp.push (qh d kvs.length ep),g,dr,tk,os⟩) l ys:=ZP hl _
 unfold qh at hL
 wp_walk using(Uq (knd:=knd) lo hm),(Vt hL)
 exact⟨_,rfl,h⟩
theorem zy{d l:Qh}(lo:(d==R3)=false){kvs:List (κ×Qi)}{ep:Nat}{ys:Array Qi}{Q:Qi->Qk->Prop}(hm:s.heap.DictAt knd d kvs ep)(hl:s.heap.IsList l ys)
  (q:∀h',RA h' (s.heap.objs.size+4) (s.heap.objs.size+2) (s.heap.objs.size+3) .none->Q5 h' (s.heap.objs.size+2) (.ref s.heap.objs.size) (.ref (s.heap.objs.size+1))->Q5 h' (s.heap.objs.size+3) .none .none->h'.IsKeyIter s.heap.objs.size d 0 kvs.length ep->h'.IsListIter (s.heap.objs.size+1) l 0->
   (∀c o,s.heap.get? c=some o->h'.get? c=some o)->Q (.ref (s.heap.objs.size+4)) {s with heap:=h'}):Ql (model prog w) A (call (.type "zip") [.ref d,.ref l]) Q E s:=by
 refine callType_newIn aa2 (by decide) (aal _ _) (aaX _ _) (fun obj=>ZS obj _ _) aa0 (Jv (knd:=knd) d l lo kvs ep ys) ⟨hm,hl,?_⟩
 have a1:(M4 s.heap d kvs.length ep).objs.size=s.heap.objs.size+1:=RS ..
 have a2:(Nc s.heap d kvs.length ep l).objs.size=s.heap.objs.size+2:=by unfold Nc;rw[RS,a1]
 have a3:(MJ s.heap d kvs.length ep l).objs.size=s.heap.objs.size+3:=by unfold MJ;rw[RS,a2]
 have a4:(MF s.heap d kvs.length ep l).objs.size=s.heap.objs.size+4:=by unfold MF;rw[RS,a3]
 have b1:∀c o,s.heap.get? c=some o->(M4 s.heap d kvs.length ep).get? c=some o:=fun c o e=>QS _ e
 have b2:∀c o,(M4 s.heap d kvs.length ep).get? c=some o->(Nc s.heap d kvs.length ep l).get? c=some o:=fun c o e=>QS _ e
 have b3:∀c o,(Nc s.heap d kvs.length ep l).get? c=some o->(MJ s.heap d kvs.length ep l).get? c=some o:=fun c o e=>QS _ e
 have b4:∀c o,(MJ s.heap d kvs.length ep l).get? c=some o->(MF s.heap d kvs.length ep l).get? c=some o:=fun c o e=>QS _ e
 have b5:∀c o,(MF s.heap d kvs.length ep l).get? c=some o->(Px s.heap d kvs.length ep l).get? c=some o:=fun c o e=>QS _ e
 have g1:=b5 _ _ (b4 _ _ (b3 _ _ (b2 _ _ (QX s.heap (o:=qh d kvs.length ep) rfl))))
 have g2:=b5 _ _ (b4 _ _ (b3 _ _ (QX (M4 s.heap d kvs.length ep) (o:=Jq l) rfl)))
 have g3:=b5 _ _ (b4 _ _ (QX (Nc s.heap d kvs.length ep l) (o:={cls:=.type "tuple",data:=.seq #[.ref s.heap.objs.size,.ref (M4 s.heap d kvs.length ep).objs.size]}) rfl))
 have g4:=b5 _ _ (QX (MJ s.heap d kvs.length ep l) (o:={cls:=.type "tuple",data:=.seq #[.none,.none]}) rfl)
 have g5:(Px s.heap d kvs.length ep l).get? (MF s.heap d kvs.length ep l).objs.size=some _:=QX _ rfl
 rw[a1]at g2
 rw[a2,a1]at g3
 rw[a3]at g4
 rw[a4,a2,a3]at g5
 show _/\_
 rw[a4]
 exact⟨⟨_,g5,rfl⟩,q _ g5 g3 g4 ⟨_,g1,rfl,rfl⟩ ⟨_,g2,rfl,rfl⟩ fun c o e=>b5 _ _ (b4 _ _ (b3 _ _ (b2 _ _ (b1 _ _ e))))⟩
end
section
variable {X:Cx}
def JA(K:Qj)(ta:TA):TI:=fun σ H R=>ta σ H fun vs H1=>∃(d l:Qh)(kvs:List (Key×V)),vs=[.ref d,.ref l]/\H1 d=some (.dK kvs)/\(∃ys,bo K H1 l ys)/\d≠l/\∀(o:Qo),R (Pd K d l o kvs) (upd H1 d (.frz o (.dK kvs)))
theorem LR{a b:Qp}{ta:TA}{elts:List Qp}{x1}{p pos pt:QH}(hg:Gl X "zip")(hm:X.mg "zip"=none)(ha:PA X [a,b] ta)(hs:Qx [a,b] X.env=(false,eval a X.env)::Qx [b] X.env:=by rfl)(hs2:(Q1 pos (Qx [b] X.env)).any (·.1)=false:=by rfl):
  PI X (.Tuple elts x1 pt) (.Call (.Name "zip" p) [a,b] [] pos) (JA X.K ta):=by
 intro pins s σ H R I h
 refine Call_ (kh I hg hm boot_zip (Td (cX (ha pos pins s σ H _ I h) fun us s1 ⟨vs,H1,I1,r1,q1⟩=>?_) hs hs2))
 obtain⟨d,l,kvs,e,hd,⟨ys,hS2⟩,hdl,q⟩:=q1
 subst e
 cases r1 with
 |cons r rr=>
  cases rr with
  |cons r' rr=>
   cases rr
   cases r
   cases r'
   obtain⟨z,hdS,vs,rel,dd⟩:=fZ I1.hok (.inl hd)
   have hlen:kvs.length=vs.length:=QU rel
   obtain⟨o,es,ep,ho,hex,hdat,r⟩:=id dd
   have IF:=I1.freeze hd ho
   have hat:s1.heap.DictAt (bh X.prog X.w) d vs ep:=⟨o,es,ho,hex,hdat,r⟩
   obtain⟨its2,rv2,pl2,hz2⟩:=I1.list hS2
   have lt1:d<s1.heap.objs.size:=I1.hok.lt hd
   have lt2:l<s1.heap.objs.size:=by obtain⟨o,e,_⟩:=pl2.isList;exact QJ e
   refine zy (knd:=bh X.prog X.w) hdS hat pl2.isList fun h' kz kTI kTO k1 k2 hk=>?_
   refine WG kz ?_
   refine⟨s1.heap.objs.size+4,[s1.heap.objs.size+4,s1.heap.objs.size+3,s1.heap.objs.size,s1.heap.objs.size+1,s1.heap.objs.size+2],_,_,_,rfl,IF.kept (t':=s1.toks) hk,HR d l _ _ _ _ _ o es ep hdat kvs (Xd _ _ _ lt1 lt2),⟨kz,kTI,⟨_,_,kTO⟩,by rw[hlen];exact k1,k2⟩,fun c hc=>?_,q o⟩
   have hc':s1.heap.objs.size<=c:=by
    have hc':c=s1.heap.objs.size+4\/c=s1.heap.objs.size+3\/c=s1.heap.objs.size\/c=s1.heap.objs.size+1\/c=s1.heap.objs.size+2:=by simpa using hc
    rcases hc' with e|e|e|e|e
    ·rw[e];exact SR _ _
    ·rw[e];exact SR _ _
    ·rw[e];exact QC _
    ·rw[e];exact SR _ _
    ·rw[e];exact SR _ _
   exact IF.fpOk hc' (IF.hok.fresh hc')
end
theorem KY{K:Qj}{d l:Qh}{o:Qo}{kvs:List (Key×V)}{ys:List V}(p r:Nat)(u:Nat->V)(hu:∀i q,kvs[i]?=some q->kV q.1=u i)(hl:kvs.length<=ys.length):
  Ys (Pd K d l o kvs) (d0 K 2 (bj (av p) (bj (av r) eB))) (fun H=>H d=some (.frz o (.dK kvs))/\bo K H l ys) kvs.length (fun i σ=>(σ.set p (some (u i))).set r (some (ys.getD i .non))) where
 go:=fun i H hi h=>⟨h.1,ys,ys[i]'(by omega),kvs[i],h.2,Qz (by omega),Qz hi⟩
 stop:=fun H h=>⟨h.1,rfl⟩
 yld:=fun i H x H' σ Q hi h y q=>by
  obtain⟨T,w,v,rfl,hT,rfl,hw,hv⟩:=y
  have e:ys.getD i .non=v:=by simp[QN,hv ys h.2]
  exists T,_,rfl,iM.of ay,rfl,_,_,rfl,_,_,rfl,rfl
  have:=q _ (ar.updN hT (o:=.tup [kV w.1,v]))
  rw[<-hu i w hw,e]at this
  exact this
theorem pR:UJ (.type "zip") "keys"=pure none:=by rw[VW,builtinLookup_eq_fast];kernel_rfl
theorem tY:UJ (.type "zip") "__getattr__"=pure none:=by rw[VW,builtinLookup_eq_fast];kernel_rfl
theorem lh:entryFor table "zip.__getattribute__"=some R0.«object.__getattribute__»:=
 entryFor_alias (id':="object.__getattribute__") (by kernel_rfl) nofun nofun (by kernel_rfl)
theorem xF(a:Qh)(xs:Array Qi)(sl:Array (Option Qi))(u:Tok):
  Meets (R0.«object.__getattribute__» ⟨[.ref a,.str "keys" u],[]⟩) (fun A R s=>s.heap.get? a=some {cls:=.type "zip",dict:=none,data:=.fields xs,slots:=sl}/\raisesAttr (.ref a) "keys" A R s):=
 Meets.of_wp fun prog w A R s hs=>by
  obtain⟨hp,g,d,tk,os⟩:=s
  obtain⟨hx,hs⟩:=hs
  have hT:(⟨hp,g,d,tk,os⟩:Qk).TypeIs (.ref a) "zip":=⟨_,hx,rfl⟩
  have hmiss:=pR
  have hname:(["__module__","__name__","__qualname__","__doc__","__annotations__"]:List Qg).contains "keys"=false:=nofun
  unfold R0.«object.__getattribute__»
  repeat (any_goals (first|assumption|wp_step))
  exact wpAny_raiseAttrError hs.1 hs.2 (attrMsg_fits nofun (by size_fits))
section
variable {prog:Qy}{w:Qv}{A:QF}{E:Qi->Qk->Prop}{s:Qk}
theorem Fl{a:Qh}{o:Qo}{xs:Array Qi}{Q:Option Qi->Qk->Prop}(hx:s.heap.get? a=some o)(hc:o.cls=.type "zip")(hdat:o.data=.fields xs)(hd:o.dict=none)(hA:A.handled=none)
  (h:∀h' tk,(∀b o,s.heap.get? b=some o->h'.get? b=some o)->Q none {s with heap:=h',toks:=tk}):Ql (model prog w) A (getAttr? (.ref a) "keys") Q E s:=by
 obtain⟨c,dct,dat,sl⟩:=o
 simp only at hc hdat hd
 subst hc hdat hd
 obtain⟨hp,g,d,tk,os⟩:=s
 have hT:∀tk',(⟨hp,g,d,tk',os⟩:Qk).TypeIs (.ref a) "zip":=fun _=>⟨_,hx,rfl⟩
 have f1:=sub_AttributeError
 have f3:=VL.lookup
 have f4:=VL.bind (.ref a)
 have f5:=tY
 have f6:=pR
 unfold getAttr? getAttrBy? getAttrBy
 repeat (any_goals (first|assumption|exact hT _|((with_reducible show Ql _ _ (call (TF "zip.__getattribute__") _ _) _ _ _);refine Sn VL (hT _) lh (ZH _ _) (xF a xs sl _) ⟨hx,hA,fun h' tk' e hx'=>?_⟩)|wp_step))
 obtain⟨t',u',he⟩:=hx'.there
 show Ql _ _ (VC _ _ _ _ _ _ _) _ _ _
 unfold VC
 repeat (any_goals (first|assumption|wp_step))
 exact h _ _ hx'.keeps
end
abbrev j6(h:Qq)(z TI TO:Qh)(f0:Qi)(f:Bool):Prop:=h.get? z=some {cls:=.type "zip",data:=.fields #[f0,.bool f,.bool false,.ref TI,.ref TO]}
section
variable {prog:Qy}{w:Qv}{κ:Type} [DecidableEq κ] {knd:KeyKind prog w κ}{A:QF}{E:Qi->Qk->Prop}{s:Qk}
variable {z TI TO i1 i2 d l T:Qh}{n ep:Nat}{kvs:List (κ×Qi)}{ys:Array Qi}{f:Bool}{oT:Qo}
theorem Ag{Q:Bool->Qk->Prop}(hz:j6 s.heap z TI TO (Rg T) f)(hT:s.heap.get? T=some oT)(q:∀h',j6 h' z TI TO (Rg T) true->Sh z s.heap h'->Q false {s with heap:=h'}):
  Ql (model prog w) A (Vu (.ref z)) Q E s:=by
 unfold Vu
 refine Qm (Ro hz rfl (x:=Rg T) rfl ?_)
 show Ql _ _ (loadIfAlive ((T:Int).toNat) >>= _) _ _ _
 rw[VY]
 refine Qm (kdx_alive hT ?_)
 simp only[Option.isNone_some,SO,if_false]
 refine Qm (Ro hz rfl (x:=.bool f) rfl ?_)
 cases f with
 |true=>
  rw[if_neg (show ¬((SW true != SW true)=true)from Rf)]
  exact QG (q _ hz (ZL _ _))
 |false=>
  rw[if_pos (show(SW false != SW true)=true from rfl)]
  exact Qm (TZ hz ⋯ fun h₃ he₃ hs₃=>QG (q h₃ he₃ hs₃))
theorem HW{k:κ}{v y:Qi}{Q:Qi->Qk->Prop}(D:RX z TI TO i1 i2 d l)(hz:j6 s.heap z TI TO (Rg T) f)(hT:s.heap.get? T=some oT)(hTI:Q5 s.heap TI (.ref i1) (.ref i2))
  (h1:s.heap.IsKeyIter i1 d n kvs.length ep) (hd:s.heap.DictAt knd d kvs ep) (h2:s.heap.IsListIter i2 l n) (hl:s.heap.IsList l ys) (hx:kvs[n]?=some (k,v)) (hy:ys[n]?=some y)
  (q:∀x h',knd.is k x=true->j6 h' z TI TO (Rg T) true->h'.IsKeyIter i1 d (n+1) kvs.length ep->h'.IsListIter i2 l (n+1)->Q5 h' s.heap.objs.size x y->h'.objs.size=s.heap.objs.size+1->ee s z TO i1 i2 h'->Q (.ref s.heap.objs.size) {s with heap:=h'}):
  Ql (model prog w) A (R0.«zip.__next__» ⟨[.ref z],[]⟩) (fun fin s'=>∃v,fin=.done (.ret v)/\Q v s') E s:=by
 show Ql _ _ (field (.ref z) 2 >>= _) _ _ _
 refine Qm (Ro hz rfl (x:=.bool false) rfl (Qm (Ro hz rfl (x:=.ref TI) rfl (Qm (Sy hTI rfl (Qm ?_))))))
 refine Ag hz hT fun m1 z1 e1=>?_
 simp only[SO,if_false]
 refine Qm ?_
 simp only[<-WX,UA,UU]
 refine Qm (Qm (Tn ?_))
 show Ql _ _ (Sq (.ref i1) >>= _) _ _ _
 refine Qm (kW (knd:=knd) (h1.at fun o e=>e1.extBut _ _ D.i1z e) (hd.extBut e1.extBut D.l1z) hx fun x m2 hkey g1 e2=>QG (QG ?_))
 refine Qm (Qm (Tn ?_))
 show Ql _ _ (Sq (.ref i2) >>= _) _ _ _
 refine Qm (Y1 (h2.at fun o e=>e2.extBut _ _ D.i12.symm (e1.extBut _ _ D.i2z e)) (hl.at fun o e=>e2.extBut _ _ D.l2i1 (e1.extBut _ _ D.l2z e)) hy fun m3 g2 e3=>QG (QG (QG ?_)))
 show Ql _ _ (newTuple [x,y] >>= _) _ _ _
 refine Qm (wpAny_newTuple (QG ⟨_,rfl,?_⟩))
 have sz:m3.objs.size=s.heap.objs.size:=by rw[e3.1,e2.1,e1.1]
 have old:∀c o,c≠z->c≠i1->c≠i2->s.heap.get? c=some o->m3.get? c=some o:=fun c o c1 c3 c4 e=>e3.extBut _ _ c4 (e2.extBut _ _ c3 (e1.extBut _ _ c1 e))
 have z3:j6 m3 z TI TO (Rg T) true:=e3.extBut _ _ D.i2z.symm (e2.extBut _ _ D.i1z.symm z1)
 have t8:Q5 (m3.push {cls:=.type "tuple",data:=.seq #[x,y]}) m3.objs.size x y:=QX _ rfl
 show Q (.ref m3.objs.size) _
 rw[sz]
 rw[sz]at t8
 exact q x (m3.push {cls:=.type "tuple",data:=.seq #[x,y]}) hkey (QS _ z3) (g1.at fun o e=>QS _ (e3.extBut _ _ D.i12 e)) (g2.at fun o e=>QS _ e) t8 (by rw[RS,sz]) fun c o c1 _ c3 c4 e=>QS _ (old c o c1 c3 c4 e)
theorem IS{Q:Fin->Qk->Prop}(hA:A.handled=none)(D:RX z TI TO i1 i2 d l)(hz:j6 s.heap z TI TO (Rg T) f)(hT:s.heap.get? T=some oT)(hTI:Q5 s.heap TI (.ref i1) (.ref i2))
  (h1:s.heap.IsKeyIter i1 d n kvs.length ep) (hd:s.heap.DictAt knd d kvs ep) (hx:kvs[n]?=none)
  (q:∀h' e,ee s z TO i1 i2 h'->(∃o,h'.get? e=some o/\o.cls=.type "StopIteration")->E (.ref e) {s with heap:=h'}):Ql (model prog w) A (R0.«zip.__next__» ⟨[.ref z],[]⟩) Q E s:=by
 show Ql _ _ (field (.ref z) 2 >>= _) _ _ _
 refine Qm (Ro hz rfl (x:=.bool false) rfl (Qm (Ro hz rfl (x:=.ref TI) rfl (Qm (Sy hTI rfl (Qm ?_))))))
 refine Ag hz hT fun m1 z1 e1=>?_
 simp only[SO,if_false]
 refine Qm ?_
 simp only[<-WX,UA,UU]
 refine Qm (Qm (Tn ?_))
 show Ql _ _ (Sq (.ref i1) >>= _) _ _ _
 exact Qm (oB (knd:=knd) hA (h1.at fun o e=>e1.extBut _ _ D.i1z e) (hd.extBut e1.extBut D.l1z) hx fun m2 e e2 he=>q m2 e (fun c o c1 _ c3 _ x=>e2 _ _ c3 (e1.extBut _ _ c1 x)) he)
theorem y3{k:κ}{v y:Qi}{Q:Option Qi->Qk->Prop}(D:RX z TI TO i1 i2 d l)(hz:j6 s.heap z TI TO (Rg T) f)(hT:s.heap.get? T=some oT)(hTI:Q5 s.heap TI (.ref i1) (.ref i2))
  (h1:s.heap.IsKeyIter i1 d n kvs.length ep) (hd:s.heap.DictAt knd d kvs ep) (h2:s.heap.IsListIter i2 l n) (hl:s.heap.IsList l ys) (hx:kvs[n]?=some (k,v)) (hy:ys[n]?=some y)
  (q:∀x h',knd.is k x=true->j6 h' z TI TO (Rg T) true->h'.IsKeyIter i1 d (n+1) kvs.length ep->h'.IsListIter i2 l (n+1)->Q5 h' s.heap.objs.size x y->h'.objs.size=s.heap.objs.size+1->ee s z TO i1 i2 h'->Q (some (.ref s.heap.objs.size)) {s with heap:=h'}):
  Ql (model prog w) A (RB (.ref z)) Q E s:=by
 have hTy:s.TypeIs (.ref z) "zip":=⟨_,hz,rfl⟩
 unfold RB
 exact Qm (UW (Up (name:=UP "__next__") hTy S2 (TM S2 hTy Va (HW D hz hT hTI h1 hd h2 hl hx hy fun x h' a0 a1 a3 a4 a5 a6 a7=>QG (q x h' a0 a1 a3 a4 a5 a6 a7)) (Vc _))))
theorem Az{Q:Option Qi->Qk->Prop}(hA:A.handled=none)(D:RX z TI TO i1 i2 d l)(hz:j6 s.heap z TI TO (Rg T) f)(hT:s.heap.get? T=some oT)(hTI:Q5 s.heap TI (.ref i1) (.ref i2))
  (h1:s.heap.IsKeyIter i1 d n kvs.length ep) (hd:s.heap.DictAt knd d kvs ep) (hx:kvs[n]?=none) (q:∀h',ee s z TO i1 i2 h'->Q none {s with heap:=h'}):Ql (model prog w) A (RB (.ref z)) Q E s:=by
 have hTy:s.TypeIs (.ref z) "zip":=⟨_,hz,rfl⟩
 unfold RB
 refine Qm (UW (Up (name:=UP "__next__") hTy S2 (TM S2 hTy Va (IS (knd:=knd) (by first|exact hA|exact(show A.in1.handled=none from hA)) D hz hT hTI h1 hd hx fun h' e hk ⟨o,ho,hc⟩=>?_) (Vc _))))
 exact Qm (wpAny_isInstance (T:="StopIteration") (b:=true) ⟨o,ho,hc⟩ isSubtype_stop (QG (q _ hk)))
noncomputable def xf(h:Qq)(z TI TO i1 i2 d l D:Qh)(i n ep:Nat):Prop:=
 ((RA h z TI TO .none/\∃u v,Q5 h TO u v)\/∃(T:Qh)(oT:Qo)(f:Bool),j6 h z TI TO (Rg T) f/\h.get? T=some oT/\T≠z/\T≠TO/\T≠i1/\T≠i2/\T≠D)/\Q5 h TI (.ref i1) (.ref i2)/\h.IsKeyIter i1 d i n ep/\h.IsListIter i2 l i
theorem xf.at{h h':Qq}{Dn:Qh}{i:Nat}(x:xf h z TI TO i1 i2 d l Dn i n ep)(k:∀b o,b≠Dn->h.get? b=some o->h'.get? b=some o)(a1:z≠Dn)(a2:TI≠Dn)(a3:TO≠Dn)(a4:i1≠Dn)(a5:i2≠Dn):xf h' z TI TO i1 i2 d l Dn i n ep:=by
 obtain⟨x1,x2,x3,x4⟩:=x
 refine⟨?_,k _ _ a2 x2,x3.at fun o e=>k _ _ a4 e,x4.at fun o e=>k _ _ a5 e⟩
 rcases x1 with⟨p,u,v,r⟩|⟨T,oT,f,p,r,t1,t2,t3,t4,t5⟩
 ·exact .inl ⟨k _ _ a1 p,u,v,k _ _ a3 r⟩
 ·exact .inr ⟨T,oT,f,k _ _ a1 p,k _ _ t5 r,t1,t2,t3,t4,t5⟩
theorem E5{k:κ}{v y:Qi}{Dn:Qh}{Q:Option Qi->Qk->Prop}(D:RX z TI TO i1 i2 d l)(hs:xf s.heap z TI TO i1 i2 d l Dn n kvs.length ep)(hDn:Dn<s.heap.objs.size)(hd:s.heap.DictAt knd d kvs ep)(hl:s.heap.IsList l ys)(hx:kvs[n]?=some (k,v))(hy:ys[n]?=some y)
  (q:∀x h',knd.is k x=true->xf h' z TI TO i1 i2 d l Dn (n+1) kvs.length ep->Q5 h' s.heap.objs.size x y->h'.objs.size=s.heap.objs.size+1->ee s z TO i1 i2 h'->Q (some (.ref s.heap.objs.size)) {s with heap:=h'}):Ql (model prog w) A (RB (.ref z)) Q E s:=by
 obtain⟨x1,hTI,h1,h2⟩:=hs
 have kTI:∀h',ee s z TO i1 i2 h'->Q5 h' TI (.ref i1) (.ref i2):=fun h' hk=>hk _ _ D.TIz D.TITO D.TIi1 D.TIi2 hTI
 have l1:i1<s.heap.objs.size:=by obtain⟨o,e,_⟩:=h1;exact QJ e
 have l2:i2<s.heap.objs.size:=by obtain⟨o,e,_⟩:=h2;exact QJ e
 rcases x1 with⟨hz,u,v',hTO⟩|⟨T,oT,f,hz,hT,t1,t2,t3,t4,t5⟩
 ·refine pZ (knd:=knd) D hz hTI hTO h1 hd h2 hl hx hy fun x h' a0 a1 a2 a3 a4 a5 a6 a7=>q x h' a0 ⟨.inr ⟨_,_,false,a1,a5,?_,?_,?_,?_,?_⟩,kTI _ a7,a3,a4⟩ a5 a6 a7
  ·exact RK (QJ hz)
  ·exact RK (QJ hTO)
  ·exact RK l1
  ·exact RK l2
  ·exact RK hDn
 ·exact y3 (knd:=knd) D hz hT hTI h1 hd h2 hl hx hy fun x h' a0 a1 a3 a4 a5 a6 a7=>q x h' a0 ⟨.inr ⟨T,oT,true,a1,a7 _ _ t1 t2 t3 t4 hT,t1,t2,t3,t4,t5⟩,kTI _ a7,a3,a4⟩ a5 a6 a7
theorem Gp{Dn:Qh}{Q:Option Qi->Qk->Prop}(hA:A.handled=none)(D:RX z TI TO i1 i2 d l)(hs:xf s.heap z TI TO i1 i2 d l Dn n kvs.length ep)(hd:s.heap.DictAt knd d kvs ep)(hx:kvs[n]?=none)
  (q:∀h',ee s z TO i1 i2 h'->Q none {s with heap:=h'}):Ql (model prog w) A (RB (.ref z)) Q E s:=by
 obtain⟨x1,hTI,h1,h2⟩:=hs
 rcases x1 with⟨hz,u,v',hTO⟩|⟨T,oT,f,hz,hT,t1,t2,t3,t4,t5⟩
 ·exact rN (knd:=knd) hA D hz hTI h1 hd hx q
 ·exact Az (knd:=knd) hA D hz hT hTI h1 hd hx q
end
section
variable {prog:Qy}{w:Qv}{κ:Type} [DecidableEq κ] {knd:KeyKind prog w κ}{A:QF}{R:Result->Qk->Prop}{E:Qi->Qk->Prop}
variable {z TI TO i1 i2 d l Dn:Qh}{ep:Nat}{kvs:List (κ×Qi)}{ys:Array Qi}
theorem Hn(hA:A.handled=none)(Dz:RX z TI TO i1 i2 d l)(a1:z≠Dn)(a2:TI≠Dn)(a3:TO≠Dn)(a4:i1≠Dn)(a5:i2≠Dn)(a6:d≠Dn)(a7:l≠Dn)(vs:List (κ×Qi))(res:Qi)
  (hlen:vs.length=kvs.length) (hvs:∀(i:Nat)(p:κ×Qi),vs[i]?=some p->∃v,kvs[i]?=some (p.1,v)/\ys[i]?=some p.2) (hn:vs.length<=1000) (nd:(vs.map (·.1)).Nodup):
  ∀(k i:Nat)(s:Qk),kvs.length-i=k->i<=kvs.length->xf s.heap z TI TO i1 i2 d l Dn i kvs.length ep->s.heap.DictAt knd d kvs ep->s.heap.IsList l ys->s.heap.DictOf knd Dn (vs.take i)->
   (∀h' tk,(∀b o,b≠z->b≠TO->b≠i1->b≠i2->b≠Dn->s.heap.get? b=some o->h'.get? b=some o)->h'.DictOf knd Dn vs->R (.ok (.ret res)) {s with heap:=h',toks:=tk})->
   Sj (model prog w) A (.builtin "dict.update.loop" ⟨[.ref Dn,.ref z,.int i 0,res],[]⟩) R s:=by
 have dstay:∀{kvs:List (κ×Qi)}{h h':Qq},h.DictOf knd Dn kvs->(∀o,h.get? Dn=some o->h'.get? Dn=some o)->h'.DictOf knd Dn kvs:=fun x k=>let ⟨o,es,ep,ho,r⟩:=x;⟨o,es,ep,k o ho,r⟩
 intro k
 induction k with
 |zero=>
  intro i s hk hi hst hd hl hD hR
  have hin:i=kvs.length:=by omega
  rw[S7 (by omega)]at hD
  refine codeAny_builtin o9 ?_
  rw[Vq fC _]
  show Ql _ A.in1 (RB (.ref z) >>= _) _ _ s
  refine Qm (Gp (knd:=knd) hA Dz hst hd (SY (by omega)) fun h' hk=>?_)
  show Ql _ A.in1 (X8 Dn [] >>= fun _=>ret res) _ _ _
  exact Qm (QG (QG (hR h' s.toks (fun b o b1 b2 b3 b4 _ e=>hk b o b1 b2 b3 b4 e) (dstay hD fun o e=>hk Dn o a1.symm a3.symm a4.symm a5.symm e))))
 |succ k ih=>
  intro i s hk hi hst hd hl hD hR
  have hlt:i<kvs.length:=by omega
  have hvi:vs[i]?=some vs[i]:=Qz (by omega)
  generalize vs[i]=p at hvi
  obtain⟨x0,hx,hy⟩:=hvs i p hvi
  have hDlt:Dn<s.heap.objs.size:=by obtain⟨o,_,_,ho,_⟩:=id hD;exact QJ ho
  refine codeAny_builtin o9 ?_
  rw[Vq fC _]
  show Ql _ A.in1 (RB (.ref z) >>= _) _ _ s
  refine Qm (E5 (knd:=knd) Dz hst hDlt hd hl hx hy fun key h1 hkey hst1 hp1 hsz1 hk1=>?_)
  have hD1:=dstay hD fun o e=>hk1 Dn o a1.symm a3.symm a4.symm a5.symm e
  show Ql _ A.in1 (holding [QL s.heap.objs.size] _ >>= _) _ _ _
  refine Qm (Tn ?_)
  refine Qm (wpAny_tryCatch ?_)
  unfold WM
  refine Qm (Vs (T:="tuple") ⟨_,hp1,rfl⟩ ?_)
  rw[if_pos (by decide)]
  refine Qm (Sy hp1 rfl (QG ?_))
  show Ql _ A.in1 (holding [key,p.2] (dictSet Dn key p.2)) _ _ _
  refine Tn (wpAny_dictSet_pairs (knd:=knd) hkey hD1 (fun h2 hd2 hsb=>?_) (by rw[Rw,sizeLine_eq];omega))
  have hst2:stored (vs.take i) p.1 p.2=vs.take (i+1):=by
   unfold stored
   rw[if_neg]
   ·rw[Uu,hvi];rfl
   ·intro z
    obtain⟨x,hx,e⟩:=Wv.mp z
    obtain⟨j,hj,ej⟩:=SX hx
    have hj':j<i/\j<vs.length:=by rw[Rw]at hj;omega
    rw[Wr]at ej
    have e:x.1=p.1:=by simpa using e
    obtain⟨hi',ei⟩:=Q0.mp hvi
    have:=TU.mp nd j i (by simp;omega) (by simp;omega) hj'.1
    simp only[V5]at this
    rw[ej,ei]at this
    exact this e
  rw[hst2]at hd2
  have k2:∀b o,b≠Dn->h1.get? b=some o->h2.get? b=some o:=fun b o hb e=>by rw[hsb.2 b hb];exact e
  refine QG ⟨plainId_quiet fC _,?_⟩
  refine ih (i+1) {s with heap:=h2,toks:=s.toks+1} (by omega) hlt (hst1.at k2 a1 a2 a3 a4 a5) ?_ ?_ hd2 fun h' tk' hk' hS'=>?_
  ·exact hd.at' fun o e=>k2 _ _ a6 (hk1 _ _ Dz.l1z Dz.l1TO Dz.l1i1 Dz.l1i2 e)
  ·exact hl.at fun o e=>k2 _ _ a7 (hk1 _ _ Dz.l2z Dz.l2TO Dz.l2i1 Dz.l2i2 e)
  ·exact hR h' tk' (fun b o b1 b2 b3 b4 b5 e=>hk' b o b1 b2 b3 b4 b5 (k2 _ _ b5 (hk1 b o b1 b2 b3 b4 e))) hS'
theorem yC{s:Qk}{Q:Qi->Qk->Prop}(hh:A.handled=none)(Dz:RX z TI TO i1 i2 d l)(hz:RA s.heap z TI TO .none)(hTI:Q5 s.heap TI (.ref i1) (.ref i2))(hTO:∃u v,Q5 s.heap TO u v)(h1:s.heap.IsKeyIter i1 d 0 kvs.length ep)(h2:s.heap.IsListIter i2 l 0)
  (hd:s.heap.DictAt knd d kvs ep) (hl:s.heap.IsList l ys) (vs:List (κ×Qi)) (hlen:vs.length=kvs.length) (hvs:∀(i:Nat)(p:κ×Qi),vs[i]?=some p->∃v,kvs[i]?=some (p.1,v)/\ys[i]?=some p.2) (hn:vs.length<=1000) (nd:(vs.map (·.1)).Nodup)
  (h:∀(h':Qq)(tk:Nat),(∀b o,b≠z->b≠TO->b≠i1->b≠i2->s.heap.get? b=some o->h'.get? b=some o)->h'.DictOf knd s.heap.objs.size vs->Q (.ref s.heap.objs.size) {s with heap:=h',toks:=tk}):
  Ql (model prog w) A (call (.type "dict") [.ref z]) Q E s:=by
 refine callType_codes (Q₁:=fun obj s₁=>obj=.ref s.heap.objs.size/\s₁={s with heap:=s.heap.push {cls:=.type "dict",data:=.dict #[]}}) W0 (Yl _) W7 (kt_code_dict_new _ ⟨rfl,rfl⟩) ?_
 rintro obj s₁ ⟨rfl,rfl⟩
 have hnew:(s.heap.push {cls:=.type "dict",data:=.dict #[]}).DictOf knd s.heap.objs.size []:=WE s.heap
 have up:∀b o,s.heap.get? b=some o->(s.heap.push {cls:=.type "dict",data:=.dict #[]}).get? b=some o:=fun b o e=>QS _ e
 exists hnew.typeIs,Yf _ _
 unfold R0.«dict.__init__»
 refine Qm ?_
 unfold Yv
 refine Qm (wpAny_notOrdered_dict hnew.typeIs ?_)
 show Ql _ _ (pure (s.heap.objs.size,[QL z])) _ _ _
 refine QG ?_
 show Ql _ _ (U5 "dict.__init__" s.heap.objs.size (.ref z) [] .none) _ _ _
 unfold U5
 refine Qm (Vs (T:="zip") ⟨_,up _ _ hz,rfl⟩ ?_)
 rw[if_pos (by decide)]
 refine Qm (Fl (up _ _ hz) rfl rfl rfl hh fun m2 tk2 k2=>?_)
 have up2:∀b o,s.heap.get? b=some o->m2.get? b=some o:=fun b o e=>k2 _ _ (up _ _ e)
 simp only[Xz,if_true]
 refine Qm (wpAny_rule ?_)
 refine Qm (WG (up2 _ _ hz) ?_)
 refine QG ⟨plainId_quiet fC _,?_⟩
 have lt:∀{b:Qh}{o:Qo},s.heap.get? b=some o->b≠s.heap.objs.size:=fun e=>QV (QJ e)
 obtain⟨u,v,hTO⟩:=hTO
 have n4:i1≠s.heap.objs.size:=by obtain⟨o,e,_⟩:=h1;exact lt e
 have n5:i2≠s.heap.objs.size:=by obtain⟨o,e,_⟩:=h2;exact lt e
 have n6:d≠s.heap.objs.size:=by obtain⟨o,es,e,_⟩:=hd;exact lt e
 have n7:l≠s.heap.objs.size:=by obtain⟨o,e,_⟩:=hl;exact lt e
 refine Hn (knd:=knd) (A:=A.in1) hh Dz (lt hz) (lt hTI) (lt hTO) n4 n5 n6 n7 vs .none hlen hvs hn nd _ 0 {s with heap:=m2,toks:=tk2} rfl (Rm _) ⟨.inl ⟨up2 _ _ hz,u,v,up2 _ _ hTO⟩,up2 _ _ hTI,h1.at fun o e=>up2 _ _ e,h2.at fun o e=>up2 _ _ e⟩ (hd.at' fun o e=>up2 _ _ e) (hl.at fun o e=>up2 _ _ e) ?_ fun h' tk' hk hS=>?_
 ·obtain⟨o,es,ep,ho,r⟩:=hnew
  exact⟨o,es,ep,k2 _ _ ho,r⟩
 ·exact⟨rfl,h h' tk' (fun b o b1 b2 b3 b4 e=>hk b o b1 b2 b3 b4 (lt e) (up2 _ _ e)) hS⟩
end
def B8(kvs:List (Key×V))(ys:List V):List (Key×V):=kvs.zipWith (fun p y=>(p.1,y)) ys
noncomputable def Ey(K:Qj)(ta:TA):TE:=fun σ H Q=>ta σ H fun vs H1=>∃(d l:Qh)(kvs:List (Key×V))(ys:List V),vs=[.ref d,.ref l]/\H1 d=some (.dK kvs)/\bo K H1 l ys/\kvs.length<=ys.length/\kvs.length<=1000/\(kvs.map (·.1)).Nodup/\∀e,H1 e=none->Q (.ref e) (upd H1 e (.dK (B8 kvs ys)))
section
variable {X:Cx}
theorem Kq(hc:X.calm=true){a b:Qp}{ta:TA}{p p2 pos pos2:QH}(hgd:Gl X "dict")(hmd:X.mg "dict"=none)(hg:Gl X "zip")(hm:X.mg "zip"=none)(ha:PA X [a,b] ta)(hs:Qx [a,b] X.env=(false,eval a X.env)::Qx [b] X.env:=by rfl)(hs2:(Q1 pos (Qx [b] X.env)).any (·.1)=false:=by rfl)
  (hs3:Qx [.Call (.Name "zip" p) [a,b] [] pos] X.env=[(false,eval (.Call (.Name "zip" p) [a,b] [] pos) X.env)]:=by rfl):
  PE X (.Call (.Name "dict" p2) [.Call (.Name "zip" p) [a,b] [] pos] [] pos2) (Ey X.K ta):=by
 intro pins s σ H Q I h
 refine Call_ (kh I hgd hmd boot_dict (Td ?_ hs3 rfl))
 rw[hs3]
 show Ql _ _ (spliced ((false,eval (.Call (.Name "zip" p) [a,b] [] pos) X.env)::Q1 pos2 [])) _ _ s
 refine VP ?_
 refine Call_ (kh I hg hm boot_zip (Td (cX (ha pos pins s σ H _ I h) fun us s1 ⟨vs,H1,I1,r1,q1⟩=>?_) hs hs2))
 obtain⟨d,l,kvs,ys,e,hd,hS2,hkl,hk1,nd,q⟩:=q1
 subst e
 cases r1 with
 |cons r rr=>
  cases rr with
  |cons r' rr=>
   cases rr
   cases r
   cases r'
   obtain⟨zz,hdS,vs,rel,dd⟩:=fZ I1.hok (.inl hd)
   have hlen:kvs.length=vs.length:=QU rel
   obtain⟨o,es,ep,ho,hex,hdat,r⟩:=id dd
   have hat:s1.heap.DictAt (bh X.prog X.w) d vs ep:=⟨o,es,ho,hex,hdat,r⟩
   obtain⟨its2,rv2,pl2,hz2⟩:=I1.list hS2
   have lt1:d<s1.heap.objs.size:=I1.hok.lt hd
   have lt2:l<s1.heap.objs.size:=by obtain⟨o,e,_⟩:=pl2.isList;exact QJ e
   have hil:ys.length=its2.length:=rv2.length
   refine zy (knd:=bh X.prog X.w) hdS hat pl2.isList fun h' kz kTI kTO k1 k2 hk=>V9 ?_
   have hkv:KV (B8 kvs ys) (vs.zipWith (fun (p:Key×Qi) y=>(p.1,y)) its2):=by
    unfold B8
    clear q nd hk1 hkl hat r hdat hex ho dd hlen zz hd hS2 pl2 k1 hz2 hil
    induction rel generalizing ys its2 with
    |nil=>exact .nil
    |cons h _ ih=>
     cases rv2 with
     |nil=>exact .nil
     |cons h2 r2=>exact .cons ⟨h.1,h2⟩ (ih _ _ r2)
   have ek:(vs.map (·.1))=kvs.map (·.1):=by
    clear hkv q nd hk1 hkl hat r hdat hex ho dd hlen zz hd k1
    induction rel with
    |nil=>rfl
    |cons h _ ih=>rw[QW,QW,ih,h.1]
   have hzl:(vs.zipWith (fun (p:Key×Qi) y=>(p.1,y)) its2).length=vs.length:=by rw[Xp];omega
   have ekz:((vs.zipWith (fun (p:Key×Qi) y=>(p.1,y)) its2).map (·.1))=vs.map (·.1):=by
    apply Tv (by simp;omega)
    intro i h1 h2
    simp
   refine yC (knd:=bh X.prog X.w) (I.ok.hd hc) (Xd _ _ _ lt1 lt2) kz kTI ⟨_,_,kTO⟩ k1 k2 (hat.at' fun o e=>hk _ _ e) (pl2.isList.at fun o e=>hk _ _ e) (vs.zipWith (fun (p:Key×Qi) y=>(p.1,y)) its2) hzl ?_ (by omega) (by rw[ekz,ek];exact nd) fun h2 tk hk2 hD=>?_
   ·intro i p hp
    rw[List.getElem?_zipWith]at hp
    cases e1:vs[i]? with
    |none=>rw[e1]at hp;simp at hp
    |some p1=>
     cases e2:its2[i]? with
     |none=>rw[e1,e2]at hp;simp at hp
     |some y=>
      rw[e1,e2]at hp
      simp at hp
      subst hp
      exact⟨p1.2,rfl,by simpa using e2⟩
   ·have hlt:s1.heap.objs.size<=h'.objs.size:=by
     exact SA (Wz (SR _ 4) (QJ kz))
    have kk:∀b u,s1.heap.get? b=some u->h2.get? b=some u:=fun b u e=>by
     have hb:=QJ e
     exact hk2 b u (QV (Q4 hb (SR _ _))) (QV (Q4 hb (SR _ _))) (QV hb) (QV (Q4 hb (SR _ _))) (hk b u e)
    refine⟨.ref h'.objs.size,_,I1.laid (t':=tk) (a:=h'.objs.size) (o:=.dK (B8 kvs ys)) kk hlt (wU ?_ ?_ hkv hD),rfl,q _ (I1.hok.fresh hlt)⟩
    ·rw[B8,Xp]
     exact Qt (Qt (YG _ _) hk1) (by decide)
    ·exact beq_eq_false_iff_ne.mpr (QT (QV (Q4 I1.big hlt)))
end
structure K0(d:Qh)(kvs:List (Key×V))(o:Qo)(H Hf:Hp):Prop where
 fd:Hf d=some (.frz o (.dK kvs))
 low:∀a,Hf a=none->H a=none
 keep:∀a x,a≠d->H a=some x->Hf a=some x
section
variable {K:Qj}{mp:List (Option Nat)}{tt:TT}{te td:TE}{ta:TA}{σ:St}{H Hf:Hp}{Q:VK}{d l:Qh}{kvs:List (Key×V)}{o:Qo}
theorem BE:K0 d kvs o H (upd H d (.frz o (.dK kvs))):=
 ⟨ay,fun a ha=>by
  by_cases h1:a=d
  ·subst h1;rw[ay]at ha;cases ha
  ·rwa [ax h1]at ha,fun a x ha h=>by rw[ax ha];exact h⟩
theorem JR{w:Qh}{x:HO}(hw:H w=none):K0 d kvs o H (upd (upd H w x) d (.frz o (.dK kvs))):=
 ⟨ay,fun a ha=>by
  by_cases h1:a=d
  ·subst h1;rw[ay]at ha;cases ha
  ·rw[ax h1]at ha
   by_cases h2:a=w
   ·subst h2;exact hw
   ·rwa [ax h2]at ha,fun a y ha h=>by
  have hw2:a≠w:=fun e=>by rw[e,hw]at h;cases h
  rw[ax ha,ax hw2];exact h⟩
def M2(d:Qh)(Q:VK):VK:=fun v H'=>∃o kvs,H' d=some (.frz o (.dK kvs))/\Q v (upd H' d (.dK kvs))
theorem G9{g:TG}(htd:∀k:VK,k (.ref d) H->td σ H k)(hd:H d=some (.dK kvs))(h:∀o Hf,K0 d kvs o H Hf->dP mp g tt te (OP d o kvs) σ Hf (M2 d Q)):iG (cy mp (Cv td) g tt te) σ H Q:=
 ⟨d,kvs,hd,ow (htd _ ⟨d,kvs,rfl,hd,fun o=>h o _ BE⟩)⟩
theorem HV{g:TG}(htd:∀k:VK,k (.ref d) H->td σ H k)(hd:H d=some (.dK kvs))(h:∀o Hf,K0 d kvs o H Hf->dP mp g tt te (Oy d o kvs) σ Hf (M2 d Q)):iG (cy mp (IZ td) g tt te) σ H Q:=
 ⟨d,kvs,hd,ow (htd _ ⟨d,kvs,rfl,hd,fun o v hv hne=>h o _ (JR hv)⟩)⟩
theorem D6{g:TG}(htd:∀k:VK,k (.ref d) H->td σ H k)(hd:H d=some (.dK kvs))(h:∀o Hf,K0 d kvs o H Hf->dP mp g tt te (LP d o kvs) σ Hf (M2 d Q)):iG (cy mp (EL td) g tt te) σ H Q:=
 ⟨d,kvs,hd,ow (htd _ ⟨d,kvs,rfl,hd,fun o=>h o _ BE⟩)⟩
theorem HZ{g:TG}{ys:List V}(hta:∀k:List V->Hp->Prop,k [.ref d,.ref l] H->ta σ H k)(hd:H d=some (.dK kvs))(hl:bo K H l ys)(hne:d≠l)(h:∀o Hf,K0 d kvs o H Hf->dP mp g tt te (Pd K d l o kvs) σ Hf (M2 d Q)):iG (cy mp (JA K ta) g tt te) σ H Q:=
 ⟨d,kvs,hd,ow (hta _ ⟨d,l,kvs,rfl,hd,⟨ys,hl⟩,hne,fun o=>h o _ BE⟩)⟩
variable {J:It}{g:TG}{P:Hp->Prop}{n:Nat}{f:Nat->St->St}
theorem Cp(F:K0 d kvs o H Hf)(hd:H d=some (.dK kvs))(Y:Ys J g P n f)(st:Nat->St)(hf:∀i σ',(σ'=dM mp σ\/∃j,σ'=st j)->f i σ'=st i)(hP:∀H',H' d=some (.frz o (.dK kvs))->fJ d H H'->P H')(hz:n<=Qr)(b:Nat->Bool)(R:Qh->Nat->V->Hp->Prop)
  (hR:∀l i v H1 H2,fJ l H1 H2->R l i v H1->R l i v H2) (hRd:∀l i v H1,H1 d=some (.frz o (.dK kvs))->R l i v H1->R l i v (upd H1 d (.dK kvs)))
  (ht:∀i,i<n->∀(H':Hp)(G:Bool->Hp->Prop),fJ d H H'->(∀H'',ar H' H''->G (b i) H'')->tt (st i) H' G)
  (he:∀l i,i<n->b i=true->∀(H':Hp)(G:VK),H l=none->(∃o,H' l=some o)->(∃o,H' d=some o)->fJ d H H'->(∀v H'',R l i v H''->ar H' H''->G v H'')->te (st i) H' G)
  (hq:∀l ys H2,H l=none->ar H H2->H2 l=some (.lst ys)->QE (fun i v=>R l i v H2) ((QM n).filter b) ys->Q (.ref l) H2):dP mp g tt te J σ Hf (M2 d Q):=by
 have hx:∀H',ar Hf H'->fJ d H H':=fun H' s a x ha h=>s _ _ (F.keep a x ha h)
 refine gL Y st hf (fun H' s=>hP H' (s _ _ F.fd) (hx H' s)) hz b R hR (fun i hi H' G s k=>ht i hi H' G (hx H' s) k) (fun l i hi hb H' G h0 h1 s k=>he l i hi hb H' G (F.low l h0) h1 ⟨_,s _ _ F.fd⟩ (hx H' s) k) fun l ys H' h0 s h1 pr=>?_
 have hfd:H' d=some (.frz o (.dK kvs)):=s _ _ F.fd
 have hld:l≠d:=fun e=>by rw[e,F.fd]at h0;cases h0
 refine⟨o,kvs,hfd,hq l ys _ (F.low l h0) (fun a x ha=>?_) (by rw[ax hld];exact h1) (Paired.mapP pr fun i v q=>hRd l i v H' hfd q)⟩
 by_cases h1:a=d
 ·subst h1
  rw[ay,<-hd];exact ha
 ·rw[ax h1]
  exact hx H' s a x h1 ha
theorem zC(F:K0 d kvs o H Hf)(hd:H d=some (.dK kvs))(Y:Ys J g P n f)(st:Nat->St)(hf:∀i σ',(σ'=dM mp σ\/∃j,σ'=st j)->f i σ'=st i)(hP:∀H',H' d=some (.frz o (.dK kvs))->fJ d H H'->P H')(hz:n<=Qr)(b:Nat->Bool)(U:Nat->V)
  (ht:∀i,i<n->∀(H':Hp)(G:Bool->Hp->Prop),fJ d H H'->(∀H'',ar H' H''->G (b i) H'')->tt (st i) H' G)
  (he:∀i,i<n->b i=true->∀(H':Hp)(G:VK),fJ d H H'->(∀H'',ar H' H''->G (U i) H'')->te (st i) H' G)
  (hq:∀l H2,H l=none->ar H H2->H2 l=some (.lst (((QM n).filter b).map U))->Q (.ref l) H2):dP mp g tt te J σ Hf (M2 d Q):=by
 refine Cp F hd Y st hf hP hz b (fun _ i v _=>v=U i) (fun _ _ _ _ _ _ h=>h) (fun _ _ _ _ _ h=>h) ht (fun l i hi hb H' G _ _ _ s k=>he i hi hb H' G s fun H'' s'=>k _ H'' rfl s') fun l ys H' h0 s h1 pr=>?_
 have e:=k9 pr
 subst e
 exact hq l H' h0 s h1
theorem Aj(F:K0 d kvs o H Hf)(hd:H d=some (.dK kvs))(Y:Ys J g P n f)(st:Nat->St)(hf:∀i σ',(σ'=dM mp σ\/∃j,σ'=st j)->f i σ'=st i)(hP:∀H',H' d=some (.frz o (.dK kvs))->fJ d H H'->P H')(hz:n<=Qr)(b:Nat->Bool)(U:Nat->HO)
  (ht:∀i,i<n->∀(H':Hp)(G:Bool->Hp->Prop),fJ d H H'->(∀H'',ar H' H''->G (b i) H'')->tt (st i) H' G)
  (he:∀i,i<n->b i=true->∀(H':Hp)(G:VK),fJ d H H'->(∀a H'',H' a=none->ar H' H''->H'' a=some (U i)->G (.ref a) H'')->te (st i) H' G)
  (hq:∀l bs H2,H l=none->ar H H2->H2 l=some (.lst (bs.map V.ref))->QE (fun i a=>H a=none/\a≠l/\H2 a=some (U i)) ((QM n).filter b) bs->Q (.ref l) H2):dP mp g tt te J σ Hf (M2 d Q):=by
 refine Cp F hd Y st hf hP hz b (fun l i v H'=>∃a,v=.ref a/\H a=none/\a≠l/\H' a=some (U i)) (fun l i v H1 H2 s ⟨a,e,g0,hl,h1⟩=>⟨a,e,g0,hl,s a _ hl h1⟩) (fun l i v H1 hfr ⟨a,e,g0,hl,h1⟩=>⟨a,e,g0,hl,by
  have:a≠d:=fun z=>by rw[z,hd]at g0;cases g0
  rw[ax this];exact h1⟩) ht
  (fun l i hi hb H' G hl ⟨o,ho⟩ ⟨o2,ho2⟩ s k=>he i hi hb H' G s fun a H'' h0 s' h1=>k _ H'' ⟨a,rfl,?_,(fun e=>by rw[e,ho]at h0;cases h0),h1⟩ s') fun l ys H' h0 s h1 pr=>?_
 ·cases e:H a with
  |none=>rfl
  |some x=>
   have:a≠d:=fun z=>by rw[z,ho2]at h0;cases h0
   rw[s a x this e]at h0;cases h0
 ·obtain⟨bs,rfl,pr'⟩:=j0 (T:=fun a i=>H a=none/\a≠l/\H' a=some (U i)) pr
  exact hq l bs H' h0 s h1 pr'
end
theorem LH{d:Qh}{o:Qo}{kvs:List (Key×V)}(p:Nat)(u:Nat->V)(hu:∀i q,kvs[i]?=some q->q.2=u i):
  Ys (Oy d o kvs) (av p) (fun H=>H d=some (.frz o (.dK kvs))) kvs.length (fun i σ=>σ.set p (some (u i))) where
 go:=fun i H hi h=>⟨h,hi⟩
 stop:=fun H h=>⟨h,QC _⟩
 yld:=fun i H x H' σ Q hi h y q=>by
  obtain⟨e,w,hw,ex⟩:=y
  subst e ex
  rw[hu i w hw]
  exact q _ (ar.refl _)
theorem xH{X:Cx}{st:Qs}{te:TE}{i:Nat}(h:PS X st (bM te (av i))):PS X st (bM (iG te) (av i)):=by
 intro pins s σ H D I q
 obtain⟨d,kvs0,hd,q⟩:=q
 refine cX (h pins s σ H {nx:=fun σ' H'=>∃o kvs,H' d=some (.frz o (.dK kvs))/\D.nx σ' (upd H' d (.dK kvs)),rt:=fun _ _=>False} I q) fun f s1 q1=>?_
 match f,q1 with
 |.next,⟨σ',H',I',o,kvs,hf,q2⟩=>exact⟨σ',_,Inv.thaw I hd I' hf,q2⟩
 |.brk,⟨σ',H',I',q2⟩=>exact q2.elim
 |.cont,⟨σ',H',I',q2⟩=>exact q2.elim
 |.ret u,⟨v,σ',H',I',r,q2⟩=>exact q2.elim
end L2
namespace L2
open PySem PySem.Spec PyProof.Rows
section
variable {X:Cx}
def ux(te:TE):TE:=fun σ H Q=>te σ H fun x H1=>∃z:Qg,x=.str z/\z.length<=Qr/\Q (.str z) H1
theorem lH{e:Qp}{te:TE}{pos:QH}(he:PE X e te):PE X (.FormattedValue e (-1) none pos) (ux te):=by
 intro pins s σ H Q I h
 refine wpAny_FormattedValue_plain (cX (he pins s σ H _ I h) fun v s1 ⟨x,H1,I1,r1,z,hx,hl,q⟩=>?_)
 subst hx
 obtain⟨tk,rfl⟩:=(show ∃t,v=Tu z t from r1)
 have fin:∀(t':Tok)(k:Nat),EP X pins σ Q (.str z t') {s1 with toks:=k}:=fun t' k=>⟨.str z,H1,I1.tok k,⟨t',rfl⟩,q⟩
 exact wpAny_formatField_str (fin _ _) (fin _ _) (hx:=hl)
end
section
variable {X:Cx}{k:Nat}{c m:Qg}{ps:List Qg}{sp:Sp}{o e:Qp}{es:List Qp}{ta:TE}{t:TA}{apos pos:QH}{pl:Sem Bool}
theorem K8{E:XK}(M:fe (eQ X.prog X.w X.base) X.prog X.w X.K X.mg X.base k c m ps sp)(C:oo X.K X.mg c)(hr:dv k X.A)(hx:∀b,b∉X.ex)(he:PE X.nox o ta)(ha:PA X.nox (e::es) t)
  (hst:Qx (e::es) X.env=(false,eval e X.env)::Qx es X.env:=by rfl) (hpl:(Q1 pos (Qx es X.env)).any (·.1)=false:=by rfl)
  (ht:eval (.Call (.Attribute o m apos) (e::es) [] pos) X.env=(do
   let ov <-eval o X.env
   standAt apos.atName
   let (f,first) <-holding [ov] (Sw ov m pl)
   callWith pos f first (Q1 pos (Qx (e::es) X.env)) (Sg pos (Sf [] X.env))):=by rfl):PX X (.Call (.Attribute o m apos) (e::es) [] pos) E (bP (aq X.K c) m sp [] E ta t):=by
 obtain⟨f,fd,hm,hb,F⟩:=M.ex
 intro pins s σ H Q I h
 refine Vv (pl:=pl) (Rl (he pins s σ H _ (I.wish _) h) (fun u s1 ⟨x,H1,I1,rx,a,dx,fs,ex,ea,l,q⟩=>?_) fun _ _ z=>z.elim) ht
 subst ex
 obtain rfl:u=QL a:=rx
 have I1:=I1.unwish
 refine k7 I1 ea C.cls hm l ?_
 refine U3 (first:=[.ref a]) (h₀:=X.base) I.ok.mod.kin hm.kp (Rl (ha pos pins s1 σ H1 _ (I1.wish _) q) (fun us s2 ⟨vs,H2,I2,r,q2⟩=>⟨I2.kIn,?_⟩) fun _ _ z=>z.elim) hst hpl
 exact Gb (us:=.ref a::us) (vs:=.ref a::vs) F hr hb .nil hx I2.unwish (.cons rfl r) q2
end
section
variable {mp:List (Option Nat)}{g:TG}{te:TE}{J:It}{P:Hp->Prop}{n:Nat}{f:Nat->St->St}{σ:St}{H:Hp}{Q:VK}
end
end L2
namespace L2
open PySem PySem.Spec PyProof.Rows PySem.Builtin PySem.Builtin.Str
section
variable {X:Cx}
def Mb(a:Qg):Qg:={cps:=placed a fun _ c=>SG c}
def D8:V->List V->Hp->VK->Prop:=fun x vs H Q=>∃a:Qg,x=.str a/\vs=[]/\tooLong (placed a fun _ c=>SG c).size=false/\(Mb a).length<=Qr/\Q (.str (Mb a)) H
theorem JZ:NS X "str.upper" D8:=by
 intro pins s σ H x vs v us Q I rx rv h
 obtain⟨a,rfl,rfl,hl,hz,q⟩:=h
 obtain⟨t,rfl⟩:=rx
 cases rv
 refine Sn Y6 (typeIs_str _ _ _) F.entry_str_upper (F.args_str_upper_1 _) (gives_str_upper a t hl).meets ?_
 have fin:∀(t':Tok)(tk:Nat),EP X pins σ Q (.str (Mb a) t') {s with toks:=tk}:=fun t' tk=>⟨.str (Mb a),H,I.tok tk,⟨t',rfl⟩,q⟩
 exact⟨hz,fin _ _⟩
end
section
variable {X:Cx}
def pJ:List V->Hp->VK->Prop:=fun xs H Q=>(∃i:Int,xs=[.int i]/\i.natAbs.log2<1920/\Q (.str (toString i:String)) H)\/∃z:Qg,xs=[.str z]/\Q (.str z) H
theorem Hr:d4 X (.type "str") pJ:=by
 intro pins s σ H xs us Q I r h
 rcases h with h|⟨z,rfl,q⟩
 ·exact rF pins s σ H xs us Q I r h
 ·obtain⟨u,rfl,t,rfl⟩:=vals1 r
  exact aah ⟨.str z,H,I,⟨_,rfl⟩,q⟩
end
section
variable {mp:List (Option Nat)}{g:TG}{te:TE}{J:It}{P:Hp->Prop}{n:Nat}{f:Nat->St->St}{σ:St}{H:Hp}{Q:VK}
end
end L2
set_option maxHeartbeats 4000000
namespace My
open PySem L2
local macro_rules | `(tactic| walk_at "q") => `(tactic| with_reducible refine CU ?_)
local macro_rules | `(tactic| walk_at "u1") => `(tactic| first
 |with_reducible refine FC ?_
 |with_reducible refine OS ?_
 |with_reducible refine FH ?_
 |with_reducible refine Nl ?_
 |with_reducible refine Nh ?_
 |((with_reducible show Er _ _ _ _ _ _);refine⟨_,rfl,?_⟩)
 |((with_reducible show af _ _ _ _);refine⟨_,rfl,?_⟩)
 |with_reducible refine Qe ?_
 |with_reducible refine Pt ?_
 |with_reducible refine OV ?_
 |with_reducible refine Oh ?_
 |((with_reducible show nu _ _ _ _);first|refine JF (by first|omega|decide) (by first|omega|decide) ?_|refine MS (by first|omega|decide) (by first|omega|decide) ?_)
 |((with_reducible show oDiv _ _ _ _);refine LZ (by first|omega|decide) (by first|omega|decide) ?_)
 |((with_reducible show oMod _ _ _ _);refine OW (by first|omega|decide) ?_)
 |((with_reducible show EF _ _ _ _);refine OM (by decide) (by decide) (by decide) ?_)
 |with_reducible refine P1 ?_
 |with_reducible refine P2 ?_
 |with_reducible refine PZ ?_
 |with_reducible refine PK ?_
 |with_reducible refine PQ ?_
 |with_reducible refine PD ?_
 |with_reducible refine O9 ?_
 |with_reducible refine Mt ?_
 |with_reducible refine Nk ?_
 |with_reducible refine PN ?_
 |with_reducible refine PU ?_
 |with_reducible refine Oa ?_
 |with_reducible refine Pu ?_
 |with_reducible refine OK ?_
 |with_reducible refine MW ?_
 |with_reducible refine PL ?_
 |with_reducible refine Oe ?_
 |with_reducible refine NJ ?_
 |with_reducible refine NK ?_
 |with_reducible refine Py ?_
 |with_reducible refine OC ?_
 |with_reducible refine O6 ?_
 |with_reducible refine OJ ?_
 |with_reducible refine NM ?_
 |with_reducible refine Mp ?_
 |((with_reducible show ∃i j:Int,_=_/\_);refine LW (by first|omega|decide) (by first|omega|decide) (by first|omega|decide) (by first|omega|decide) ?_)
 |((with_reducible show ∃j:Int,[V.int _]=[V.int _]/\_);refine Ld (by first|omega|decide) (by first|omega|decide) ?_)
 |with_reducible refine Lr ?_
 |with_reducible refine PY ?_
 |with_reducible refine Nt ?_
 |with_reducible refine K1 ?_
 |with_reducible refine KH ?_
 |with_reducible refine ow ?_
 |with_reducible refine PM ?_
 |with_reducible refine O7 ?_
 |with_reducible refine KO ?_)
local macro_rules | `(tactic| walk_at "o1") => `(tactic| first
 |walk_at "u1"
 |((with_reducible show jd _ _ _ _);refine LX (by assumption) ?_)
 |((with_reducible show GL _ _ _ _);refine L6 (by assumption) ?_)
 |((with_reducible show ∃b:Qh,V.ref _=V.ref _/\_);refine cV (by assumption) ?_))
local macro_rules | `(tactic| walk_at "w") => `(tactic| repeat (first | with_reducible refine CU ?_ | walk_at "o1"))
local macro_rules | `(tactic| walk_at "sq") => `(tactic| first | assumption | exact bo.of (by assumption) | exact ar.seq (by assumption) (by walk_at "sq"))
local macro_rules | `(tactic| walk_at "rows") => `(tactic| first | assumption | exact ar.rows (by assumption) (by walk_at "rows"))
local macro_rules | `(tactic| walk_at "fits") => `(tactic| first | exact WJ rfl | (refine Qt ?_ bL; simp; done) | (refine Qt ?_ bL; simp; omega) | (refine Qt ?_ bL; omega))
local macro_rules | `(tactic| walk_at "call") => `(tactic| fail)
local macro_rules | `(tactic| walk_at "early") => `(tactic| fail)
local macro_rules | `(tactic| walk_at "v1") => `(tactic| first
 |walk_at "early"
 |walk_at "u1"
 |with_reducible refine M9 ?_
 |((with_reducible show jd _ _ _ _);refine LX (by walk_at "sq") ?_)
 |((with_reducible show GL _ _ _ _);refine L6 (by walk_at "sq") ?_)
 |with_reducible refine Mx ?_
 |with_reducible refine ME ?_
 |((with_reducible show NL _ _ _);refine Ng (by walk_at "fits") ?_;intro _ _ _ _ _)
 |((with_reducible show MO _ _ _);refine NF (by walk_at "fits") ?_;intro _ _ _ _ _)
 |((with_reducible show Bv _ _ _ _);refine GB (by walk_at "sq") ?_;intro _ _ _ _ _)
 |((with_reducible show Nm _ false (V.int _) _ _ _);refine N4 (by walk_at "sq") ?_)
 |((with_reducible show Kp _ _ _ _);refine Oj (by walk_at "sq") ?_)
 |((with_reducible show ∃b:Qh,V.ref _=V.ref _/\_);refine cV (by walk_at "sq") ?_)
 |with_reducible refine MI ?_
 |with_reducible refine Mn ?_
 |((with_reducible show GQ _ _ _ _ _ _);refine MU (by walk_at "sq") ?_;intro _ _ _ _ _)
 |with_reducible refine E1 ?_
 |with_reducible refine Km ?_
 |with_reducible refine N5 ?_
 |with_reducible refine Od ?_
 |walk_at "call")
local macro_rules | `(tactic| walk_at "z") => `(tactic| repeat walk_at "v1")
local macro_rules | `(tactic| walk_at "v") => `(tactic| repeat (first | with_reducible refine CU ?_ | walk_at "v1"))
theorem wu{α:Type}{f:α->V}:∀{xs:List α}{g:α->V}{ys:List V},QE (fun x v=>∃p,x=g p/\v=f p) (xs.map g) ys->(∀p q,g p=g q->p=q)->ys=xs.map f
 |[],_,_,.nil,_=>rfl
 |x::r,g,_,.cons ⟨p,e,e'⟩ t,inj=>by
  have:=inj _ _ e
  subst this
  rw[e',wu t inj]
  rfl
theorem Lc:∀p q:Int,V.int p=V.int q->p=q:=fun _ _ e=>V.int.inj e
theorem JT{ns:List Int}{x:V}(h:x∈ns.map V.int):∃i∈ns,x=V.int i:=by
 obtain⟨i,hi,e⟩:=Qu.mp h
 exact⟨i,hi,e.symm⟩
theorem DB(ns:List Int)(lo hi:Option Int):∃ms:List Int,sY (ns.map V.int) lo hi=ms.map V.int/\ms.length<=ns.length/\∀m∈ms,m∈ns:=by
 exists (ns.drop (HT.Ad (ns.map V.int).length 0 lo)).take (HT.Ad (ns.map V.int).length (ns.map V.int).length hi-HT.Ad (ns.map V.int).length 0 lo),?_,?_
 ·unfold sY
  rw[V3,List.map_drop]
 ·rw[Rw,SE]
  omega
 ·intro m hm
  exact U0 (TK hm)
theorem MA(xs:List V)(lo hi:Nat):(sY xs (some (lo:Int)) (some (hi:Int))).length<=hi-lo:=by
 unfold sY
 rw[HT.BD,HT.BD,Rw]
 omega
def Cn(ps:List Int)(L:Int):Int:=(ps.map (min · L)).sum
def IU(ps:List Int)(price L:Int):Prop:=1<=L/\price<=Cn ps L/\Cn ps (L-1)<price
theorem Cm:∀{a b:List Int},a.Perm b->a.sum=b.sum:=by
 intro a b h
 induction h with
 |nil=>rfl
 |cons x _ ih=>simp only[Ry,ih]
 |swap x y l=>simp only[Ry];omega
 |trans _ _ i1 i2=>exact i1.trans i2
theorem Dk{a b:List Int}(h:a.Perm b)(L:Int):Cn a L=Cn b L:=Cm (h.map _)
theorem Fk(a b:List Int)(L:Int):Cn (a++b) L=Cn a L+Cn b L:=by
 unfold Cn
 rw[R4,UG]
theorem Cy(x:Int)(b:List Int)(L:Int):Cn (x::b) L=min x L+Cn b L:=by
 unfold Cn
 rw[QW,Ry]
theorem zN{L:Int}:∀{l:List Int},(∀y∈l,y<=L)->Cn l L=l.sum
 |[],_=>rfl
 |x::r,h=>by
  have hx:=h x Ri
  rw[Cy,zN fun y hy=>h y (Q2 _ hy),Ry]
  omega
theorem Gk{L:Int}:∀{l:List Int},(∀y∈l,L<=y)->Cn l L=(l.length:Int)*L
 |[],_=>by simp[Cn]
 |x::r,h=>by
  have hx:=h x Ri
  rw[Cy,Gk fun y hy=>h y (Q2 _ hy),Rn]
  have e:((r.length+1:Nat):Int)*L=(r.length:Int)*L+L:=by
   rw[Us,Vw]
   simp
  rw[e]
  omega
theorem GW{pre post:List Int}{x m p price:Int}(hp:p=(post.length:Int)+1)(hm:m=price-pre.sum)(hm0:0<m)(hA:∀y∈pre,y*p<m)(hx:m<=x*p)(hpost:∀y∈post,x<=y):
  IU (pre++x::post) price ((m+p-1)/p):=by
 have p0:0<p:=by omega
 have e:=VE (m+p-1) p
 have r0:=S0 (m+p-1) (show p≠0 by omega)
 have r1:=Uk (m+p-1) p0
 generalize (m+p-1)/p=L at *
 generalize (m+p-1)%p=r at *
 have e1:p*(L-1)=p*L-p:=by rw[Y0,VM]
 have hL:L<=x:=by
  rcases SF x L with h|h
  ·exfalso
   have:x*p<=(L-1)*p:=U7 (by omega) (by omega)
   rw[Ud (L-1) p]at this
   omega
  ·exact h
 have hpre:∀y∈pre,y<=L-1:=fun y hy=>by
  rcases SF y L with h|h
  ·omega
  ·exfalso
   have h1:L*p<=y*p:=U7 h (by omega)
   rw[Ud L p]at h1
   have h2:=hA y hy
   omega
 have hL1:1<=L:=by
  rcases SF 0 L with h|h
  ·omega
  ·exfalso
   have:p*L<=p*0:=XO h (by omega)
   rw[Int.mul_zero]at this
   omega
 have g:∀M,M<=L->(∀y∈pre,y<=M)->Cn (pre++x::post) M=pre.sum+p*M:=fun M hM hpre=>by
  rw[Fk,zN hpre,Gk (l:=x::post) fun y hy=>by
   rcases QI.mp hy with rfl|hy
   ·omega
   ·have:=hpost y hy;omega]
  rw[Rn,hp]
  rfl
 exists hL1,?_
 ·rw[g L (Sk _) fun y hy=>by have:=hpre y hy;omega]
  omega
 ·rw[g (L-1) (by omega) hpre]
  omega
theorem JP{pre:List Int}{x m p:Int}(hp:1<=p)(hx0:0<=x)(hpre:∀y∈pre,y<=x)(hn:¬m<=x*p):0<m-x/\∀y∈pre++[x],y*(p-1)<m-x:=by
 have e:x*(p-1)=x*p-x:=by rw[Y0,VM]
 have z:0<=x*(p-1):=Vh hx0 (by omega)
 refine⟨by omega,fun y hy=>?_⟩
 rcases Q7.mp hy with h|h
 ·have:y*(p-1)<=x*(p-1):=U7 (hpre y h) (by omega)
  omega
 ·have:y=x:=by simpa using h
  subst this
  omega
theorem qQ:∀{l:List Int},(∀y∈l,0<=y)->0<=l.sum
 |[],_=>Sk 0
 |x::r,h=>by
  have h1:=h x Ri
  have h2:=qQ fun y hy=>h y (Q2 _ hy)
  rw[Ry]
  omega
theorem Jc(l:List Int)(x:Int):(l++[x]).sum=l.sum+x:=by
 rw[UG]
 simp
theorem br{α β:Type}(f:α->β)(d:α)(xs:List α):(QM xs.length).map (fun i=>f (xs.getD i d))=xs.map f:=by
 apply Tv
 ·simp
 ·intro k h1 h2
  have hk:k<xs.length:=by simpa using h1
  simp[QN,hk]
theorem xC{α β:Type}{F:α->β->Prop}:∀{a c:List α}{b d:List β},QE F a b->QE F c d->QE F (a++c) (b++d)
 |_,_,_,_,.nil,h=>h
 |_,_,_,_,.cons r t,h=>.cons r (xC t h)
def nF:Nat->Nat
 |0=>1
 |n+1=>Sl (nF n) (n+1)
theorem BW:∀n,0<nF n
 |0=>Nat.one_pos
 |n+1=>YV (BW n) (YI n)
theorem z0:∀n,n<21->nF n<=232792560:=nofun
theorem K9:∀n,n<21->∀k,k<21->(1<=k/\k<=n)->k∣nF n:=nofun
theorem Iy{s n m:Nat}(hs:0<s)(hn:0<n)(hm:s∣m)(hle:m<=Sl s n)(hne:m%n≠0):m+s<=Sl s n:=by
 obtain⟨a,rfl⟩:=hm
 obtain⟨b,hb⟩:=W5 s n
 have h1:n∣Sl s n:=Nat.dvd_lcm_right s n
 have h2:s*a≠Sl s n:=fun e=>hne (Nat.mod_eq_zero_of_dvd (e▸h1))
 rw[hb]at hle h2 ⊢
 have h3:a<b:=by
  rcases Xq a b with h|h
  ·exact h
  ·exact absurd (W9 hle (X9 s h)) h2
 calc s*a+s=s*(a+1):=by rw[Nat.mul_add,Nat.mul_one]
  _<=s*b:=X9 s h3
theorem LF{s n m:Nat}(hm0:0<m)(hm:s∣m)(hle:m<=Sl s n)(h0:m%n=0):m=Sl s n:=
 W9 hle (XG hm0 (Nat.lcm_dvd hm (Nat.dvd_of_mod_eq_zero h0)))
def Ml(w:Nat)(b:Nat->Bool):List Int:=((QM w).filter b).map fun k:Nat=>(k:Int)
theorem NX{w:Nat}{b:Nat->Bool}{k:Nat}:((k:Int)∈Ml w b)↔(k<w/\b k=true):=by
 unfold Ml
 constructor
 ·intro h
  obtain⟨j,hj,e⟩:=Qu.mp h
  have:j=k:=by omega
  subst this
  exact⟨Ss.mp (Rb.mp hj).1,(Rb.mp hj).2⟩
 ·rintro⟨h1,h2⟩
  exact Qu.mpr ⟨k,Rb.mpr ⟨Ss.mpr h1,h2⟩,rfl⟩
theorem Ig{v w:Nat}(hv:v<=20)(hw:w<=13):nF v ^ w<=232792560 ^ 13:=
 Qt (Nat.pow_le_pow_left (z0 v (by omega)) w) (YM (by decide) hw)
theorem gQ(v w:Nat):0<nF v ^ w:=Nat.pow_pos (BW v)
theorem Ja:(232792560:Int) ^ 13*1000000000000*1000000000000<oE:=nofun
theorem qz{v w:Nat}(hv:v<=20)(hw:w<=13):((nF v ^ w:Nat):Int)<=232792560 ^ 13:=by
 have h:=Int.ofNat_le.mpr (Ig hv hw)
 have e:((232792560 ^ 13:Nat):Int)=232792560 ^ 13:=nofun
 rw[e]at h
 exact h
def sumTo(v:Nat)(f:Nat->Int):Int:=((QM v).map f).sum
theorem fv(v:Nat)(f:Nat->Int):sumTo (v+1) f=sumTo v f+f v:=by
 unfold sumTo
 rw[TX,R4,UG]
 simp
theorem vX:∀{v:Nat}{f g:Nat->Int},(∀i,i<v->f i<=g i)->sumTo v f<=sumTo v g
 |0,_,_,_=>Sk 0
 |v+1,f,g,h=>by
  have h1:=vX (v:=v) fun i hi=>h i (by omega)
  have h2:=h v (by omega)
  rw[fv,fv]
  omega
theorem Al(f g:Nat->Int):∀v,sumTo v (fun i=>f i-g i)=sumTo v f-sumTo v g
 |0=>rfl
 |v+1=>by
  rw[fv,fv,fv,Al f g v]
  omega
def B7(W:Nat->Nat->Bool)(p:Nat->Int)(k:Nat)(L:Int)(i:Nat):Int:=if W i k=true then min (p i) L else 0
def u7(v:Nat)(W:Nat->Nat->Bool)(p:Nat->Int)(k:Nat)(L:Int):Int:=sumTo v (B7 W p k L)
def Ij(v:Nat)(W:Nat->Nat->Bool)(p:Nat->Int)(k:Nat):Int:=sumTo v fun i=>if W i k=true then p i else 0
theorem Ds{v:Nat}{W:Nat->Nat->Bool}{p:Nat->Int}{k:Nat}{L M:Int}(h:L<=M):u7 v W p k L<=u7 v W p k M:=
 vX fun i _=>by
  unfold B7
  split<;>omega
theorem wL(v:Nat)(W:Nat->Nat->Bool)(p:Nat->Int)(k:Nat)(L:Int):u7 v W p k L<=Ij v W p k:=
 vX fun i _=>by
  unfold B7
  split<;>omega
theorem Nr{W:Nat->Nat->Bool}{p:Nat->Int}{k:Nat}{L:Int}{i:Nat}(h:0<=p i)(hL:0<=L):0<=B7 W p k L i:=by
 unfold B7
 split<;>omega
theorem MR{W:Nat->Nat->Bool}{p:Nat->Int}{k:Nat}{L:Int}{i:Nat}(h:0<=p i):B7 W p k L i<=p i:=by
 unfold B7
 split<;>omega
structure tS where
 v:Nat
 n:Nat
 W:Nat->Nat->Bool
 c:Nat->Int
structure Nx(T:tS)(p:Nat->Int)(done:List Nat)(k:Nat)(L:Int):Prop where
 lt:k<T.n
 new:k∉done
 pos:1<=L
 enough:T.c k<=u7 T.v T.W p k L
 least:∀j,j<T.n->j∉done->u7 T.v T.W p j (L-1)<T.c j
 first:∀j,j<k->j∉done->u7 T.v T.W p j L<T.c j
def EO(W:Nat->Nat->Bool)(p:Nat->Int)(k:Nat)(L:Int):Nat->Int:=fun i=>p i-B7 W p k L i
inductive Run(T:tS):(Nat->Int)->List Nat->List (Nat×Int)->Prop
 |stop {p:Nat->Int}{done:List Nat}:(∀k,k<T.n->k∉done->Ij T.v T.W p k<T.c k)->Run T p done []
 |step {p:Nat->Int}{done:List Nat}{k:Nat}{L:Int}{rest:List (Nat×Int)}:Nx T p done k L->Run T (EO T.W p k L) (k::done) rest->Run T p done ((k,L)::rest)
theorem E2{W:Nat->Nat->Bool}{p:Nat->Int}{k:Nat}{L:Int}{i:Nat}(h:0<=p i):0<=EO W p k L i:=by
 have:=MR (W:=W) (k:=k) (L:=L) h
 unfold EO
 omega
theorem KG{W:Nat->Nat->Bool}{p:Nat->Int}{k:Nat}{L:Int}{i:Nat}(h:0<=p i)(hL:0<=L):EO W p k L i<=p i:=by
 have:=Nr (W:=W) (k:=k) h hL
 unfold EO
 omega
theorem Hl{T:tS}{p:Nat->Int}{done:List Nat}{k k':Nat}{L L':Int}(h:Nx T p done k L)(h':Nx T p done k' L'):k=k'/\L=L':=by
 have a:∀{k k':Nat}{L L':Int},Nx T p done k L->Nx T p done k' L'->¬L<L':=by
  intro k k' L L' h h' hlt
  have h1:=h'.least k h.lt h.new
  have h2:=Ds (v:=T.v) (W:=T.W) (p:=p) (k:=k) (show L<=L'-1 by omega)
  have h3:=h.enough
  omega
 have e:L=L':=by
  have:=a h h'
  have:=a h' h
  omega
 subst e
 have b:∀{k k':Nat},Nx T p done k L->Nx T p done k' L->¬k<k':=by
  intro k k' h h' hlt
  have h1:=h'.first k hlt h.new
  have h3:=h.enough
  omega
 have:=b h h'
 have:=b h' h
 exact⟨by omega,rfl⟩
theorem Jj{T:tS}{p:Nat->Int}{done:List Nat}{k:Nat}{L:Int}(h:Nx T p done k L):T.c k<=Ij T.v T.W p k:=Ua h.enough (wL _ _ _ _ _)
theorem EI{T:tS}:∀{p:Nat->Int}{done:List Nat}{s s':List (Nat×Int)},Run T p done s->Run T p done s'->s=s':=by
 intro p done s s' h
 induction h generalizing s' with
 |stop h0=>
  intro h'
  cases h' with
  |stop _=>rfl
  |step n _=>
   have h1:=h0 _ n.lt n.new
   have h2:=Jj n
   omega
 |step n _ ih=>
  intro h'
  cases h' with
  |stop h0=>
   have h1:=h0 _ n.lt n.new
   have h2:=Jj n
   omega
  |step n' r'=>
   obtain⟨e1,e2⟩:=Hl n n'
   subst e1
   subst e2
   rw[ih r']
theorem zF{T:tS}{p:Nat->Int}{done:List Nat}{s:List (Nat×Int)}(h:Run T p done s):(∀x∈s,x.1<T.n/\x.1∉done/\1<=x.2)/\(s.map (·.1)).Nodup:=by
 induction h with
 |stop _=>exact⟨fun _ h=>(by simp at h),UK⟩
 |step n _ ih=>
  obtain⟨i1,i2⟩:=ih
  exists fun x hx=>?_
  ·rcases QI.mp hx with e|hx
   ·subst e
    exact⟨n.lt,n.new,n.pos⟩
   ·obtain⟨a,b,c⟩:=i1 x hx
    exact⟨a,fun z=>b (Q2 _ z),c⟩
  ·rw[QW]
   refine Sb.mpr ⟨fun z=>?_,i2⟩
   obtain⟨x,hx,e⟩:=Qu.mp z
   have:=(i1 x hx).2.1
   rw[e]at this
   exact this Ri
theorem iZ:∀(n:Nat)(l:List Nat),l.Nodup->(∀x∈l,x<n)->l.length<=n
 |0,l,_,h=>by
  cases l with
  |nil=>exact QC _
  |cons x r=>exact absurd (h x Ri) (Nat.not_lt_zero _)
 |n+1,l,nd,h=>by
  by_cases hn:n∈l
  ·have h1:=iZ n (l.erase n) (nd.erase n) fun x hx=>by
    have h2:=(nd.mem_erase_iff).mp hx
    have h3:=h x h2.2
    omega
   rw[YC hn]at h1
   omega
  ·have h1:=iZ n l nd fun x hx=>by
    have h3:=h x hx
    have h4:x≠n:=fun e=>hn (e▸hx)
    omega
   omega
theorem zM{α:Type}[BEq α][LawfulBEq α]:∀{l m:List α},l.Nodup->(∀x∈l,x∈m)->l.length<=m.length
 |[],_,_,_=>Rm _
 |x::r,m,nd,h=>by
  have hx:=h x Ri
  obtain⟨n1,n2⟩:=Sb.mp nd
  have h1:=zM (l:=r) (m:=m.erase x) n2 fun y hy=>by
   have hne:y≠x:=fun e=>n1 (e▸hy)
   exact(List.mem_erase_of_ne hne).mpr (h y (Q2 _ hy))
  rw[YC hx]at h1
  have:=List.length_pos_of_mem hx
  rw[Rn]
  omega
theorem Ap(u:Int)(W:Nat->Nat->Bool)(p:Nat->Int)(k:Nat)(L:Int):∀v:Nat,(∀i,i<v->u∣p i)->∃s q:Int,u∣s/\0<=q/\q<=v/\u7 v W p k L=s+q*L/\u7 v W p k (L-1)=s+q*(L-1)
 |0,_=>⟨0,0,WS u,Sk 0,⋯,by simp[u7,sumTo],by simp[u7,sumTo]⟩
 |v+1,h=>by
  obtain⟨s,q,h1,h2,h3,h4,h5⟩:=Ap u W p k L v fun i hi=>h i (by omega)
  have hx:=h v (by omega)
  have e1:∀M,u7 (v+1) W p k M=u7 v W p k M+B7 W p k M v:=fun M=>fv v _
  rw[e1,e1,h4,h5]
  unfold B7
  by_cases hw:W v k=true
  ·rw[if_pos hw,if_pos hw]
   rcases SF (p v) L with c|c
   ·exists s+p v,q,Yk h1 hx,h2,by omega,?_
    ·rw[V1 (by omega)];omega
    ·rw[V1 (by omega)];omega
   ·exists s,q+1,h1,by omega,by omega,?_
    ·rw[Wm (by omega),Vw];omega
    ·rw[Wm (by omega),Vw];omega
  ·rw[if_neg hw,if_neg hw]
   exact⟨s,q,h1,h2,by omega,by omega,by omega⟩
theorem GF{v:Nat}{W:Nat->Nat->Bool}{p:Nat->Int}{k:Nat}{price L rest:Int}(hv:v<=20)(hd:∀i,i<v->rest*(nF v:Nat)∣p i)(hp:rest*(nF v:Nat)∣price)(a2:price<=u7 v W p k L)(a3:u7 v W p k (L-1)<price):u7 v W p k L=price/\rest∣L:=by
 obtain⟨s,q,h1,h2,h3,h4,h5⟩:=Ap _ W p k L v hd
 have hp0:1<=q:=by
  rcases SF 0 q with c|c
  ·exact c
  ·have:q=0:=by omega
   subst this
   rw[Int.zero_mul]at h4 h5
   omega
 obtain⟨q,rfl⟩:∃q':Nat,q=q':=⟨q.toNat,by omega⟩
 obtain⟨b,hb⟩:=K9 v (by omega) q (by omega) ⟨by omega,by omega⟩
 obtain⟨m,hm⟩:=Ve hp h1
 have e:price-s=(q:Int)*(rest*((b:Int)*m)):=by
  rw[hm,hb,Int.natCast_mul]
  simp only[Int.mul_assoc,Ud,Int.mul_left_comm]
 have c1:rest*((b:Int)*m)<=L:=Int.le_of_mul_le_mul_left (a:=(q:Int)) (by omega) (by omega)
 have c2:L-1<rest*((b:Int)*m):=Int.lt_of_mul_lt_mul_left (a:=(q:Int)) (by omega) (by omega)
 have c3:L=rest*((b:Int)*m):=by omega
 rw[<-c3]at e
 exact⟨by omega,⟨_,c3⟩⟩
inductive iX(T:tS):(Nat->Int)->List Nat->List (Nat×Int)->Prop
 |stop {p:Nat->Int}{done:List Nat}:(∀k,k<T.n->k∉done->Ij T.v T.W p k<T.c k)->iX T p done []
 |step {p:Nat->Int}{done:List Nat}{k:Nat}{L:Int}{rest:List (Nat×Int)}:Nx T p done k L->u7 T.v T.W p k L=T.c k->iX T (EO T.W p k L) (k::done) rest->iX T p done ((k,L)::rest)
theorem iX.run{T:tS}{p:Nat->Int}{done:List Nat}{s:List (Nat×Int)}(h:iX T p done s):Run T p done s:=by
 induction h with
 |stop h0=>exact .stop h0
 |step n _ _ ih=>exact .step n ih
theorem K7{W:Nat->Nat->Bool}{p:Nat->Int}{k:Nat}{L r:Int}{i:Nat}(h:r∣p i)(hL:r∣L):r∣EO W p k L i:=by
 unfold EO B7
 split
 ·rcases Int.le_total (p i) L with c|c
  ·rw[V1 c,Int.sub_self]
   exact WS r
  ·rw[Wm c]
   exact Ve h hL
 ·rw[Int.sub_zero]
  exact h
theorem j5{t a b:Nat}(h:a<=b):((t ^ a:Nat):Int)∣((t ^ b:Nat):Int):=by
 have:=Nat.pow_dvd_pow t h
 exact_mod_cast this
theorem GG{T:tS}(hv:T.v<=20)(hc:∀k,k<T.n->((nF T.v ^ T.n:Nat):Int)∣T.c k){p:Nat->Int}{done:List Nat}{s:List (Nat×Int)}(h:Run T p done s):
  done.Nodup->(∀k∈done,k<T.n)->(∀i,i<T.v->((nF T.v ^ (T.n-done.length):Nat):Int)∣p i)->iX T p done s:=by
 induction h with
 |stop h0=>exact fun _ _ _=>.stop h0
 |@step p done k L rest n r ih=>
  intro nd hn hp
  have nd':(k::done).Nodup:=Sb.mpr ⟨n.new,nd⟩
  have hn':∀j∈k::done,j<T.n:=fun j hj=>by
   rcases QI.mp hj with e|e
   ·subst e;exact n.lt
   ·exact hn j e
  have hl:=iZ T.n _ nd' hn'
  rw[Rn]at hl
  have e:T.n-done.length=(T.n-(done.length+1))+1:=by omega
  have ep:((nF T.v ^ (T.n-done.length):Nat):Int)=((nF T.v ^ (T.n-(done.length+1)):Nat):Int)*((nF T.v:Nat):Int):=by
   rw[e,Wl]
   push_cast
   rfl
  have a3:=n.least k n.lt n.new
  obtain⟨x1,x2⟩:=GF (rest:=((nF T.v ^ (T.n-(done.length+1)):Nat):Int)) hv (fun i hi=>by rw[<-ep];exact hp i hi) (by rw[<-ep];exact Vb (j5 (by omega)) (hc k n.lt)) n.enough a3
  refine .step n x1 (ih nd' hn' fun i hi=>?_)
  rw[Rn]
  refine K7 (Vb ?_ (hp i hi)) x2
  exact j5 (by omega)
def mx(rows:List (List Int))(ks:List Int):List Int:=((QM rows.length).filter fun i=>ks.all fun k=>decide (k∈rows.getD i [])).map fun i:Nat=>(i:Int)
def WR(rows:List (List Int))(i k:Nat):Bool:=decide ((k:Int)∈rows.getD i [])
def PF(ps:List Int)(i:Nat):Int:=ps.getD i 0
theorem sum_filter{p:Nat->Bool}{f:Nat->Int}:∀n:Nat,(((QM n).filter p).map f).sum=sumTo n fun i=>if p i=true then f i else 0
 |0=>rfl
 |n+1=>by
  rw[fv,TX,Wf,R4,UG,sum_filter n,Tt]
  by_cases h:p n=true
  ·rw[if_pos h,if_pos h]
   simp
  ·rw[if_neg h,if_neg h]
   simp
def oV:Option Int->V
 |none=>.non
 |some i=>.int i
theorem nU{k:Nat}{done:List Nat}:((k:Int)∈done.map fun k:Nat=>(k:Int))↔k∈done:=by
 constructor
 ·intro h
  obtain⟨j,hj,e⟩:=Qu.mp h
  have:j=k:=by omega
  exact this▸hj
 ·exact fun h=>Qu.mpr ⟨k,h,rfl⟩
def DF(T:tS)(p:Nat->Int)(done:List Nat)(k:Nat):Option Int->Prop
 |none=>k∈done\/Ij T.v T.W p k<T.c k
 |some L=>k∉done/\1<=L/\T.c k<=u7 T.v T.W p k L/\u7 T.v T.W p k (L-1)<T.c k
def iA(os:List (Option Int)):Option Nat->Prop
 |none=>∀o∈os,o=none
 |some k=>∃L,os[k]?=some (some L)/\∀j M,os[j]?=some (some M)->L<=M/\(j<k->L<M)
theorem BS{T:tS}{p:Nat->Int}{done:List Nat}{os:List (Option Int)}{k:Nat}{L:Int}(hl:os.length=T.n)(ho:∀j o,os[j]?=some o->DF T p done j o)(hp:∀i,i<T.v->0<=p i)(hc:∀j,j<T.n->1<=T.c j)(hk:os[k]?=some (some L))(hn:iA os (some k)):Nx T p done k L:=by
 obtain⟨L',e,hmin⟩:=hn
 rw[hk]at e
 have e:L=L':=Rk (Rk e)
 subst e
 have hkl:k<T.n:=by rw[<-hl];exact(Q0.mp hk).1
 obtain⟨a1,a2,a3,a4⟩:=ho k _ hk
 have key:∀j,j<T.n->j∉done->∀M:Int,0<=M->T.c j<=u7 T.v T.W p j M->∃N,os[j]?=some (some N)/\N<=M:=by
  intro j hj hjn M hM hle
  have hjl:j<os.length:=by omega
  have hoj:=ho j os[j] (by simp[hjl])
  cases e:os[j]with
  |none=>
   rw[e]at hoj
   rcases hoj with z|z
   ·exact absurd z hjn
   ·have:=wL T.v T.W p j M
    omega
  |some N=>
   rw[e]at hoj
   obtain⟨_,_,_,b4⟩:=hoj
   exists N,by rw[Qz hjl,e]
   rcases SF M N with c|c
   ·have:=Ds (v:=T.v) (W:=T.W) (p:=p) (k:=j) (show M<=N-1 by omega)
    omega
   ·exact c
 refine⟨hkl,a1,a2,a3,fun j hj hjn=>?_,fun j hj hjn=>?_⟩
 ·rcases SF (u7 T.v T.W p j (L-1)) (T.c j)with c|c
  ·exact c
  ·obtain⟨N,h1,h2⟩:=key j hj hjn (L-1) (by omega) c
   have:=(hmin j N h1).1
   omega
 ·rcases SF (u7 T.v T.W p j L) (T.c j)with c|c
  ·exact c
  ·obtain⟨N,h1,h2⟩:=key j (by omega) hjn L (by omega) c
   have:=(hmin j N h1).2 hj
   omega
def bZ(cs:List Int)(rows:List (List Int)):tS:=⟨rows.length,cs.length,WR rows,fun k=>cs.getD k 0*((nF rows.length ^ (cs.length+1):Nat):Int)⟩
def nD(rows:List (List Int))(ps:List Int)(k:Nat)(L:Int):List Int:=(QM ps.length).map (B7 (WR rows) (PF ps) k L)
def jH(rows:List (List Int))(ps:List Int)(k:Nat)(L:Int):List Int:=(QM ps.length).map (EO (WR rows) (PF ps) k L)
def aX(rows:List (List Int)):List Int->List (Nat×Int)->List (Nat×Int×List Int)
 |_,[]=>[]
 |ps,(k,L)::r=>(k,L,nD rows ps k L)::aX rows (jH rows ps k L) r
def cT(rows:List (List Int)):List Int->List (Nat×Int)->List Int
 |ps,[]=>ps
 |ps,(k,L)::r=>cT rows (jH rows ps k L) r
theorem i5(rows:List (List Int))(ps:List Int)(k:Nat)(L:Int):(jH rows ps k L).length=ps.length:=by simp[jH]
theorem Gy(rows:List (List Int))(ps:List Int)(k:Nat)(L:Int):(nD rows ps k L).length=ps.length:=by simp[nD]
theorem NH(n:Nat)(f:Nat->Int)(h:∀i,n<=i->f i=0):PF ((QM n).map f)=f:=by
 funext i
 unfold PF
 by_cases hi:i<n
 ·simp[QN,hi]
 ·rw[h i (by omega)]
  simp[QN,hi]
theorem KD{rows:List (List Int)}{i k:Nat}(h:rows.length<=i):WR rows i k=false:=by
 unfold WR
 have:rows.getD i []=[]:=by simp[QN,SY h]
 rw[this]
 simp
theorem Ff{ps:List Int}{i:Nat}(h:ps.length<=i):PF ps i=0:=by
 unfold PF
 simp[QN,SY h]
theorem jh{rows:List (List Int)}{ps:List Int}{k:Nat}{L:Int}(h:ps.length=rows.length):PF (jH rows ps k L)=EO (WR rows) (PF ps) k L:=by
 refine NH _ _ fun i hi=>?_
 unfold EO B7
 rw[KD (by omega),Ff hi]
 simp
theorem jk(rows:List (List Int)):∀(ps:List Int)(r:List (Nat×Int)),(aX rows ps r).length=r.length
 |_,[]=>rfl
 |ps,(k,L)::r=>by rw[aX,Rn,Rn,jk]
theorem j1(rows:List (List Int)):∀(ps:List Int)(r:List (Nat×Int)),∀x∈aX rows ps r,x.2.2.length=ps.length
 |_,[],x,h=>by simp[aX]at h
 |ps,(k,L)::r,x,h=>by
  rw[aX]at h
  rcases QI.mp h with e|h
  ·subst e
   exact Gy rows ps k L
  ·rw[j1 rows (jH rows ps k L) r x h,i5]
theorem oY(rows:List (List Int)):∀(ps:List Int)(r:List (Nat×Int)),(cT rows ps r).length=ps.length
 |_,[]=>rfl
 |ps,(k,L)::r=>by rw[cT,oY rows _ r,i5]
theorem xU(rows:List (List Int)):∀(ps:List Int)(r:List (Nat×Int))(k:Nat)(L:Int),cT rows ps (r++[(k,L)])=jH rows (cT rows ps r) k L
 |_,[],_,_=>rfl
 |ps,(j,M)::r,k,L=>by
  rw[Yb,cT,xU rows (jH rows ps j M) r k L,cT]
theorem wm(rows:List (List Int)):∀(ps:List Int)(r r':List (Nat×Int)),aX rows ps (r++r')=aX rows ps r++aX rows (cT rows ps r) r'
 |_,[],_=>rfl
 |ps,(k,L)::r,r'=>by
  rw[Yb,aX,aX,cT,wm rows (jH rows ps k L) r r']
  rfl
theorem rP(rows:List (List Int)):∀(ps:List Int)(r:List (Nat×Int)),(aX rows ps r).map (fun x=>(x.1,x.2.1))=r
 |_,[]=>rfl
 |ps,(k,L)::r=>by
  rw[aX,QW,rP rows _ r]
structure Iw(cs:List Int)(rows:List (List Int))(ps:List Int):Prop where
 c12:cs.length<=12
 cb:∀x∈cs,1<=x/\x<=1000000000000
 v1:1<=rows.length
 v20:rows.length<=20
 pl:ps.length=rows.length
 p0:∀p∈ps,0<=p
 pd:∀p∈ps,((nF rows.length ^ cs.length:Nat):Int)∣p
theorem KJ{ps:List Int}(h:∀p∈ps,0<=p)(i:Nat):0<=PF ps i:=by
 unfold PF
 by_cases hi:i<ps.length
 ·have e:ps.getD i 0=ps[i]:=by simp[QN,hi]
  rw[e]
  exact h _ (Sz hi)
 ·simp[QN,SY (Yx hi)]
theorem Mg{cs:List Int}{rows:List (List Int)}(h:∀x∈cs,1<=x/\x<=1000000000000):∀k,k<cs.length->1<=(bZ cs rows).c k:=by
 intro k hk
 have h1:=h (cs.getD k 0) (by simp[QN,hk])
 have h2:=gQ rows.length (cs.length+1)
 have:1*1<=cs.getD k 0*((nF rows.length ^ (cs.length+1):Nat):Int):=Int.mul_le_mul h1.1 (by omega) (by decide) (by omega)
 show 1<=cs.getD k 0*((nF rows.length ^ (cs.length+1):Nat):Int)
 omega
theorem Oo(cs:List Int)(rows:List (List Int)):∀k,((nF rows.length ^ cs.length:Nat):Int)∣(bZ cs rows).c k:=by
 intro k
 exact Vb (j5 (RM _)) ⟨cs.getD k 0,Ud _ _⟩
def Be(H:Hp)(x:Nat×Int×List Int)(t:Qh):Prop:=∃b:Qh,H t=some (.tup [.int x.1,.int x.2.1,.ref b])/\H b=some (.lst (x.2.2.map V.int))
def iV(H:Hp)(a:Qh)(sts:List (Nat×Int×List Int)):Prop:=∃ts:List Qh,H a=some (.lst (ts.map V.ref))/\QE (Be H) sts ts
theorem D2{H H':Hp}(e:ar H H'){x:Nat×Int×List Int}{t:Qh}(h:Be H x t):Be H' x t:=by
 obtain⟨b,h1,h2⟩:=h
 exact⟨b,e _ _ h1,e _ _ h2⟩
theorem lR{H H':Hp}(e:ar H H'){a:Qh}{sts:List (Nat×Int×List Int)}(h:iV H a sts):iV H' a sts:=by
 obtain⟨ts,h1,h2⟩:=h
 exact⟨ts,e _ _ h1,Paired.mapP h2 fun _ _ q=>D2 e q⟩
def rO(H0 H:Hp)(l:Qh)(x:Nat×Int×List Int)(t:Qh):Prop:=∃b:Qh,H0 t=none/\H0 b=none/\b≠l/\H t=some (.tup [.int x.1,.int x.2.1,.ref b])/\H b=some (.lst (x.2.2.map V.int))
def jy(H0 H:Hp)(l:Qh)(sts:List (Nat×Int×List Int)):Prop:=∃ts:List Qh,H l=some (.lst (ts.map V.ref))/\QE (rO H0 H l) sts ts
theorem jy.at{H0 H:Hp}{l:Qh}{sts:List (Nat×Int×List Int)}(h:jy H0 H l sts):iV H l sts:=by
 obtain⟨ts,h1,h2⟩:=h
 exact⟨ts,h1,Paired.mapP h2 fun _ _ ⟨b,_,_,_,h3,h4⟩=>⟨b,h3,h4⟩⟩
theorem Dt{T:tS}{p:Nat->Int}{d d':List Nat}{k:Nat}{L:Int}(h:∀j,j∈d'↔j∈d)(n:Nx T p d k L):Nx T p d' k L:=
 ⟨n.lt,fun z=>n.new ((h k).mp z),n.pos,n.enough,fun j hj hn=>n.least j hj fun z=>hn ((h j).mpr z),fun j hj hn=>n.first j hj fun z=>hn ((h j).mpr z)⟩
theorem J0{rows:List (List Int)}{ps:List Int}{k:Nat}{L:Int}(h:∀p∈ps,0<=p):∀p∈jH rows ps k L,0<=p:=by
 intro p hp
 obtain⟨i,_,e⟩:=Qu.mp hp
 rw[<-e]
 exact E2 (KJ h i)
theorem CT{rows:List (List Int)}:∀{ps:List Int}{r:List (Nat×Int)},(∀p∈ps,0<=p)->∀p∈cT rows ps r,0<=p
 |_,[],h=>h
 |ps,(k,L)::r,h=>by
  rw[cT]
  exact CT (J0 h)
theorem HD{cs:List Int}{rows:List (List Int)}{ps:List Int}(g:Iw cs rows ps){s:List (Nat×Int)}(h:Run (bZ cs rows) (PF ps) [] s):iX (bZ cs rows) (PF ps) [] s:=by
 refine GG g.v20 (fun k _=>Oo cs rows k) h UK (fun k hk=>by simp at hk) fun i hi=>?_
 have hi':i<ps.length:=by rw[g.pl];exact hi
 have:PF ps i∈ps:=by unfold PF;simp[QN,hi']
 exact g.pd _ this
theorem pG{α β:Type}{F:α->β->Prop}:∀{xs:List α}{ts:List β},xs.length=ts.length->(∀(i:Nat)(x:α)(t:β),xs[i]?=some x->ts[i]?=some t->F x t)->QE F xs ts
 |[],[],_,_=>.nil
 |[],_::_,h,_=>by simp at h
 |_::_,[],h,_=>by simp at h
 |x::r,u::q,hl,h=>.cons (h 0 x u rfl rfl) (pG (by simpa using hl) fun i y w e e'=>h (i+1) y w (by simpa using e) (by simpa using e'))
theorem Bf{α:Type}{F:α->Qh->Prop}{T:Qh->Prop}{xs:List α}{ts:List Qh}(h:QE (fun i t=>T t/\∀x,xs[i]?=some x->F x t) (QM xs.length) ts):QE F xs ts:=by
 have hl:=QU h
 rw[Uz]at hl
 refine pG hl fun i x t hx ht=>?_
 obtain⟨j,hj,hF⟩:=lQ h ht
 have hi:i<xs.length:=(Q0.mp hx).1
 have e:j=i:=by
  rw[List.getElem?_range hi]at hj
  exact(Rk hj).symm
 subst e
 exact hF.2 x hx
def OR(H0 H:Hp)(l:Qh)(rows:List (List Int)):Prop:=∃bs:List Qh,H l=some (.lst (bs.map V.ref))/\QE (fun r b=>(H0 b=none/\b≠l)/\H b=some (.lst (r.map V.int))) rows bs
theorem NP{K:Qj}{H:Hp}{a:Qh}{rows:List (List Int)}{σ:St}{Q:VK}(h:iC K H a rows)(hz:rows.length<=1000)(hd:∀l H',H l=none->ar H H'->OR H H' l rows->Q (.ref l) H'):
  dP [none] (av 0) eA (eX (Bv K) (ae (af 0) au)) (Il K a) σ H Q:=by
 obtain⟨bs,hB,hP⟩:=h
 have hbl:bs.length=rows.length:=(QU hP).symm
 have hlm:(bs.map V.ref).length=bs.length:=Qw _
 refine gL (fh (xs:=bs.map V.ref) 0) (fun j=>[some ((bs.map V.ref).getD j .non)]) (by rintro j σ' (rfl|⟨k,rfl⟩)<;>rfl) (fun H' s=>s.seq hB) (by rw[hlm,hbl];exact Qt hz bL) (fun _=>true)
  (fun l i v H'=>∃b,v=.ref b/\(b≠l/\H b=none/\∀r,rows[i]?=some r->H' b=some (.lst (r.map V.int)))) (fun l i v H1 H2 s ⟨b,e,hl,h0,h⟩=>⟨b,e,hl,h0,fun r hr=>s _ _ hl (h r hr)⟩) (fun i hi H' G s k=>k H' (ar.refl _)) ?_ ?_
 ·intro l j hj _ H' G hl ⟨o,ho⟩ s k
  rw[hlm]at hj
  have e:(bs.map V.ref).getD j .non=.ref bs[j]:=by simp[QN,hj]
  rw[e]
  obtain⟨r,hr,hq⟩:=lQ hP (show bs[j]?=some bs[j] by simp[hj])
  have hq':=s.seq hq
  walk_at "v"
  rename_i b J g t h
  exact k _ _ ⟨b,rfl,(fun z=>by rw[z,ho]at g;cases g),s.free g,fun r' hr'=>by rw[hr]at hr';cases hr';exact h⟩ t
 ·intro l ys H' f s h pr
  rw[SI.mpr (fun _ _=>rfl)]at pr
  obtain⟨tk,rfl,pk⟩:=j0 (T:=fun b i=>b≠l/\H b=none/\∀r,rows[i]?=some r->H' b=some (.lst (r.map V.int))) pr
  refine hd l H' f s ⟨tk,h,?_⟩
  rw[hlm,hbl]at pk
  refine Bf (T:=fun b=>b≠l/\H b=none) (Paired.mapP pk fun i b q=>⟨⟨q.1,q.2.1⟩,fun r hr=>⟨⟨q.2.1,q.1⟩,q.2.2 r hr⟩⟩)
def bY(ps:List Int)(sts:List (Nat×Int×List Int)):List Int:=(QM ps.length).map fun i=>ps.getD i 0-(sts.map fun x=>x.2.2.getD i 0).sum
theorem DO{H:Hp}:∀{sts:List (Nat×Int×List Int)}{ts:List Qh},QE (Be H) sts ts->∃bs:List Qh,bs.length=sts.length/\∀(i:Nat)(x:Nat×Int×List Int),sts[i]?=some x->∃t b,ts[i]?=some t/\bs[i]?=some b/\H t=some (.tup [.int x.1,.int x.2.1,.ref b])/\H b=some (.lst (x.2.2.map V.int))
 |_,_,.nil=>⟨[],rfl,fun i x h=>by simp at h⟩
 |_,t::_,.cons ⟨b,h1,h2⟩ r=>by
  obtain⟨bs,e,h⟩:=DO r
  refine⟨b::bs,by simp[e],fun i x hx=>?_⟩
  cases i with
  |zero=>
   simp at hx
   subst hx
   exact⟨t,b,rfl,rfl,h1,h2⟩
  |succ i=>exact h i x (by simpa using hx)
structure xJ(H:Hp)(l:Qh)(sts:List (Nat×Int×List Int))(ts bs:List Qh):Prop where
 lst:H l=some (.lst (ts.map V.ref))
 tl:ts.length=sts.length
 bl:bs.length=sts.length
 ats:∀(i:Nat)(x:Nat×Int×List Int),sts[i]?=some x->∃t b,ts[i]?=some t/\bs[i]?=some b/\H t=some (.tup [.int x.1,.int x.2.1,.ref b])/\H b=some (.lst (x.2.2.map V.int))
theorem iV.b{H:Hp}{l:Qh}{sts:List (Nat×Int×List Int)}(h:iV H l sts):∃ts bs,xJ H l sts ts bs:=by
 obtain⟨ts,h1,h2⟩:=h
 obtain⟨bs,e,h3⟩:=DO h2
 exact⟨ts,bs,h1,(QU h2).symm,e,h3⟩
def stN:Nat×Int×List Int:=(0,0,[])
theorem xJ.ys{K:Qj}{H H':Hp}{l:Qh}{sts:List (Nat×Int×List Int)}{ts bs:List Qh}(B:xJ H l sts ts bs)(s:ar H H'):
  bo K H' l (ts.map V.ref)/\∀i t,ts[i]?=some t->iM K H' t [.int ((sts.getD i stN).1:Nat),.int (sts.getD i stN).2.1,.ref (bs.getD i 0)]:=by
 refine⟨bo.of (s _ _ B.lst),fun i t ht=>?_⟩
 have hi:i<sts.length:=by rw[<-B.tl];exact(Q0.mp ht).1
 obtain⟨t',b,a1,a2,a3,_⟩:=B.ats i sts[i] (by simp[hi])
 rw[ht]at a1
 cases a1
 have e1:sts.getD i stN=sts[i]:=by simp[QN,hi]
 have e2:bs.getD i 0=b:=by rw[QN,a2];rfl
 rw[e1,e2]
 exact iM.of (s _ _ a3)
theorem xJ.paid{K:Qj}{H H':Hp}{l:Qh}{sts:List (Nat×Int×List Int)}{ts bs:List Qh}(B:xJ H l sts ts bs)(s:ar H H'){i:Nat}(hi:i<sts.length):bo K H' (bs.getD i 0) ((sts.getD i stN).2.2.map V.int):=by
 obtain⟨t',b,a1,a2,_,a4⟩:=B.ats i sts[i] (by simp[hi])
 have e1:sts.getD i stN=sts[i]:=by simp[QN,hi]
 have e2:bs.getD i 0=b:=by rw[QN,a2];rfl
 rw[e1,e2]
 exact bo.of (s _ _ a4)
theorem Kr:iA [] none:=fun o h=>by simp at h
theorem GI{os:List (Option Int)}{k:Option Nat}(h:iA os k):iA (os++[none]) k:=by
 cases k with
 |none=>
  intro o ho
  rcases Q7.mp ho with h1|h1
  ·exact h o h1
  ·simpa using h1
 |some k=>
  obtain⟨L,h1,h2⟩:=h
  have hk:=(Q0.mp h1).1
  refine⟨L,by rw[S6 hk];exact h1,fun j M hj=>?_⟩
  by_cases hjl:j<os.length
  ·rw[S6 hjl]at hj
   exact h2 j M hj
  ·rw[TV (by omega)]at hj
   cases e:j-os.length with
   |zero=>rw[e]at hj;simp at hj
   |succ n=>rw[e]at hj;simp at hj
theorem EZ{os:List (Option Int)}{M:Int}(h:iA os none):iA (os++[some M]) (some os.length):=by
 refine⟨M,⋯,fun j N hj=>?_⟩
 by_cases hjl:j<os.length
 ·rw[S6 hjl]at hj
  have:=h _ (SH hj)
  cases this
 ·rw[TV (by omega)]at hj
  cases e:j-os.length with
  |zero=>
   rw[e]at hj
   have:M=N:=by simpa using hj
   subst this
   exact⟨Sk _,fun z=>by omega⟩
  |succ n=>rw[e]at hj;simp at hj
theorem GH{os:List (Option Int)}{k:Nat}{L M:Int}(h:iA os (some k))(hk:os[k]?=some (some L))(hM:M<L):iA (os++[some M]) (some os.length):=by
 obtain⟨L',h1,h2⟩:=h
 rw[hk]at h1
 cases h1
 refine⟨M,⋯,fun j N hj=>?_⟩
 by_cases hjl:j<os.length
 ·rw[S6 hjl]at hj
  have:=(h2 j N hj).1
  exact⟨by omega,fun _=>by omega⟩
 ·rw[TV (by omega)]at hj
  cases e:j-os.length with
  |zero=>
   rw[e]at hj
   have:M=N:=by simpa using hj
   subst this
   exact⟨Sk _,fun z=>by omega⟩
  |succ n=>rw[e]at hj;simp at hj
theorem G5{os:List (Option Int)}{k:Nat}{L M:Int}(h:iA os (some k))(hk:os[k]?=some (some L))(hM:¬M<L):iA (os++[some M]) (some k):=by
 have hkl:=(Q0.mp hk).1
 obtain⟨L',h1,h2⟩:=h
 rw[hk]at h1
 cases h1
 refine⟨L,by rw[S6 hkl];exact hk,fun j N hj=>?_⟩
 by_cases hjl:j<os.length
 ·rw[S6 hjl]at hj
  exact h2 j N hj
 ·rw[TV (by omega)]at hj
  cases e:j-os.length with
  |zero=>
   rw[e]at hj
   have:M=N:=by simpa using hj
   subst this
   exact⟨by omega,fun z=>by omega⟩
  |succ n=>rw[e]at hj;simp at hj
def dI(rows:List (List Int))(k:Nat):List Nat:=(QM rows.length).filter fun i=>WR rows i k
theorem wy(rows:List (List Int))(k:Nat):mx rows [(k:Int)]=(dI rows k).map fun i:Nat=>(i:Int):=by
 unfold mx dI WR
 congr 2
 funext i
 simp
theorem xm{rows:List (List Int)}{k i:Nat}:((i:Int)∈mx rows [(k:Int)])↔WR rows i k=true:=by
 rw[wy,nU]
 unfold dI
 rw[Rb]
 constructor
 ·exact fun h=>h.2
 ·intro h
  refine⟨Ss.mpr ?_,h⟩
  rcases Xq i rows.length with c|c
  ·exact c
  ·rw[KD c]at h
   cases h
theorem CY(rows:List (List Int))(ps:List Int)(k:Nat):((dI rows k).map (PF ps)).sum=Ij rows.length (WR rows) (PF ps) k:=by
 unfold dI
 rw[sum_filter]
 rfl
theorem JM(rows:List (List Int))(ps:List Int)(k:Nat)(L:Int):Cn ((dI rows k).map (PF ps)) L=u7 rows.length (WR rows) (PF ps) k L:=by
 unfold Cn dI
 rw[QR,sum_filter]
 rfl
theorem GY(rows:List (List Int))(k:Nat):(dI rows k).length<=rows.length:=by
 unfold dI
 have:=RU (fun i=>WR rows i k) (QM rows.length)
 rwa [Uz]at this
theorem J5{rows:List (List Int)}{k i:Nat}(h:i∈dI rows k):i<rows.length:=Ss.mp (Rb.mp h).1
theorem zu(rows:List (List Int)):∀(r:List (Nat×Int))(ps:List Int)(i:Nat),i<ps.length->(cT rows ps r).getD i 0=ps.getD i 0-((aX rows ps r).map fun x=>x.2.2.getD i 0).sum
 |[],ps,i,_=>by simp[cT,aX]
 |(k,L)::r,ps,i,hi=>by
  rw[cT,zu rows r (jH rows ps k L) i (by rw[i5];exact hi),aX,QW,Ry]
  have e1:(jH rows ps k L).getD i 0=ps.getD i 0-B7 (WR rows) (PF ps) k L i:=by
   unfold jH
   simp[QN,hi,EO,PF]
  have e2:(nD rows ps k L).getD i 0=B7 (WR rows) (PF ps) k L i:=by
   unfold nD
   simp[QN,hi]
  rw[e1,e2]
  omega
theorem iP(rows:List (List Int))(ps:List Int)(r:List (Nat×Int)):bY ps (aX rows ps r)=cT rows ps r:=by
 apply Tv
 ·unfold bY
  rw[Qw,Uz,oY]
 ·intro i h1 h2
  have hi:i<ps.length:=by rw[oY]at h2;exact h2
  have:=zu rows r ps i hi
  have e:(cT rows ps r).getD i 0=(cT rows ps r)[i]:=by simp[QN,h2]
  rw[e]at this
  rw[this]
  unfold bY
  simp
theorem vJ(rows:List (List Int))(ps:List Int)(r:List (Nat×Int)):(aX rows ps r).map (·.1)=r.map (·.1):=by
 have:=congrArg (RO (·.1)) (rP rows ps r)
 rw[QR]at this
 exact this
structure Pre(cs:List Int)(rows:List (List Int))(ps:List Int)(r:List (Nat×Int)):Prop where
 nd:(r.map (·.1)).Nodup
 lt:∀x∈r,x.1<cs.length
 on:∀rest,Run (bZ cs rows) (PF (cT rows ps r)) (r.map (·.1)).reverse rest->Run (bZ cs rows) (PF ps) [] (r++rest)
theorem FQ(cs:List Int)(rows:List (List Int))(ps:List Int):Pre cs rows ps []:=⟨UK,fun _ h=>by simp at h,fun _ h=>h⟩
theorem Pre.len{cs:List Int}{rows:List (List Int)}{ps:List Int}{r:List (Nat×Int)}(h:Pre cs rows ps r):r.length<=cs.length:=by
 have:=iZ cs.length _ h.nd fun x hx=>by
  obtain⟨y,hy,e⟩:=Qu.mp hx
  rw[<-e]
  exact h.lt y hy
 rwa [Qw]at this
theorem Pre.snoc{cs:List Int}{rows:List (List Int)}{ps:List Int}{r:List (Nat×Int)}{k:Nat}{L:Int}(h:Pre cs rows ps r)(hl:ps.length=rows.length)(n:Nx (bZ cs rows) (PF (cT rows ps r)) (r.map (·.1)) k L):Pre cs rows ps (r++[(k,L)]):=by
 exists ?_,?_
 ·rw[R4]
  refine XA.mpr ⟨h.nd,⋯,?_⟩
  intro a ha b hb e
  have:b=k:=by simpa using hb
  subst this
  subst e
  exact n.new ha
 ·intro x hx
  rcases Q7.mp hx with z|z
  ·exact h.lt x z
  ·have:x=(k,L):=by simpa using z
   subst this
   exact n.lt
 ·intro rest hr
  rw[xU,jh (by rw[oY];exact hl),R4,List.reverse_append]at hr
  have hr:Run (bZ cs rows) (EO (WR rows) (PF (cT rows ps r)) k L) (k::(r.map (·.1)).reverse) rest:=hr
  have:=h.on ((k,L)::rest) (.step (Dt (fun j=>by simp) n) hr)
  rwa [YT]
theorem Pre.stop{cs:List Int}{rows:List (List Int)}{ps:List Int}{r:List (Nat×Int)}(h:Pre cs rows ps r)(n:∀k,k<cs.length->k∉r.map (·.1)->Ij rows.length (WR rows) (PF (cT rows ps r)) k<(bZ cs rows).c k):Run (bZ cs rows) (PF ps) [] r:=by
 have:=h.on [] (.stop fun k hk hn=>n k hk fun z=>hn (by simpa using z))
 rwa [UL]at this
theorem EJ{ps:List Int}{i:Nat}(h:i<ps.length):(ps.map V.int)[i]?=some (V.int (PF ps i)):=by
 unfold PF
 simp[QN,h]
theorem BQ{H0 H:Hp}{ls:Qh}{o:HO}{xs:List V}{sts:List (Nat×Int×List Int)}{ts:List Qh}(h:QE (rO H0 H ls) sts ts)(hl:H ls=some (.lst xs)):QE (rO H0 (upd H ls o) ls) sts ts:=by
 refine Paired.mapP h fun x t ⟨b,z1,z2,z3,z4,z5⟩=>⟨b,z1,z2,z3,?_,?_⟩
 ·rw[ax fun e=>by rw[e,hl]at z4;cases z4]
  exact z4
 ·rw[ax z3]
  exact z5
def kU(c:Nat):Bool:=decide (48<=c)&&decide (c<=57)
def HU(cs:List Nat):Bool:=if cs.head?=some 48 then decide (cs=[48])else(decide (1<=cs.length)&&decide (cs.length<=13))&&cs.all kU
def iJ(z:Qg):Bool:=HU z.cps.toList
def aT(z:Qg):Prop:=z.cps.all (· < 128)=true
theorem J6{cs:List Nat}(h:HU cs=true):Wa cs/\cs≠[]/\cs.length<=13/\(cs.length=1\/∃c r,cs=c::r/\49<=c):=by
 unfold HU at h
 split at h
 ·have e:=of_decide_eq_true h
  subst e
  exact⟨fun c hc=>by simp at hc;omega,⋯,by decide,.inl rfl⟩
 ·rename_i hh
  simp only[Rj,decide_eq_true_eq,RL]at h
  obtain⟨⟨h1,h2⟩,h3⟩:=h
  have hd:Wa cs:=fun c hc=>by
   have:=h3 c hc
   simpa[kU]using this
  cases cs with
  |nil=>simp at h1
  |cons c r=>
   refine⟨hd,⋯,h2,.inr ⟨c,r,rfl,?_⟩⟩
   have:=hd.head
   have hc:c≠48:=fun z=>hh (by rw[z];rfl)
   omega
theorem Jd:∀(cs:List Nat)(a:Nat),Wa cs->cs.foldl (fun acc c=>acc*10+(c-48)) a<(a+1)*10 ^ cs.length
 |[],a,_=>by simp
 |c::cs,a,h=>by
  have h1:=h.head
  have h2:=Jd cs (a*10+(c-48)) h.tail
  have h3:(a*10+(c-48)+1)*10 ^ cs.length<=(a+1)*10 ^ (c::cs).length:=by
   rw[Rn,Wl,Nat.mul_comm (10 ^ cs.length) 10,<-Nat.mul_assoc]
   exact RY _ (by omega)
  exact Q4 h2 h3
theorem rf{z:Qg}(h:iJ z=true):∃n:Int,0<=n/\n.natAbs.log2<1920/\Wb z=some n/\((toString n:String):Qg)=z/\z.length<=13:=by
 obtain⟨h1,h2,h3,h4⟩:=J6 h
 have hl:z.cps.toList.length=z.length:=by simp[UZ]
 refine⟨(Ts z.cps.toList:Nat),by omega,?_,PySem.intText_digits h1 h2 (by omega),?_,by omega⟩
 ·have hb:Ts z.cps.toList<10 ^ 13:=by
   have:=Jd z.cps.toList 0 h1
   have hp:10 ^ z.cps.toList.length<=10 ^ 13:=YM (by decide) h3
   unfold Ts
   omega
  rw[Xe]
  have:(Ts z.cps.toList).log2<=60:=by
   by_cases e:Ts z.cps.toList=0
   ·rw[e];decide
   ·exact SA ((Wu e).mpr (Q4 hb (by decide)))
  omega
 ·have e:=ZQ (z.cps.toList.length-1) z.cps.toList (by have:=UB.mpr h2;omega) h1 (by rcases h4 with h4|h4;exact .inl (by omega);exact .inr h4)
  have e2:=XN (Ts z.cps.toList)
  refine Yu ?_
  apply Ya
  rw[show(((toString ((Ts z.cps.toList:Nat):Int):String):Qg)).cps.toList=_ from e2,e,QR]
  have:∀c∈z.cps.toList,(Uc ∘ V7) c=c:=fun c hc=>by
   have:=h1 c hc
   have hv:c.isValidChar:=.inl (by omega)
   show(V7 c).toNat=c
   rw[V7,dif_pos hv]
   rfl
  rw[Tc this,Vy]
def fM:List (List Nat)->List Nat
 |[]=>[]
 |[p]=>p
 |p::q::r=>p++32::fM (q::r)
theorem Dm:(" ":Qg)=⟨#[32]⟩:=nofun
theorem An:("0":Qg)=⟨#[48]⟩:=nofun
theorem LI:("":Qg)=⟨#[]⟩:=nofun
theorem eD{a b:Qg}:a=b↔a.cps.toList=b.cps.toList:=⟨fun h=>by rw[h],fun h=>Yu (Ya h)⟩
theorem bE(z:Qg):z.cps.toList.length=z.length:=by simp[UZ]
theorem IL(x y:Qg):Q9 x y≠[]:=by
 unfold Q9
 split
 ·simp
 ·split
  ·simp
  ·intro h
   have:=congrArg U9 h
   rw[PySem.length_partsBetween]at this
   simp at this
theorem kP:∀ps:List Qg,(Q3 ⟨#[32]⟩ ps).cps.toList=fM (ps.map (·.cps.toList))
 |[]=>rfl
 |[x]=>rfl
 |x::y::r=>by
  have ih:=kP (y::r)
  show((x++(⟨#[32]⟩:Qg)++Q3 ⟨#[32]⟩ (y::r)).cps).toList=x.cps.toList++32::fM ((y::r).map (·.cps.toList))
  rw[UN,UN,<-ih]
  simp
theorem zw:∀ps:List (List Nat),ps.length<=(fM ps).length+1
 |[]=>by simp
 |[p]=>by simp
 |p::q::r=>by
  have:=zw (q::r)
  simp only[fM,Rz,Rn]at *
  omega
theorem split_len(z:Qg):(Q9 z " ").length<=z.length+1:=by
 rw[Dm]
 have h:=zw ((Q9 z ⟨#[32]⟩).map (·.cps.toList))
 rw[<-kP,Vx,Qw,bE]at h
 exact h
theorem repr_fits{z:Qg}(ha:aT z)(hz:z.length<=100000):(UI z).length<=1000002:=by
 have:=Zm z (fun c hc=>by
  have:=Array.all_eq_true'.mp ha c (by simpa using hc)
  have:=of_decide_eq_true this
  exact Vl this (by decide))
 omega
theorem KS{a:Qg}{xs:List Qg}:L2.NV (.str a) (xs.map V.str)=decide (a∈xs):=by
 unfold L2.NV
 rw[XR,RF,Wv,decide_eq_true_eq]
 constructor
 ·rintro⟨y,hy,e⟩
  have e:(y==a)=true:=e
  rw[<-eq_of_beq e]
  exact hy
 ·intro h
  exact⟨a,h,by show(a==a)=true;simp⟩
theorem Ia(xs:List Qg):(xs.map V.str).all L2.pO=true:=by
 rw[Ul,RL]
 intro x _
 rfl
theorem IA(z:Qg):(decide (0+("0":Qg).length<=z.length)&&ZI z "0" 0)=decide (z.cps.toList.head?=some 48):=by
 rw[An,RF,Rj,decide_eq_true_eq,decide_eq_true_eq,aaW z 48 0]
 cases z.cps.toList<;>simp
theorem LU(c:Nat):(!(UQ ("0123456789":Qg) ⟨#[c]⟩ 0 ("0123456789":Qg).length 1).isEmpty)=kU c:=by
 rw[XQ,show("0123456789":Qg).cps.toList=Xo 48 10 by decide +kernel,RF]
 simp only[kU,decide_eq_true_eq,Rj,Y3]
 omega
section
variable {H:Hp}{Q:VK}{z a b:Qg}
theorem size_eq:Qr=16777216:=by decide
theorem dg(h:a.length+b.length<=16777216)(q:Q (.str (a++b)) H):cL (.str a) (.str b) H Q:=⟨a,b,rfl,rfl,by rw[size_eq];exact h,q⟩
theorem Mq(h:z.length<=16777216)(q:Q (.int z.length) H):vU [.str z] H Q:=⟨z,rfl,by rw[size_eq];exact h,q⟩
theorem OT(q:Q (.bl (!(UQ b a 0 b.length 1).isEmpty)) H):Jt (.str a) (.str b) H Q:=⟨a,b,rfl,rfl,q⟩
theorem Oz{lo hi:Option Int}(h:z.length<=16777216)(q:Q (.str (Ra z lo hi)) H):yX (.str z) lo hi H Q:=⟨z,rfl,by rw[size_eq];exact h,q⟩
theorem Ow(q:Q (.bl (decide (a=b))) H):gY (.str a) (.str b) H Q:=⟨rfl,by
 have e:decide (V.str a=V.str b)=decide (a=b):=by rw[RF];simp
 rw[e];exact q⟩
theorem OX(q:Q (.bl (!decide (a=b))) H):Ma (.str a) (.str b) H Q:=⟨rfl,by
 have e:decide (V.str a=V.str b)=decide (a=b):=by rw[RF];simp
 rw[e];exact q⟩
theorem LJ{tl:TE}{σ:St}{R:It->Hp->Prop}(h:tl σ H fun v H1=>∃x:Qg,v=.str x/\x.cps.all (· < 128)=true/\R (Pg x) H1):FL tl σ H R:=h
theorem Ip(q:Q (.bl (decide (z.cps.toList.head?=some 48))) H):vz (.str z) [.str "0"] H Q:=⟨z,"0",rfl,rfl,by rw[IA];exact q⟩
theorem iq{i:Int}(h:i.natAbs.log2<1920)(q:Q (.str (toString i:String)) H):iH [.int i] H Q:=⟨i,rfl,h,q⟩
end
local macro_rules | `(tactic| walk_at "early") => `(tactic| first
 |((with_reducible show LK _ "str" (V.str _) _/\_);refine⟨rfl,?_⟩)
 |((with_reducible show vU _ _ _);refine Mq (by omega) ?_)
 |((with_reducible show cL _ _ _ _);refine dg (by omega) ?_)
 |((with_reducible show Jt _ _ _ _);refine OT ?_)
 |((with_reducible show yX _ _ _ _ _);refine Oz (by omega) ?_)
 |with_reducible refine LJ ?_
 |((with_reducible show vz _ _ _ _);refine Ip ?_)
 |((with_reducible show gY (V.str _) (V.str _) _ _);refine Ow ?_)
 |((with_reducible show Ma (V.str _) (V.str _) _ _);refine OX ?_))
theorem dG{z:Qg}:aT z↔∀c∈z.cps.toList,c<128:=by
 unfold aT
 rw[<-WK,RL]
 exact⟨fun h c hc=>of_decide_eq_true (h c hc),fun h c hc=>decide_eq_true (h c hc)⟩
theorem c6(a b:Qg):(a++b).cps.toList=a.cps.toList++b.cps.toList:=by rw[UN];simp
theorem bg{a b:Qg}(ha:aT a)(hb:aT b):aT (a++b):=by
 rw[dG,c6]
 intro c hc
 rcases Q7.mp hc with h|h
 ·exact dG.mp ha c h
 ·exact dG.mp hb c h
theorem fw{sep:Qg}(hs:aT sep):∀{xs:List Qg},(∀x∈xs,aT x)->aT (Q3 sep xs)
 |[],_=>by rw[dG];intro c hc;cases hc
 |[x],h=>h x ⋯
 |x::y::r,h=>bg (bg (h x ⋯) hs) (fw hs fun z hz=>h z (Q2 _ hz))
theorem Dj(sep:Qg)(m:Nat):∀(xs:List Qg)(a:Nat),(∀x∈xs,x.length<=m)->xs.foldl (fun n x=>n+x.length+sep.length) a<=a+xs.length*(m+sep.length)
 |[],a,_=>by simp
 |x::xs,a,h=>by
  have h1:=h x ⋯
  have ih:=Dj sep m xs (a+x.length+sep.length) fun y hy=>h y (Q2 _ hy)
  have e:(x::xs).length*(m+sep.length)=xs.length*(m+sep.length)+(m+sep.length):=by rw[Rn,W8,XF]
  rw[e]
  simp only[List.foldl_cons]
  omega
theorem gy{sep:Qg}{m:Nat}:∀{xs:List Qg},(∀x∈xs,x.length<=m)->(Q3 sep xs).length<=xs.length*(m+sep.length)
 |[],_=>by show(QO:Qg).length<=_;exact Rm _
 |[x],h=>by
  have:=h x ⋯
  show x.length<=1*_
  omega
 |x::y::r,h=>by
  have h1:=h x ⋯
  have ih:=gy (sep:=sep) (xs:=y::r) fun z hz=>h z (Q2 _ hz)
  show(x++sep++Q3 sep (y::r)).length<=_
  rw[QQ,QQ,show(x::y::r).length=(y::r).length+1 from rfl,W8,XF]
  omega
theorem ky{K:Qj}{H:Hp}{Q:VK}{sep:Qg}{p:Qh}{xs:List Qg}(m:Nat)(hS:bo K H p (xs.map V.str))(hx:∀x∈xs,x.length<=m)(hb:xs.length*(m+sep.length)<=16777216)(q:Q (.str (Q3 sep xs)) H):rJoin K (.str sep) [.ref p] H Q:=by
 have e:=aaj sep xs
 exists sep,p,xs,rfl,rfl,hS,?_,?_
 ·have h:=Dj sep m xs 0 hx
  refine decide_eq_false ?_
  rw[size_eq]
  simp only[List.foldl_toArray',Rr]
  omega
 ·rw[e,size_eq]
  exact Qt (gy hx) hb
 ·rw[e]
  exact q
theorem A0(c:Nat):(⟨#[c]⟩:Qg).length=1:=rfl
theorem FK{l:List Nat}{w:Int}(h0:0<=w)(h1:w.toNat<l.length):BF l w=some (l.getD w.toNat 0):=by
 have h:l[w.toNat]?=some (l.getD w.toNat 0):=by rw[QZ,Qz h1];rfl
 have:=bI h
 rw[UO h0]at this
 exact this
theorem vG:∀{ps:List (List Nat)}{p:List Nat},p∈ps->p.length<=(fM ps).length
 |[],_,h=>nomatch h
 |[p],q,h=>by
  have:q=p:=by simpa using h
  subst this
  exact QC _
 |p::q::r,x,h=>by
  rcases QI.mp h with rfl|h
  ·simp only[fM,Rz];omega
  ·have:=vG h
   simp only[fM,Rz,Rn]
   omega
theorem Kn{z p:Qg}(h:p∈Q9 z " "):p.length<=z.length:=by
 have e:=Vx z ⟨#[32]⟩
 rw[Dm]at h
 have:=vG (YR (f:=fun x:Qg=>x.cps.toList) h)
 rw[<-kP,e,bE,bE]at this
 exact this
theorem r9{K:Qj}{H:Hp}:∀xs:List Qg,DatAll K H (xs.map V.str) (xs.map SQ)
 |[]=>.nil
 |x::xs=>.cons (.str x) (r9 xs)
theorem Ah:∀{ps:List (List Nat)}{p:List Nat}{c:Nat},p∈ps->c∈p->c∈fM ps
 |[],_,_,h,_=>nomatch h
 |[p],q,c,h,hc=>by
  have:q=p:=by simpa using h
  subst this
  exact hc
 |p::q::r,x,c,h,hc=>by
  rcases QI.mp h with rfl|h
  ·simp only[fM,Q7];exact .inl hc
  ·have:=Ah h hc
   simp only[fM,Q7,QI]
   exact .inr (.inr this)
theorem EG{z p:Qg}(ha:aT z)(h:p∈Q9 z " "):aT p:=by
 have e:=Vx z ⟨#[32]⟩
 rw[Dm]at h
 rw[dG]
 intro c hc
 have:=Ah (YR (f:=fun x:Qg=>x.cps.toList) h) hc
 rw[<-kP,e]at this
 exact dG.mp ha c this
theorem jT{x:Qg}(h:aT x):VI x=true:=by
 unfold VI
 rw[<-WK,RL]
 intro c hc
 have:=dG.mp h c hc
 exact decide_eq_true (by omega)
theorem Au(xs:List Qg)(h:∀x∈xs,aT x):eY 1 (.list (xs.map SQ)):=so fun d hd=>by
 obtain⟨x,hx,rfl⟩:=Qu.mp hd
 exact⟨by simp only[nice];exact jT (h x hx),by simp[SJ]⟩
theorem LL(h:Option Int)(n:Nat):T7 none h 1 n=T7 (some ((0:Nat):Int)) h 1 n:=by
 have e:max (0:Int) (min 0 (n:Int))=0:=by omega
 simp[T7,e]
def bS(l:List Qh)(H H':Hp):Prop:=(∀a o,a∉l->H a=some o->H' a=some o)/\(∀a xs,H a=some (.tup xs)->H' a=some (.tup xs))/\∀a,H' a=none->H a=none
section
variable {H H1 H2:Hp}{l l':List Qh}
theorem bS.of(s:ar H H1):bS l H H1:=⟨fun a o _ h=>s a o h,fun a xs h=>s a _ h,fun _ h=>s.free h⟩
theorem bS.trans(a:bS l H H1)(b:bS l H1 H2):bS l H H2:=⟨fun c o n h=>b.1 c o n (a.1 c o n h),fun c xs h=>b.2.1 c xs (a.2.1 c xs h),fun c h=>a.2.2 c (b.2.2 c h)⟩
theorem bS.mono(a:bS l H H1)(h:∀c∈l,c∈l'):bS l' H H1:=⟨fun c o n q=>a.1 c o (fun z=>n (h c z)) q,a.2.1,a.2.2⟩
theorem bS.upd{a:Qh}{o o':HO}(h:H a=some o)(ht:∀xs,o≠.tup xs)(m:a∈l):bS l H (L2.upd H a o'):=by
 refine⟨fun c u n q=>?_,fun c xs q=>?_,fun c q=>?_⟩
 ·rw[ax (fun z=>n (by rw[z];exact m))];exact q
 ·rw[ax (fun z=>by rw[z,h]at q;exact ht xs (Rk q))];exact q
 ·by_cases z:c=a
  ·rw[z,ay]at q;cases q
  ·rw[ax z]at q;exact q
def fL(l l':List Qh)(H:Hp):Prop:=∀a∈l',a∈l\/H a=none
theorem fL.refl:fL l l H:=fun _ h=>.inl h
theorem fL.trans{l'':List Qh}(a:fL l l' H)(b:fL l' l'' H1)(bt:bS l' H H1):fL l l'' H:=fun c h=>by
 rcases b c h with z|z
 ·exact a c z
 ·exact .inr (bt.2.2 c z)
end
def Pj(H:Hp)(p:Qg×Int)(t:Qh):Prop:=H t=some (.tup [.str p.1,.int p.2])
def B6(H:Hp)(p:Qg×Qg)(t:Qh):Prop:=H t=some (.tup [.str p.1,.str p.2])
def ij(H:Hp)(l:Qh)(rows:List (Qg×Int)):Prop:=∃ts:List Qh,H l=some (.lst (ts.map V.ref))/\QE (Pj H) rows ts
theorem ij.but{H H':Hp}{fp:List Qh}{l:Qh}{rows:List (Qg×Int)}(b:bS fp H H')(h:ij H l rows)(n:l∉fp):ij H' l rows:=by
 obtain⟨ts,h1,h2⟩:=h
 exact⟨ts,b.1 _ _ n h1,Paired.mapP h2 fun _ _ q=>b.2.1 _ _ q⟩
theorem ij.same{H H':Hp}{l:Qh}{rows:List (Qg×Int)}(h:ij H l rows)(s:ar H H'):ij H' l rows:=h.but (l:=l) (bS.of (l:=[]) s) ⋯
def eV(ps:List (Qg×Int)):List (Key×V):=ps.map fun p=>(.inr p.1,.int p.2)
theorem dh(ps:List (Qg×Int)):(eV ps).length=ps.length:=by simp[eV]
theorem j3{ps:List (Qg×Int)}{i:Nat}{p:Qg×Int}(h:ps[i]?=some p):(eV ps)[i]?=some (.inr p.1,.int p.2):=by simp[eV,h]
theorem oZ:∀{ps:List (Qg×Int)}{n:Qg},n∉ps.map (·.1)->iu (eV ps) (.inr n)=none
 |[],_,_=>rfl
 |p::r,n,h=>by
  have h1:¬p.1=n:=fun z=>h (by rw[<-z];simp)
  show iu ((.inr p.1,.int p.2)::eV r) (.inr n)=none
  rw[oC (by simpa using h1)]
  exact oZ fun z=>h (by rw[QW];exact Q2 _ z)
theorem ox:∀{ps:List (Qg×Int)}{n:Qg}{x:Int},(ps.map (·.1)).Nodup->(n,x)∈ps->iu (eV ps) (.inr n)=some (.int x)
 |p::r,n,x,nd,h=>by
  have nd:(p.1::r.map (·.1)).Nodup:=nd
  obtain⟨n1,n2⟩:=Sb.mp nd
  show iu ((.inr p.1,.int p.2)::eV r) (.inr n)=_
  rcases QI.mp h with z|z
  ·subst z
   exact rC rfl
  ·have h1:¬p.1=n:=fun e=>n1 (by rw[e];exact Qu.mpr ⟨_,z,rfl⟩)
   rw[oC (by simpa using h1)]
   exact ox n2 z
theorem F5{ps:List (Qg×Int)}{n:Qg}{x:Int}(h:n∉ps.map (·.1)):putK (eV ps) (.inr n) (.int x)=eV (ps++[(n,x)]):=by
 rw[Kf _ (oZ h)]
 simp[eV]
theorem CS(ps:List (Qg×Int))(n:Qg):rh (eV ps) (.inr n)=eV (ps.filter fun p=>decide (p.1≠n)):=by
 unfold rh eV
 rw[U1]
 congr 1
 refine VN fun p _=>?_
 show decide ((R7 p.1:Key)≠.inr n)=_
 congr 1
 simp
structure aL where
 ps:List (Qg×Int)
 cs:List (Qg×Int)
 ws:List (Qg×Qg)
 pot:Int
 giv:Int
 spt:Int
def iz(d1 d2 w:Qh)(a b c:Int):List (Qg×V):=[("purses",.ref d1),("costs",.ref d2),("wishes",.ref w),("unshared",.int a),("gifts",.int b),("outlay",.int c)]
structure vh(K:Qj)(H:Hp)(c dx d1 d2 w:Qh)(wt:List Qh)(s:aL):Prop where
 at_:H c=some (.ins (aq K "Chest") dx (iz d1 d2 w s.pot s.giv s.spt))
 p1:H d1=some (.dK (eV s.ps))
 p2:H d2=some (.dK (eV s.cs))
 w_:H w=some (.lst (wt.map V.ref))
 wt:QE (B6 H) s.ws wt
 ne:d1≠d2
 nd:(s.ps.map (·.1)).Nodup
 nd2:(s.cs.map (·.1)).Nodup
def aF(K:Qj)(H:Hp)(c:Qh)(fp:List Qh)(s:aL):Prop:=∃dx d1 d2 w wt,vh K H c dx d1 d2 w wt s/\fp=[c,d1,d2,w]
theorem hW:("costs":Qg)≠"purses"/\("wishes":Qg)≠"purses"/\("unshared":Qg)≠"purses"/\("gifts":Qg)≠"purses"/\("outlay":Qg)≠"purses"/\
  ("wishes":Qg)≠"costs"/\("unshared":Qg)≠"costs"/\("gifts":Qg)≠"costs"/\("outlay":Qg)≠"costs"/\
  ("unshared":Qg)≠"wishes"/\("gifts":Qg)≠"wishes"/\("outlay":Qg)≠"wishes"/\("gifts":Qg)≠"unshared"/\("outlay":Qg)≠"unshared"/\("outlay":Qg)≠"gifts":=nofun
section
variable {d1 d2 w e:Qh}{a b c x:Int}
theorem cv:(iz d1 d2 w a b c).lookup ("purses":Qg)=some (V.ref d1):=by simp[iz,RI]
theorem dU:(iz d1 d2 w a b c).lookup ("costs":Qg)=some (V.ref d2):=by
 have h:=hW
 simp[iz,RI,beq_eq_false_iff_ne.mpr h.1]
theorem gX:(iz d1 d2 w a b c).lookup ("wishes":Qg)=some (V.ref w):=by
 obtain⟨h1,h2,h3,h4,h5,h6,h7,h8,h9,h10,h11,h12,h13,h14,h15⟩:=hW
 simp[iz,RI,beq_eq_false_iff_ne.mpr h2,beq_eq_false_iff_ne.mpr h6]
theorem fF:(iz d1 d2 w a b c).lookup ("unshared":Qg)=some (V.int a):=by
 obtain⟨h1,h2,h3,h4,h5,h6,h7,h8,h9,h10,h11,h12,h13,h14,h15⟩:=hW
 simp[iz,RI,beq_eq_false_iff_ne.mpr h3,beq_eq_false_iff_ne.mpr h7,beq_eq_false_iff_ne.mpr h10]
theorem CZ:(iz d1 d2 w a b c).lookup ("gifts":Qg)=some (V.int b):=by
 obtain⟨h1,h2,h3,h4,h5,h6,h7,h8,h9,h10,h11,h12,h13,h14,h15⟩:=hW
 simp[iz,RI,beq_eq_false_iff_ne.mpr h4,beq_eq_false_iff_ne.mpr h8,beq_eq_false_iff_ne.mpr h11,beq_eq_false_iff_ne.mpr h13]
theorem zP:(iz d1 d2 w a b c).lookup ("outlay":Qg)=some (V.int c):=by
 obtain⟨h1,h2,h3,h4,h5,h6,h7,h8,h9,h10,h11,h12,h13,h14,h15⟩:=hW
 simp[iz,RI,beq_eq_false_iff_ne.mpr h5,beq_eq_false_iff_ne.mpr h9,beq_eq_false_iff_ne.mpr h12,beq_eq_false_iff_ne.mpr h14,beq_eq_false_iff_ne.mpr h15]
theorem zH:cE "purses" (.ref e) (iz d1 d2 w a b c)=iz e d2 w a b c:=by simp[iz,cE]
theorem tF:cE "wishes" (.ref e) (iz d1 d2 w a b c)=iz d1 d2 e a b c:=by
 obtain⟨h1,h2,h3,h4,h5,h6,h7,h8,h9,h10,h11,h12,h13,h14,h15⟩:=hW
 simp[iz,cE,h2.symm,h6.symm]
theorem jW:cE "unshared" (.int x) (iz d1 d2 w a b c)=iz d1 d2 w x b c:=by
 obtain⟨h1,h2,h3,h4,h5,h6,h7,h8,h9,h10,h11,h12,h13,h14,h15⟩:=hW
 simp[iz,cE,h3.symm,h7.symm,h10.symm]
theorem Js:cE "gifts" (.int x) (iz d1 d2 w a b c)=iz d1 d2 w a x c:=by
 obtain⟨h1,h2,h3,h4,h5,h6,h7,h8,h9,h10,h11,h12,h13,h14,h15⟩:=hW
 simp[iz,cE,h4.symm,h8.symm,h11.symm,h13.symm]
theorem Gr:cE "outlay" (.int x) (iz d1 d2 w a b c)=iz d1 d2 w a b x:=by
 obtain⟨h1,h2,h3,h4,h5,h6,h7,h8,h9,h10,h11,h12,h13,h14,h15⟩:=hW
 simp[iz,cE,h5.symm,h9.symm,h12.symm,h14.symm,h15.symm]
theorem LS:cE "outlay" (.int c) (cE "gifts" (.int b) (cE "unshared" (.int a) (cE "wishes" (.ref w) (cE "costs" (.ref d2) (cE "purses" (.ref d1) [])))))=iz d1 d2 w a b c:=by
 obtain⟨h1,h2,h3,h4,h5,h6,h7,h8,h9,h10,h11,h12,h13,h14,h15⟩:=hW
 simp[iz,cE,h1.symm,h2.symm,h3.symm,h4.symm,h5.symm,h6.symm,h7.symm,h8.symm,h9.symm,h10.symm,h11.symm,h12.symm,h13.symm,h14.symm,h15.symm]
theorem cn{m:Qg}(h:(["purses","costs","wishes","unshared","gifts","outlay"]:List Qg).contains m=false):(iz d1 d2 w a b c).lookup m=none:=by
 have h:∀x∈(["purses","costs","wishes","unshared","gifts","outlay"]:List Qg),x≠m:=fun x hx e=>by
  rw[e]at hx
  rw[List.contains_iff_mem.mpr hx]at h
  cases h
 have g:∀x∈(["purses","costs","wishes","unshared","gifts","outlay"]:List Qg),(m==x)=false:=fun x hx=>beq_eq_false_iff_ne.mpr (h x hx).symm
 simp only[iz,RI,g _ (by simp:("purses":Qg)∈_),g _ (by simp:("costs":Qg)∈_),g _ (by simp:("wishes":Qg)∈_),g _ (by simp:("unshared":Qg)∈_),g _ (by simp:("gifts":Qg)∈_),g _ (by simp:("outlay":Qg)∈_)]
end
section
variable {K:Qj}{H H':Hp}{c dx d1 d2 w:Qh}{wt:List Qh}{s:aL}{fp l:List Qh}
theorem vh.but(x:vh K H c dx d1 d2 w wt s)(b:bS l H H')(n1:c∉l)(n2:d1∉l)(n3:d2∉l)(n4:w∉l):vh K H' c dx d1 d2 w wt s:=
 ⟨b.1 _ _ n1 x.at_,b.1 _ _ n2 x.p1,b.1 _ _ n3 x.p2,b.1 _ _ n4 x.w_,Paired.mapP x.wt fun _ _ q=>b.2.1 _ _ q,x.ne,x.nd,x.nd2⟩
theorem vh.same(x:vh K H c dx d1 d2 w wt s)(b:ar H H'):vh K H' c dx d1 d2 w wt s:=x.but (bS.of (l:=[]) b) ⋯ ⋯ ⋯ ⋯
theorem aF.but(x:aF K H c fp s)(b:bS l H H')(n:∀a∈fp,a∉l):aF K H' c fp s:=by
 obtain⟨dx,d1,d2,w,wt,x,rfl⟩:=x
 exact⟨dx,d1,d2,w,wt,x.but b (n _ ⋯) (n _ ⋯) (n _ ⋯) (n _ ⋯),rfl⟩
theorem aF.same(x:aF K H c fp s)(b:ar H H'):aF K H' c fp s:=x.but (bS.of (l:=[]) b) ⋯
theorem aF.there(x:aF K H c fp s):∀a∈fp,H a≠none:=by
 obtain⟨dx,d1,d2,w,wt,x,rfl⟩:=x
 intro a ha
 simp only[QI,RD,or_false]at ha
 rcases ha with rfl|rfl|rfl|rfl
 ·rw[x.at_];simp
 ·rw[x.p1];simp
 ·rw[x.p2];simp
 ·rw[x.w_];simp
theorem aR{a b:Qh}{o o':HO}(h:H a=some o)(h':H b=some o')(n:o≠o'):a≠b:=fun e=>n (by rw[e,h']at h;exact(Rk h).symm)
theorem gN{a b:Qh}{o:HO}(h:H a=some o)(h':H b=none):a≠b:=fun e=>by rw[e,h']at h;cases h
theorem vh.setF{a b e:Int}(x:vh K H c dx d1 d2 w wt s):vh K (L2.upd H c (.ins (aq K "Chest") dx (iz d1 d2 w a b e))) c dx d1 d2 w wt ⟨s.ps,s.cs,s.ws,a,b,e⟩:=by
 have n1:=aR x.p1 x.at_ ⋯
 have n2:=aR x.p2 x.at_ ⋯
 have n3:=aR x.w_ x.at_ ⋯
 exact⟨ay,by rw[ax n1];exact x.p1,by rw[ax n2];exact x.p2,by rw[ax n3];exact x.w_,Paired.mapP x.wt fun _ _ q=>by
  unfold B6 at *
  rw[ax (aR q x.at_ ⋯)];exact q,x.ne,x.nd,x.nd2⟩
theorem vh.setD{e:Qh}{ps:List (Qg×Int)}(x:vh K H c dx d1 d2 w wt s)(he:H e=some (.dK (eV ps)))(hne:e≠d2)(nd:(ps.map (·.1)).Nodup):
  vh K (L2.upd H c (.ins (aq K "Chest") dx (iz e d2 w s.pot s.giv s.spt))) c dx e d2 w wt ⟨ps,s.cs,s.ws,s.pot,s.giv,s.spt⟩:=by
 have n1:=aR he x.at_ ⋯
 have n2:=aR x.p2 x.at_ ⋯
 have n3:=aR x.w_ x.at_ ⋯
 exact⟨ay,by rw[ax n1];exact he,by rw[ax n2];exact x.p2,by rw[ax n3];exact x.w_,Paired.mapP x.wt fun _ _ q=>by
  unfold B6 at *
  rw[ax (aR q x.at_ ⋯)];exact q,hne,nd,x.nd2⟩
theorem vh.setW{e:Qh}{ws:List (Qg×Qg)}{wt':List Qh}(x:vh K H c dx d1 d2 w wt s)(he:H e=some (.lst (wt'.map V.ref)))(hp:QE (B6 H) ws wt'):
  vh K (L2.upd H c (.ins (aq K "Chest") dx (iz d1 d2 e s.pot s.giv s.spt))) c dx d1 d2 e wt' ⟨s.ps,s.cs,ws,s.pot,s.giv,s.spt⟩:=by
 have n1:=aR x.p1 x.at_ ⋯
 have n2:=aR x.p2 x.at_ ⋯
 have n3:=aR he x.at_ ⋯
 exact⟨ay,by rw[ax n1];exact x.p1,by rw[ax n2];exact x.p2,by rw[ax n3];exact he,Paired.mapP hp fun _ _ q=>by
  unfold B6 at *
  rw[ax (aR q x.at_ ⋯)];exact q,x.ne,x.nd,x.nd2⟩
theorem vh.setP{ps:List (Qg×Int)}(x:vh K H c dx d1 d2 w wt s)(nd:(ps.map (·.1)).Nodup):vh K (L2.upd H d1 (.dK (eV ps))) c dx d1 d2 w wt ⟨ps,s.cs,s.ws,s.pot,s.giv,s.spt⟩:=by
 have n1:=aR x.at_ x.p1 ⋯
 have n3:=aR x.w_ x.p1 ⋯
 exact⟨by rw[ax n1];exact x.at_,ay,by rw[ax (QT x.ne)];exact x.p2,by rw[ax n3];exact x.w_,Paired.mapP x.wt fun _ _ q=>by
  unfold B6 at *
  rw[ax (aR q x.p1 ⋯)];exact q,x.ne,nd,x.nd2⟩
end
local macro_rules | `(tactic| walk_at "early") => `(tactic| first
 |with_reducible refine Mu ?_
 |with_reducible refine OA ?_
 |with_reducible refine M7 ?_
 |with_reducible refine MV ?_
 |with_reducible refine Np ?_
 |with_reducible refine M0 ?_
 |with_reducible refine O8 ?_
 |with_reducible refine M6 ?_
 |with_reducible refine O2 ?_
 |with_reducible refine Og ?_)
theorem sg{α β γ:Type}{F:β->γ->Prop}{f:α->β}:∀{xs:List α}{ys:List γ},QE F (xs.map f) ys->QE (fun x y=>F (f x) y) xs ys
 |[],_,.nil=>.nil
 |_::_,_,.cons h t=>.cons h (sg t)
def isLet(c:Nat):Bool:=decide (97<=c)&&decide (c<=122)
def dE(z:Qg):Bool:=(decide (1<=z.length)&&decide (z.length<=8))&&z.cps.toList.all isLet
theorem F1:("abcdefghijklmnopqrstuvwxyz":Qg).cps.toList=[97,98,99,100,101,102,103,104,105,106,107,108,109,110,111,112,113,114,115,116,117,118,119,120,121,122]:=nofun
theorem Lq(c:Nat):(!(UQ ("abcdefghijklmnopqrstuvwxyz":Qg) ⟨#[c]⟩ 0 ("abcdefghijklmnopqrstuvwxyz":Qg).length 1).isEmpty)=isLet c:=by
 rw[XQ,show("abcdefghijklmnopqrstuvwxyz":Qg).cps.toList=Xo 97 26 by decide +kernel,RF]
 simp only[isLet,decide_eq_true_eq,Rj,Y3]
 omega
theorem C4{z:Qg}(h:dE z=true):aT z:=by
 rw[dG]
 intro c hc
 have h2:=(Rj _ _▸h:_/\_).2
 have:=RL.mp h2 c hc
 simp[isLet]at this
 omega
theorem ix{z:Qg}(h:dE z=true):1<=z.length/\z.length<=8:=by
 simp[dE]at h
 exact h.1
theorem kM(f:Qg)(v:V):∀fs:List (Qg×V),(cE f v fs).length<=fs.length+1
 |[]=>QC _
 |(g,x)::r=>by
  unfold cE
  by_cases h:g=f
  ·rw[if_pos h];simp
  ·rw[if_neg h]
   have:=kM f v r
   simp only[Rn]
   omega
theorem lM{α:Type}(p:α->Bool)(d:α)(xs:List α):((QM xs.length).filter fun i=>p (xs.getD i d)).map (fun i=>xs.getD i d)=xs.filter p:=by
 have h:=br (fun x=>x) d xs
 rw[Vy]at h
 conv=>rhs;rw[<-h]
 rw[U1]
 rfl
def vI(s:aL)(x:Int):aL:={s with ps:=s.ps.map fun p=>(p.1,p.2+x),pot:=s.pot-x*s.ps.length}
def uq(s:aL)(x:Int):aL:=if s.ps=[]then{s with pot:=s.pot+x,giv:=s.giv+x} else vI {s with pot:=s.pot+x,giv:=s.giv+x} ((s.pot+x)/(s.ps.length:Int))
def Kx(s:aL)(n:Qg)(x:Int):aL:={s with ps:=s.ps.filter fun p=>decide (p.1≠n),ws:=s.ws.filter fun p=>!decide (p.1=n),pot:=s.pot+x}
theorem map_fst(ps:List (Qg×Int))(x:Int):(ps.map fun p=>(p.1,p.2+x)).map (·.1)=ps.map (·.1):=by rw[QR];rfl
theorem sI{α:Type}{ps:List (Qg×α)}{p:Qg×α->Bool}(h:(ps.map (·.1)).Nodup):((ps.filter p).map (·.1)).Nodup:=Z8 (aaS _ List.filter_sublist) h
theorem made{K:Qj}{H H2:Hp}{c dx:Qh}{fp:List Qh}(f0:H c=none)(g0:H dx=none)(b:bS [c] (upd (upd H dx (.own c)) c (.ins (aq K "Chest") dx [])) H2)(w:fL [c] fp (upd (upd H dx (.own c)) c (.ins (aq K "Chest") dx []))):
  ar H H2/\∀a∈fp,H a=none:=by
 refine⟨fun a o h=>?_,fun a ha=>?_⟩
 ·have n1:a≠c:=fun e=>by rw[e,f0]at h;cases h
  have n2:a≠dx:=fun e=>by rw[e,g0]at h;cases h
  exact b.1 a o (by simpa using n1) (by rw[ax n1,ax n2];exact h)
 ·rcases w a ha with e|e
  ·rw[Q8.mp e];exact f0
  ·by_cases n1:a=c
   ·rw[n1];exact f0
   ·rw[ax n1]at e
    by_cases n2:a=dx
    ·rw[n2];exact g0
    ·rw[ax n2]at e;exact e
theorem Jr{H0 H H':Hp}{L:List Qh}(s:ar H0 H)(b:bS L H H')(h:∀a∈L,H0 a=none):ar H0 H':=fun a o q=>b.1 a o (fun m=>by rw[h a m]at q;cases q) (s a o q)
def eM(c:Int)(k:Nat):Int:=(c%900900929+2503*(k:Int)+77)*(c%900900929+2503*(k:Int)+77)*(c%900900929+2503*(k:Int)+77+31*(k:Int))/13%700700003
def gF(c:Int)(m:Nat):List Int:=(QM m).map (eM c)
theorem MH(c:Int)(k:Nat):0<=eM c k/\eM c k<700700003:=by unfold eM;omega
theorem Ae(c:Int)(m:Nat):(gF c m).length=m:=by simp[gF]
theorem vW{c:Int}{m k:Nat}(h:k<m):((gF c m).map V.int)[k]?=some (.int (eM c k)):=by simp[gF,h]
theorem ML(l:Option Int)(n:Nat):T7 l none 1 n=T7 l (some (n:Int)) 1 n:=by
 have h:¬((n:Int)<0):=by omega
 have e:max (0:Int) (min (if(n:Int)<0 then(n:Int)+n else n) (n:Int))=n:=by rw[if_neg h];omega
 simp[T7,e]
theorem um{z:Qg}{a b:Nat}(h1:a<=b)(h2:b<=z.length):(Ra z (some (a:Int)) (some (b:Int))).cps.toList=(z.cps.toList.drop a).take (b-a):=by
 have hl:=bE z
 unfold Ra
 split
 ·rename_i hc
  rw[aae h1 h2]at hc
  have:b-a=z.length:=by simpa using hc
  have:a=0:=by omega
  subst this
  rw[Xj,S7 (by omega)]
 ·rw[Z7 z h1 h2]
theorem rm{z:Qg}{b:Nat}(h:b<=z.length):(Ra z none (some (b:Int))).cps.toList=z.cps.toList.take b:=by
 have e:Ra z none (some (b:Int))=Ra z (some ((0:Nat):Int)) (some (b:Int)):=by unfold Ra;rw[LL]
 rw[e,um (Rm _) h]
 simp
theorem qW{z:Qg}{a:Nat}(h:a<=z.length):(Ra z (some (a:Int)) none).cps.toList=z.cps.toList.drop a:=by
 have hl:=bE z
 have e:Ra z (some (a:Int)) none=Ra z (some (a:Int)) (some (z.length:Int)):=by unfold Ra;rw[ML]
 rw[e,um h (QC _),S7 (by rw[SE];omega)]
def qI(x:Int):Nat:=97+(x%26).toNat
theorem NC(x:Int):BF ("abcdefghijklmnopqrstuvwxyz":Qg).cps.toList (x%26)=some (qI x):=by
 have n0:0<=x%26:=by omega
 have n1:x%26<26:=by omega
 have hl:("abcdefghijklmnopqrstuvwxyz":Qg).cps.toList.length=26:=by rw[F1];rfl
 rw[FK n0 (by rw[hl];omega),F1]
 unfold qI
 generalize x%26=y at *
 obtain⟨n,rfl⟩:∃n:Nat,y=(n:Int):=⟨y.toNat,by omega⟩
 have hn:n<26:=by omega
 have key:∀n:Fin 26,([97,98,99,100,101,102,103,104,105,106,107,108,109,110,111,112,113,114,115,116,117,118,119,120,121,122]:List Nat).getD n.val 0=97+n.val:=by decide
 have:=key ⟨n,hn⟩
 rw[show((n:Int)).toNat=n by omega]
 rw[this]
theorem vy(x:Int):isLet (qI x)=true:=by
 unfold isLet qI
 simp
 omega
def wl(c:Int):List Nat:=(QM 7).map fun j=>qI (eM c j)
theorem qX(c:Int):(wl c).length=7:=by simp[wl]
theorem O5(c:Int):∀x∈wl c,isLet x=true:=fun x hx=>by
 obtain⟨j,_,rfl⟩:=Qu.mp hx
 exact vy _
def Mj(c:Int):List Nat:=(wl c).take (eM c 8/4%8).toNat
def KL(c:Int):Nat:=(eM c 8/32%(((Mj c).length:Int)+1)).toNat
noncomputable def pT(c:Int)(k:Nat):List Nat:=
 if eM c 8%4=0 then qI (eM c 7+(k/8:Nat))::(wl c).take (k%8)
 else if eM c 8%4=1 then(wl c).drop (7-k%8)++[qI (eM c 7+(k/8:Nat))]
 else(Mj c).take (KL c)++qI (eM c 7+(k:Int))::(Mj c).drop (KL c)
noncomputable def cU(c:Int)(k:Nat):Qg:=⟨(pT c k).toArray⟩
theorem qp(c:Int)(k:Nat):(cU c k).cps.toList=pT c k:=by simp[cU]
theorem F2(c:Int):(Mj c).length<=7:=by
 unfold Mj
 rw[Rw,qX]
 omega
theorem Jk(c:Int)(k:Nat):1<=(pT c k).length/\(pT c k).length<=8/\∀x∈pT c k,isLet x=true:=by
 have h3:=F2 c
 have hw:=O5 c
 have hn:∀x∈Mj c,isLet x=true:=fun x hx=>hw x (TK hx)
 unfold pT
 split
 ·refine⟨⋯,by simp[qX];omega,fun x hx=>?_⟩
  rcases QI.mp hx with rfl|hx
  ·exact vy _
  ·exact hw x (TK hx)
 ·split
  ·refine⟨⋯,by simp only[Rz,SE,qX,TY];omega,fun x hx=>?_⟩
   rcases Q7.mp hx with hx|hx
   ·exact hw x (U0 hx)
   ·rw[Q8.mp hx];exact vy _
  ·refine⟨by simp;omega,?_,fun x hx=>?_⟩
   ·simp only[Rz,Rn,Rw,SE];omega
   ·rcases Q7.mp hx with hx|hx
    ·exact hn x (TK hx)
    ·rcases QI.mp hx with rfl|hx
     ·exact vy _
     ·exact hn x (U0 hx)
theorem kJ(c:Int)(k:Nat):dE (cU c k)=true:=by
 obtain⟨h1,h2,h3⟩:=Jk c k
 have hl:=bE (cU c k)
 rw[qp]at hl
 unfold dE
 rw[qp,decide_eq_true (by omega),decide_eq_true (by omega),RL.mpr h3]
 rfl
section
variable {l e:Qh}{a b x:Int}
end
section
variable {K:Qj}{H:Hp}{Q:VK}{p:Qh}{xs:List V}{i:Int}{v:V}
theorem Di(hs:iM K H p xs)(ha:BF xs i=some v)(h:Q v H):Ko K (.ref p) (.int i) H Q:=⟨p,xs,i,v,rfl,rfl,hs,ha,h⟩
end
section
variable {K:Qj}{H H':Hp}{c sd l:Qh}{fp L:List Qh}{s:aL}
end
theorem uH{α β:Type}{F:α->β->Prop}:∀{xs:List α}{ys:List β}{a:α}{b:β},QE F xs ys->F a b->QE F (xs++[a]) (ys++[b])
 |_,_,_,_,.nil,h=>.cons h .nil
 |_,_,_,_,.cons q t,h=>.cons q (uH t h)
section
variable {K:Qj}{H H':Hp}{c dx d1 d2 w:Qh}{wt:List Qh}{s:aL}{fp l:List Qh}
theorem vh.setC{cs:List (Qg×Int)}(x:vh K H c dx d1 d2 w wt s)(nd:(cs.map (·.1)).Nodup):vh K (L2.upd H d2 (.dK (eV cs))) c dx d1 d2 w wt ⟨s.ps,cs,s.ws,s.pot,s.giv,s.spt⟩:=by
 have n1:=aR x.at_ x.p2 ⋯
 have n3:=aR x.w_ x.p2 ⋯
 exact⟨by rw[ax n1];exact x.at_,by rw[ax x.ne];exact x.p1,ay,by rw[ax n3];exact x.w_,Paired.mapP x.wt fun _ _ q=>by
  unfold B6 at *
  rw[ax (aR q x.p2 ⋯)];exact q,x.ne,x.nd,nd⟩
theorem vh.addW{v n:Qg}{t:Qh}(x:vh K H c dx d1 d2 w wt s)(ht:H t=some (.tup [.str v,.str n])):vh K (L2.upd H w (.lst ((wt++[t]).map V.ref))) c dx d1 d2 w (wt++[t]) ⟨s.ps,s.cs,s.ws++[(v,n)],s.pot,s.giv,s.spt⟩:=by
 have n1:=aR x.at_ x.w_ ⋯
 have n2:=aR x.p1 x.w_ ⋯
 have n3:=aR x.p2 x.w_ ⋯
 refine⟨by rw[ax n1];exact x.at_,by rw[ax n2];exact x.p1,by rw[ax n3];exact x.p2,ay,uH (Paired.mapP x.wt fun _ _ q=>?_) ?_,x.ne,x.nd,x.nd2⟩
 ·unfold B6 at *
  rw[ax (aR q x.w_ ⋯)];exact q
 ·unfold B6
  rw[ax (aR ht x.w_ ⋯)];exact ht
end
def FT(p:Qg×Qg):QY:=.tuple [.str p.1,.str p.2]
theorem FX{p q:Qg×Qg}(h:FT p=FT q):p=q:=by
 unfold FT at h
 simp at h
 exact Prod.ext h.1 h.2
theorem MQ{K:Qj}{H:Hp}{ws:List (Qg×Qg)}{wt:List Qh}(h:QE (B6 H) ws wt):DatAll K H (wt.map V.ref) (ws.map FT):=by
 induction h with
 |nil=>exact .nil
 |cons q _ ih=>exact .cons (.tup (iM.of q) (.cons (.str _) (.cons (.str _) .nil))) ih
theorem Iu{n:Nat}{x:Qg}(h:aT x):eY n (.str x):=⟨by rw[nice];exact jT h,by simp[SJ]⟩
theorem Bu{n:Nat}{p:Qg×Qg}(h1:aT p.1)(h2:aT p.2):eY (n+1) (FT p):=JJ fun e he=>by
 rcases QI.mp he with rfl|he
 ·exact Iu h1
 ·rcases QI.mp he with rfl|he
  ·exact Iu h2
  ·cases he
theorem Pa{n:Nat}{ws:List (Qg×Qg)}(h:∀p∈ws,aT p.1/\aT p.2):eY (n+2) (.list (ws.map FT)):=so fun d hd=>by
 obtain⟨p,hp,rfl⟩:=Qu.mp hd
 exact Bu (h p hp).1 (h p hp).2
theorem F8(p:Qg×Qg):∀ws:List (Qg×Qg),((ws.map FT).any fun y=>S9 y (FT p))=decide (p∈ws)
 |[]=>by simp
 |q::r=>by
  rw[QW,SK,F8 p r,RF,Bool.or_eq_true,decide_eq_true_eq,decide_eq_true_eq,YS,QI]
  constructor
  ·rintro(e|e)
   ·exact .inl (FX e).symm
   ·exact .inr e
  ·rintro(e|e)
   ·exact .inl (by rw[e])
   ·exact .inr e
theorem JX(p q:Qg×Qg):S9 (FT p) (FT q)=decide (p=q):=by
 rw[RF,YS,decide_eq_true_eq]
 exact⟨FX,fun h=>by rw[h]⟩
section
variable {K:Qj}{H:Hp}{Q:VK}{t w:Qh}{p:Qg×Qg}{ws:List (Qg×Qg)}{wt:List Qh}{neg:Bool}
theorem D5(ht:H t=some (.tup [.str p.1,.str p.2]))(hw:H w=some (.lst (wt.map V.ref)))(hp:QE (B6 H) ws wt)(a1:aT p.1)(a2:aT p.2)(ha:∀p∈ws,aT p.1/\aT p.2)(h:Q (.bl (decide (p∈ws) != neg)) H):HC K neg (.ref t) (.ref w) H Q:=
 ⟨ws.map FT,FT p,.lst (bo.of hw) (MQ hp),.tup (iM.of ht) (.cons (.str _) (.cons (.str _) .nil)),(Pa (n:=2) ha).mono (by decide),(Bu (n:=2) a1 a2).mono (by decide),by rw[F8];exact h⟩
end
def P8(H:Hp)(r:Qg×Int×List Qg)(t:Qh):Prop:=∃l:Qh,H t=some (.tup [.str r.1,.int r.2.1,.ref l])/\H l=some (.lst (r.2.2.map V.str))
section
variable {K:Qj}{mp:List (Option Nat)}{te td:TE}{σ:St}{H:Hp}{Q:VK}{d:Qh}{kvs:List (Key×V)}
theorem DS(htd:∀k:VK,k (.ref d) H->td σ H k)(hd:H d=some (.dK kvs))(hz:kvs.length<=Qr)(u v:Nat->V)(hu:∀i q,kvs[i]?=some q->kV q.1=u i/\q.2=v i)
  (st:Nat->St) (hf:∀i σ',(σ'=dM mp σ\/∃j,σ'=st j)->(σ'.set 0 (some (u i))).set 1 (some (v i))=st i) (R:Qh->Nat->V->Hp->Prop)
  (hR:∀l i v H1 H2,fJ l H1 H2->R l i v H1->R l i v H2) (hRd:∀l i v H1 o,H1 d=some (.frz o (.dK kvs))->R l i v H1->R l i v (upd H1 d (.dK kvs)))
  (he:∀l i,i<kvs.length->∀(H':Hp)(G:VK),H l=none->(∃o,H' l=some o)->(∃o,H' d=some o)->fJ d H H'->(∀v H'',R l i v H''->ar H' H''->G v H'')->te (st i) H' G)
  (hq:∀l ys H2,H l=none->ar H H2->H2 l=some (.lst ys)->QE (fun i v=>R l i v H2) (QM kvs.length) ys->Q (.ref l) H2):
  iG (cy mp (yb td) (d0 K 2 (bj (av 0) (bj (av 1) eB))) eA te) σ H Q:=by
 exists d,kvs,hd
 refine ow ?_
 refine htd _ ⟨d,kvs,rfl,hd,fun o w hw hne=>?_⟩
 have hl0:∀a,upd (upd H w (nO w d)) d (.frz o (.dK kvs)) a=none->H a=none:=fun a ha=>by
  by_cases h1:a=d
  ·subst h1;rw[ay]at ha;cases ha
  ·rw[ax h1]at ha
   by_cases h2:a=w
   ·subst h2;exact hw
   ·rwa [ax h2]at ha
 have hx:∀H',ar (upd (upd H w (nO w d)) d (.frz o (.dK kvs))) H'->fJ d H H':=fun H' s a x ha h=>by
  have hw2:a≠w:=fun e=>by rw[e,hw]at h;cases h
  exact s _ _ (by rw[ax ha,ax hw2];exact h)
 refine gL (Cz 0 1 u v hu) st hf (fun H' s=>s _ _ ay) hz (fun _=>true) R hR (fun i hi H' G s k=>k H' (ar.refl _)) (fun l i hi _ H' G h0 h1 s k=>he l i hi H' G (hl0 l h0) h1 ⟨_,s _ _ ay⟩ (hx H' s) k) fun l ys H' h0 s h1 pr=>?_
 rw[SI.mpr (fun _ _=>rfl)]at pr
 have hfd:H' d=some (.frz o (.dK kvs)):=s _ _ ay
 have hld:l≠d:=fun e=>by rw[e,ay]at h0;cases h0
 refine⟨o,kvs,hfd,hq l ys _ (hl0 l h0) (fun a x ha=>?_) (by rw[ax hld];exact h1) (Paired.mapP pr fun i v q=>hRd l i v H' o hfd q)⟩
 by_cases h1:a=d
 ·subst h1
  rw[ay,<-hd];exact ha
 ·rw[ax h1]
  exact hx H' s a x h1 ha
end
theorem uE{H':Hp}{P:Qh->Prop}{f:Nat->Qg×Int×List Qg}:∀{is:List Nat}{ys:List V},QE (fun i v=>∃t w,v=V.ref t/\P w/\H' t=some (.tup [.str (f i).1,.int (f i).2.1,.ref w])/\H' w=some (.lst ((f i).2.2.map V.str))) is ys->
  ∃ts:List Qh,ys=ts.map V.ref/\QE (P8 H') (is.map f) ts/\∀t∈ts,∀x y w,H' t=some (.tup [x,y,.ref w])->P w
 |_,_,.nil=>⟨[],rfl,.nil,fun t ht=>by cases ht⟩
 |_,_,.cons ⟨t,w,e,hp,h1,h2⟩ r=>by
  obtain⟨ts,e2,p2,q2⟩:=uE r
  refine⟨t::ts,by rw[e,e2];rfl,.cons ⟨w,h1,h2⟩ p2,fun t' ht x y w' h'=>?_⟩
  rcases QI.mp ht with rfl|ht
  ·rw[h1]at h'
   injection h' with h'
   injection h' with h'
   simp at h'
   rw[<-h'.2.2];exact hp
  ·exact q2 t' ht x y w' h'
theorem EN(ps:List (Qg×Int))(P:Qg->Bool):(((QM ps.length).filter fun i=>P (ps.getD i ("",0)).1).map fun i=>V.str (ps.getD i ("",0)).1)=((ps.map (·.1)).filter P).map V.str:=by
 have h:=lM (fun p:Qg×Int=>P p.1) ("",0) ps
 have e:((ps.map (·.1)).filter P)=(ps.filter fun p=>P p.1).map (·.1):=by rw[U1];rfl
 rw[e,<-h,QR,QR]
 rfl
def AN(H:Hp)(l:Qh)(ts:List Qh)(rows:List (Qg×Int×List Qg)):Prop:=H l=some (.lst (ts.map V.ref))/\QE (P8 H) rows ts
def iK(s:aL)(p:Qg×Int):Qg×Int×List Qg:=(p.1,p.2,(s.ps.map (·.1)).filter fun v=>decide ((v,p.1)∈s.ws))
section
variable {K:Qj}{H H':Hp}{c lp lw:Qh}{fp L:List Qh}{s:aL}{people:List Qg}{rows:List WkR}{m:Nat}
end
section
variable {K:Qj}{H:Hp}{Q:VK}{l:Qh}{zs:List Qg}{n:Qg}{j:Nat}
end
def CO(s:aL)(v:Qg):List Nat:=(QM s.cs.length).filter fun k=>decide ((v,(s.cs.getD k ("",0)).1)∈s.ws)
def intsOf(ks:List Nat):List Int:=ks.map fun k:Nat=>(k:Int)
def bq(s:aL):List (List Int):=s.ps.map fun p=>intsOf (CO s p.1)
def fE(s:aL):Nat:=nF s.ps.length ^ (s.cs.length+1)
def aP(s:aL):List Int:=s.ps.map fun p=>p.2*(fE s:Int)
def cD(s:aL):List Int:=s.cs.map (·.2)
abbrev je:=Qg×Int×List (Qg×Int)
def bT(s:aL)(x:Nat×Int×List Int):je:=((s.cs.getD x.1 ("",0)).1,(s.cs.getD x.1 ("",0)).2,((s.ps.map (·.1)).zip x.2.2).filter fun p=>decide (0<p.2))
def MN(H:Hp)(x:je)(t:Qh):Prop:=∃r:Qh,H t=some (.tup [.str x.1,.int x.2.1,.ref r])/\ij H r x.2.2
def mH(H:Hp)(l:Qh)(ts:List Qh)(rows:List je):Prop:=H l=some (.lst (ts.map V.ref))/\QE (MN H) rows ts
theorem MN.but{H H':Hp}{fp:List Qh}{x:je}{t:Qh}(h:MN H x t)(b:bS fp H H')(n:∀y z r,H t=some (.tup [y,z,.ref r])->r∉fp):MN H' x t:=by
 obtain⟨r,h1,h2⟩:=h
 exact⟨r,b.2.1 _ _ h1,h2.but b (n _ _ _ h1)⟩
theorem mH.but{H H':Hp}{fp:List Qh}{l:Qh}{ts:List Qh}{rows:List je}(h:mH H l ts rows)(b:bS fp H H')(n:l∉fp)(nr:∀t∈ts,∀y z r,H t=some (.tup [y,z,.ref r])->r∉fp):mH H' l ts rows:=by
 obtain⟨h1,h2⟩:=h
 exists b.1 _ _ n h1
 clear h1
 induction h2 with
 |nil=>exact .nil
 |cons q _ ih=>exact .cons (q.but b (nr _ ⋯)) (ih fun t ht=>nr t (by simp[ht]))
theorem mH.tup{H H':Hp}{l:Qh}{ts:List Qh}{rows:List je}(h:mH H l ts rows){fp:List Qh}(b:bS fp H H'):∀t∈ts,∀y z r,H' t=some (.tup [y,z,.ref r])->H t=some (.tup [y,z,.ref r]):=by
 obtain⟨h0,h2⟩:=h
 clear h0
 induction h2 with
 |nil=>intro t ht;cases ht
 |cons q _ ih=>
  intro t ht y z r e
  rcases QI.mp ht with rfl|ht
  ·obtain⟨r',h1,_⟩:=q
   rw[b.2.1 _ _ h1]at e
   rw[h1];exact e
  ·exact ih t ht y z r e
def OD(H0 H:Hp)(r:Qh)(rows:List (Qg×Int)):Prop:=∃ts:List Qh,H r=some (.lst (ts.map V.ref))/\QE (fun p t=>H0 t=none/\Pj H p t) rows ts
theorem rZ{H':Hp}{P:Qh->Prop}{f:Nat->je}:∀{is:List Nat}{ys:List V},QE (fun i v=>∃t r,v=V.ref t/\P r/\H' t=some (.tup [.str (f i).1,.int (f i).2.1,.ref r])/\ij H' r (f i).2.2) is ys->
  ∃ts:List Qh,ys=ts.map V.ref/\QE (MN H') (is.map f) ts/\∀t∈ts,∀x y w,H' t=some (.tup [x,y,.ref w])->P w
 |_,_,.nil=>⟨[],rfl,.nil,fun t ht=>by cases ht⟩
 |_,_,.cons ⟨t,w,e,hp,h1,h2⟩ r=>by
  obtain⟨ts,e2,p2,q2⟩:=rZ r
  refine⟨t::ts,by rw[e,e2];rfl,.cons ⟨w,h1,h2⟩ p2,fun t' ht x y w' h'=>?_⟩
  rcases QI.mp ht with rfl|ht
  ·rw[h1]at h'
   injection h' with h'
   injection h' with h'
   simp at h'
   rw[<-h'.2.2];exact hp
  ·exact q2 t' ht x y w' h'
theorem NO{K:Qj}{H:Hp}{Q:VK}{d:Qh}{kvs:List (Key×V)}(h:H d=some (.dK kvs))(q:∀v H1,H v=none->ar H H1->H1 v=some (oh v d)->Q (.ref v) H1):LK K "dict" (.ref d) H/\Ky (.ref d) [] H Q:=
 ⟨.inr (.inr (.inl ⟨rfl,.inl ⟨kvs,h⟩⟩)),d,kvs,rfl,rfl,h,fun v hv=>q v _ hv (ar.updN hv) ay⟩
def zY:je:=("",0,[])
theorem mH.ys{K:Qj}{H:Hp}{l:Qh}{ts:List Qh}{rows:List je}(h:mH H l ts rows):∃rs:List Qh,∀(fp:List Qh)(H':Hp),bS fp H H'->l∉fp->
  bo K H' l (ts.map V.ref)/\∀(i:Nat)(t:Qh),ts[i]?=some t->iM K H' t [.str (rows.getD i zY).1,.int (rows.getD i zY).2.1,.ref (rs.getD i 0)]:=by
 obtain⟨h1,h2⟩:=h
 have go:∀{rows:List je}{ts:List Qh},QE (MN H) rows ts->∃rs:List Qh,∀(i:Nat)(t:Qh),ts[i]?=some t->H t=some (.tup [.str (rows.getD i zY).1,.int (rows.getD i zY).2.1,.ref (rs.getD i 0)]):=by
  intro rows ts h
  induction h with
  |nil=>exact⟨[],fun i t e=>by simp at e⟩
  |cons q _ ih=>
   obtain⟨rs,hr⟩:=ih
   obtain⟨r,g1,_⟩:=q
   refine⟨r::rs,fun i t e=>?_⟩
   cases i with
   |zero=>
    simp at e
    subst e
    exact g1
   |succ i=>exact hr i t (by simpa using e)
 obtain⟨rs,hr⟩:=go h2
 exact⟨rs,fun fp H' b n=>⟨bo.of (b.1 _ _ n h1),fun i t e=>iM.of (b.2.1 _ _ (hr i t e))⟩⟩
theorem Lh{s:aL}(g:s.ps.length<=20/\s.cs.length<=12):0<(fE s:Int)/\((fE s:Nat):Int)<oE:=by
 have h1:=gQ s.ps.length (s.cs.length+1)
 have h2:=qz (v:=s.ps.length) (w:=s.cs.length+1) g.1 (by have:=g.2;omega)
 have h3:=Ja
 unfold fE
 refine⟨by exact_mod_cast h1,UH h2 (UH ?_ h3)⟩
 decide +kernel
def KI(s:aL)(left:List Int)(g:Int):aL:={s with pot:=s.pot+(left.map (· % g)).sum/g,ps:=(s.ps.map (·.1)).zip (left.map (· / g))}
noncomputable def c9(s:aL)(left:List Int)(g:Int)(rs:List je):aL:=
 ⟨(s.ps.map (·.1)).zip (left.map (· / g)),s.cs.filter fun p=>decide (p.1∉rs.map (·.1)),s.ws.filter fun p=>decide (p.2∉rs.map (·.1)),s.pot+(left.map (· % g)).sum/g,s.giv,s.spt+(rs.map (·.2.1)).sum⟩
theorem ET(s:aL)(left:List Int)(g:Int):c9 s left g []=KI s left g:=by
 unfold c9 KI
 simp
structure pQ(s:aL):Prop where
 v20:s.ps.length<=20
 n12:s.cs.length<=12
 ap:∀p∈s.ps,aT p.1
 ac:∀p∈s.cs,aT p.1
 aw:∀p∈s.ws,aT p.1/\aT p.2
 cb:∀p∈s.cs,1<=p.2/\p.2<=1000000000000
 p0:∀p∈s.ps,0<=p.2/\p.2<=1000000000000
 wl:s.ws.length<=900
theorem pQ.town{s:aL}(g:pQ s)(h:s.ps≠[]):Iw (cD s) (bq s) (aP s) where
 c12:=by simp[cD];exact g.n12
 cb:=fun x hx=>by
  obtain⟨p,hp,rfl⟩:=Qu.mp hx
  exact g.cb p hp
 v1:=by simp[bq];exact UB.mpr h
 v20:=by simp[bq];exact g.v20
 pl:=by simp[aP,bq]
 p0:=fun x hx=>by
  obtain⟨p,hp,rfl⟩:=Qu.mp hx
  exact Vh (g.p0 p hp).1 (WD _)
 pd:=fun x hx=>by
  obtain⟨p,hp,rfl⟩:=Qu.mp hx
  have e1:(bq s).length=s.ps.length:=by simp[bq]
  have e2:(cD s).length=s.cs.length:=by simp[cD]
  rw[e1,e2]
  exact Vb (j5 (RM _)) (Wg _ _)
theorem getD_mem{α:Type}{xs:List α}{i:Nat}(d:α)(h:i<xs.length):xs.getD i d∈xs:=by
 rw[QZ,Qz h]
 exact Sz h
theorem C5(s:aL)(left:List Int)(g:Int)(rs:List je)(r:je):c9 s left g (rs++[r])=
  {c9 s left g rs with spt:=(c9 s left g rs).spt+r.2.1,cs:=(c9 s left g rs).cs.filter fun p=>decide (p.1≠r.1),ws:=(c9 s left g rs).ws.filter fun p=>!decide (p.2=r.1)}:=by
 unfold c9
 simp only[R4,UG,List.filter_filter,QW,Tq,Ry,YQ,aL.mk.injEq,true_and]
 refine⟨?_,?_,by omega⟩
 ·refine VN fun p _=>?_
  rw[RF]
  simp
  exact XC
 ·refine VN fun p _=>?_
  rw[RF]
  simp
  exact XC
theorem JC{ps:List (Qg×Int)}(nd:(ps.map (·.1)).Nodup){i j:Nat}(hi:i<ps.length)(hj:j<ps.length)(h:(ps.getD i ("",0)).1=(ps.getD j ("",0)).1):i=j:=by
 rw[QZ,QZ,Qz hi,Qz hj]at h
 have h:(ps[i]).1=(ps[j]).1:=h
 rcases Nat.lt_trichotomy i j with c|c|c
 ·have:=TU.mp nd i j (by simpa using hi) (by simpa using hj) c
  simp at this
  exact absurd h this
 ·exact c
 ·have:=TU.mp nd j i (by simpa using hj) (by simpa using hi) c
  simp at this
  exact absurd h.symm this
section
variable {K:Qj}{σ:St}{H:Hp}{Q:VK}{l:Qh}
end
section
variable {K:Qj}{H:Hp}{Q:VK}{a l:Qh}{n:Nat}{ds:List QY}
end
theorem ij.at{H:Hp}{l:Qh}{rows:List (Qg×Int)}(h:ij H l rows):∃ts:List Qh,H l=some (.lst (ts.map V.ref))/\ts.length=rows.length/\∀i,i<rows.length->∃t,ts[i]?=some t/\H t=some (.tup [.str (rows.getD i ("",0)).1,.int (rows.getD i ("",0)).2]):=by
 obtain⟨ts,h1,h2⟩:=h
 refine⟨ts,h1,(QU h2).symm,fun i hi=>?_⟩
 obtain⟨t,e,q⟩:=dy h2 (Qz hi)
 have g:rows.getD i ("",0)=rows[i]:=by simp[QN,hi]
 exact⟨t,e,by rw[g];exact q⟩
def wN:Qg×Int×List Qg:=("",0,[])
theorem AN.at{H:Hp}{l:Qh}{ts:List Qh}{rows:List (Qg×Int×List Qg)}(h:AN H l ts rows):ts.length=rows.length/\∀i,i<rows.length->∃t w,ts[i]?=some t/\H t=some (.tup [.str (rows.getD i wN).1,.int (rows.getD i wN).2.1,.ref w])/\H w=some (.lst ((rows.getD i wN).2.2.map V.str)):=by
 obtain⟨h1,h2⟩:=h
 refine⟨(QU h2).symm,fun i hi=>?_⟩
 obtain⟨t,e,w,q1,q2⟩:=dy h2 (Qz hi)
 have g:rows.getD i wN=rows[i]:=by simp[QN,hi]
 exact⟨t,w,e,by rw[g];exact q1,by rw[g];exact q2⟩
theorem map_getD{α β:Type}(f:α->β)(d:α)(e:β){xs:List α}{i:Nat}(h:i<xs.length):(xs.map f).getD i e=f (xs.getD i d):=by simp[QN,h]
theorem wZ{s:aL}(G:pQ s){sts:List (Nat×Int×List Int)}(hb:∀x∈sts,x.1<s.cs.length):∀r∈sts.map (bT s),aT r.1/\∀p∈r.2.2,aT p.1:=fun r hr=>by
 obtain⟨x,hx,rfl⟩:=Qu.mp hr
 refine⟨G.ac _ (getD_mem _ (hb x hx)),fun p hp=>?_⟩
 have hp:=(Rb.mp hp).1
 have:=(UD (a:=p.1) (b:=p.2) hp).1
 obtain⟨q,hq,e⟩:=Qu.mp this
 rw[<-e];exact G.ap q hq
theorem qq(ps:List Int)(sts:List (Nat×Int×List Int)):(bY ps sts).length=ps.length:=by simp[bY]
theorem tN{cs:List Int}{rows:List (List Int)}:∀{run:List (Nat×Int)}{ps:List Int}{done:List Nat},ps.length=rows.length->iX (bZ cs rows) (PF ps) done run->(cT rows ps run).sum=ps.sum-(run.map fun x=>(bZ cs rows).c x.1).sum
 |[],ps,done,hl,h=>by simp[cT]
 |(k,L)::r,ps,done,hl,h=>by
  cases h with
  |step nx ex rest=>
   rw[cT,tN (by rw[i5];exact hl) (by rw[jh hl];exact rest)]
   have e:ps.sum=sumTo ps.length (PF ps):=by
    unfold sumTo PF
    rw[br (fun x:Int=>x) 0 ps,Vy]
   have:(jH rows ps k L).sum=ps.sum-(bZ cs rows).c k:=by
    rw[<-ex]
    show sumTo ps.length (EO (WR rows) (PF ps) k L)=_
    rw[e,hl]
    unfold EO u7
    exact Al _ _ _
   rw[QW,Ry,this]
   show _=_-((bZ cs rows).c k+_)
   omega
theorem FF{g:Int}:∀{l:List Int},g∣l.sum-(l.map (· % g)).sum
 |[]=>⟨0,⋯⟩
 |x::l=>by
  obtain⟨q,hq⟩:=FF (g:=g) (l:=l)
  exists x/g+q
  have:=VE x g
  rw[QW,Ry,Ry,Um]
  omega
theorem Bz{g:Int}:∀{l:List Int},(∀x∈l,g∣x)->g∣l.sum
 |[],_=>⟨0,⋯⟩
 |x::l,h=>by
  rw[Ry]
  exact Yk (h x ⋯) (Bz fun y hy=>h y (by simp[hy]))
theorem IW{s:aL}{run:List (Nat×Int)}(rx:iX (bZ (cD s) (bq s)) (PF (aP s)) [] run):(fE s:Int)∣((bY (aP s) (aX (bq s) (aP s) run)).map (· % (fE s:Int))).sum:=by
 have h1:=tN (by simp[aP,bq]) rx
 have h2:(fE s:Int)∣(cT (bq s) (aP s) run).sum:=by
  rw[h1]
  refine Ve (Bz fun x hx=>?_) (Bz fun x hx=>?_)
  ·obtain⟨p,_,rfl⟩:=Qu.mp hx
   exact Wg _ _
  ·obtain⟨y,_,rfl⟩:=Qu.mp hx
   have e1:(bq s).length=s.ps.length:=by simp[bq]
   have e2:(cD s).length=s.cs.length:=by simp[cD]
   show _∣(cD s).getD y.1 0*((nF (bq s).length ^ ((cD s).length+1):Nat):Int)
   rw[e1,e2]
   exact Wg _ _
 rw[iP]
 have h3:=FF (g:=(fE s:Int)) (l:=cT (bq s) (aP s) run)
 have:=Ve h2 h3
 rwa [show ∀a b:Int,a-(a-b)=b from fun a b=>by omega]at this
theorem Eu(ps:List Int):bY ps []=ps:=by
 unfold bY
 refine Uw (Tc fun i _=>?_) ((br (fun x:Int=>x) 0 ps).trans (Vy _))
 simp
theorem CG:∀ps:List (Qg×Int),(ps.map (·.1)).zip (ps.map (·.2))=ps
 |[]=>rfl
 |p::r=>by rw[QW,QW,List.zip_cons_cons,CG r]
def Qf(H:Hp)(t:Qh):Qh:=match H t with
 |some (.tup [_,_,.ref r])=>r
 |_=>0
theorem bS.ext{fp Ms:List Qh}{H H1 H2:Hp}(b:bS fp H H1)(b2:bS Ms H1 H2)(h:∀a∈Ms,H a=none):bS fp H H2:=
 ⟨fun c o n q=>b2.1 c o (fun m=>by rw[h c m]at q;cases q) (b.1 c o n q),fun c xs q=>b2.2.1 _ _ (b.2.1 _ _ q),fun c q=>b.2.2 _ (b2.2.2 _ q)⟩
theorem gS{s:aL}{run:List (Nat×Int)}(rx:iX (bZ (cD s) (bq s)) (PF (aP s)) [] run):(aX (bq s) (aP s) run).length<=s.cs.length/\∀x∈aX (bq s) (aP s) run,x.1<s.cs.length/\x.2.2.length=s.ps.length:=by
 have hrw:=zF rx.run
 have hcl:(cD s).length=s.cs.length:=by simp[cD]
 have hpl:(aP s).length=s.ps.length:=by simp[aP]
 refine⟨?_,fun x hx=>⟨?_,by rw[j1 _ _ _ x hx,hpl]⟩⟩
 ·rw[jk]
  have:=iZ s.cs.length (run.map (·.1)) hrw.2 (fun x hx=>by
   obtain⟨y,hy,rfl⟩:=Qu.mp hx
   have:=(hrw.1 y hy).1
   rw[<-hcl];exact this)
  simpa using this
 ·have hm:x.1∈run.map (·.1):=by rw[<-vJ];exact Qu.mpr ⟨x,hx,rfl⟩
  obtain⟨y,hy,e⟩:=Qu.mp hm
  have:=(hrw.1 y hy).1
  rw[<-e,<-hcl];exact this
theorem Ez{H:Hp}{l:Qh}{ts:List Qh}{rows:List je}(h:mH H l ts rows):∃rs:List Qh,∀(i:Nat)(t:Qh),ts[i]?=some t->H t=some (.tup [.str (rows.getD i zY).1,.int (rows.getD i zY).2.1,.ref (rs.getD i 0)])/\∃us:List Qh,H (rs.getD i 0)=some (.lst (us.map V.ref))/\QE (Pj H) (rows.getD i zY).2.2 us:=by
 obtain⟨h1,h2⟩:=h
 clear h1
 induction h2 with
 |nil=>exact⟨[],fun i t e=>by simp at e⟩
 |cons q _ ih=>
  obtain⟨rs,hr⟩:=ih
  obtain⟨r,g1,us,g2,g3⟩:=q
  refine⟨r::rs,fun i t e=>?_⟩
  cases i with
  |zero=>
   simp at e
   subst e
   exact⟨g1,us,g2,g3⟩
  |succ i=>exact hr i t (by simpa using e)
theorem AQ{s:aL}{i:Nat}(hi:i<s.ps.length):PF (aP s) i=(s.ps.getD i ("",0)).2*(fE s:Int):=by
 unfold PF aP
 exact map_getD (fun p:Qg×Int=>p.2*(fE s:Int)) ("",0) 0 hi
theorem LM{s:aL}{k:Nat}(hk:k<s.cs.length):(bZ (cD s) (bq s)).c k=(s.cs.getD k ("",0)).2*(fE s:Int):=by
 have e1:(bq s).length=s.ps.length:=by simp[bq]
 have e2:(cD s).length=s.cs.length:=by simp[cD]
 show(cD s).getD k 0*((nF (bq s).length ^ ((cD s).length+1):Nat):Int)=_
 rw[e1,e2]
 unfold cD
 rw[map_getD (fun p:Qg×Int=>p.2) ("",0) 0 hk]
 rfl
theorem zip_get{ns:List Qg}{xs:List Int}{i:Nat}(h1:i<ns.length)(h2:i<xs.length):(ns.zip xs).getD i ("",0)=(ns.getD i "",xs.getD i 0):=by
 have h3:i<(ns.zip xs).length:=by simp;omega
 rw[QZ,Qz h3,QZ,Qz h1,QZ,Qz h2]
 simp[List.getElem_zip]
noncomputable def d5(s:aL)(run:List (Nat×Int)):aL:=c9 s (bY (aP s) (aX (bq s) (aP s) run)) (fE s) ((aX (bq s) (aP s) run).map (bT s))
theorem sD{s:aL}{run:List (Nat×Int)}:(d5 s run).ps.map (·.1)=s.ps.map (·.1):=by
 show((s.ps.map (·.1)).zip (RO _ (bY (aP s) (aX (bq s) (aP s) run)))).map (·.1)=_
 rw[Ym (by simp[qq,aP])]
theorem Df(s:aL):d5 s []=s:=by
 have g0:0<(fE s:Int):=by exact_mod_cast gQ s.ps.length (s.cs.length+1)
 have e1:(aX (bq s) (aP s) [])=[]:=rfl
 have e2:((aP s).map (· / (fE s:Int)))=s.ps.map (·.2):=by
  unfold aP
  rw[QR]
  exact Tc fun p _=>Y5 _ (by omega)
 have e3:((aP s).map (· % (fE s:Int))).sum=0:=by
  have:∀l:List (Qg×Int),((l.map fun p=>p.2*(fE s:Int)).map (· % (fE s:Int))).sum=0:=fun l=>by
   induction l with
   |nil=>rfl
   |cons x r ih=>rw[QW,QW,Ry,ih,Int.mul_emod_left];rfl
  exact this s.ps
 unfold d5
 rw[e1,Eu]
 unfold c9
 rw[e2,e3,CG]
 simp only[Tq,RD,not_false_eq_true,decide_true,YQ,Int.add_zero,Int.zero_ediv,SI.mpr (fun _ _=>rfl)]
theorem uN{cs:List Int}{rows:List (List Int)}:∀{run:List (Nat×Int)}{ps:List Int}{done:List Nat},ps.length=rows.length->iX (bZ cs rows) (PF ps) done run->(∀i,0<=PF ps i)->∀i,0<=PF (cT rows ps run) i/\PF (cT rows ps run) i<=PF ps i
 |[],ps,done,hl,h,h0,i=>⟨h0 i,Sk _⟩
 |(k,L)::r,ps,done,hl,h,h0,i=>by
  cases h with
  |step nx ex rest=>
   rw[cT]
   have hL:=nx.pos
   have h1:∀j,0<=PF (jH rows ps k L) j:=fun j=>by rw[jh hl];exact E2 (h0 j)
   obtain⟨z1,z2⟩:=uN (by rw[i5];exact hl) (by rw[jh hl];exact rest) h1 i
   refine⟨z1,Ua z2 ?_⟩
   rw[jh hl]
   exact KG (h0 i) (by omega)
theorem pQ.closed{s:aL}(G:pQ s){run:List (Nat×Int)}(rx:iX (bZ (cD s) (bq s)) (PF (aP s)) [] run):pQ (d5 s run):=by
 have g0:0<(fE s:Int):=by exact_mod_cast gQ s.ps.length (s.cs.length+1)
 have hn:=sD (s:=s) (run:=run)
 have hcl:(d5 s run).ps.length=s.ps.length:=by have:=congrArg U9 hn;simpa using this
 have hpl:(aP s).length=(bq s).length:=by simp[aP,bq]
 have hll:(bY (aP s) (aX (bq s) (aP s) run)).length=s.ps.length:=by rw[qq];simp[aP]
 have hp0:∀i,0<=PF (aP s) i:=fun i=>by
  by_cases hi:i<s.ps.length
  ·rw[AQ hi]
   exact Vh (G.p0 _ (getD_mem _ hi)).1 (TJ g0)
  ·rw[Ff (by simp[aP];omega)]
   exact Sk _
 refine⟨by rw[hcl];exact G.v20,Qt (RU _ _) G.n12,fun p hp=>?_,fun p hp=>G.ac p (Rb.mp hp).1,fun p hp=>G.aw p (Rb.mp hp).1,fun p hp=>G.cb p (Rb.mp hp).1,fun p hp=>?_,Qt (RU _ _) G.wl⟩
 ·have:p.1∈s.ps.map (·.1):=by rw[<-hn];exact Qu.mpr ⟨p,hp,rfl⟩
  obtain⟨r,hr,e⟩:=Qu.mp this
  rw[<-e];exact G.ap r hr
 ·obtain⟨i,hi,e⟩:=SX hp
  have hi':i<s.ps.length:=by rw[<-hcl];exact hi
  have eg:(d5 s run).ps.getD i ("",0)=((s.ps.getD i ("",0)).1,(bY (aP s) (aX (bq s) (aP s) run)).getD i 0/(fE s:Int)):=by
   show((s.ps.map (·.1)).zip (RO (fun x=>x/(fE s:Int)) (bY (aP s) (aX (bq s) (aP s) run)))).getD i ("",0)=_
   rw[zip_get (by simpa using hi') (by simpa[hll]using hi'),map_getD (fun p:Qg×Int=>p.1) ("",0) "" hi',map_getD (fun x:Int=>x/(fE s:Int)) 0 0 (by rw[hll];exact hi')]
  have e2:(d5 s run).ps.getD i ("",0)=p:=by rw[QZ,Qz hi];exact e
  rw[e2]at eg
  rw[eg]
  obtain⟨z1,z2⟩:=uN hpl rx hp0 i
  rw[<-iP]at z1 z2
  have z1:0<=(bY (aP s) (aX (bq s) (aP s) run)).getD i 0:=z1
  have z2:(bY (aP s) (aX (bq s) (aP s) run)).getD i 0<=PF (aP s) i:=z2
  rw[AQ hi']at z2
  exists Xi z1 (TJ g0)
  have h1:=(G.p0 _ (getD_mem (xs:=s.ps) ("",0) hi')).2
  have h2:(bY (aP s) (aX (bq s) (aP s) run)).getD i 0/(fE s:Int)<=(s.ps.getD i ("",0)).2:=by
   have:=Int.ediv_le_ediv g0 z2
   rwa [Y5 _ (by omega)]at this
  exact Ua h2 h1
def vP:List (Qg×Int)->Qg->Int
 |[],_=>0
 |p::r,v=>if p.1=v then p.2 else vP r v
theorem qv:∀{ps:List (Qg×Int)}{v:Qg},v∈ps.map (·.1)->(v,vP ps v)∈ps
 |[],_,h=>by cases h
 |p::r,v,h=>by
  unfold vP
  by_cases e:p.1=v
  ·rw[if_pos e,<-e]
   exact Ri
  ·rw[if_neg e]
   have h:v∈p.1::r.map (·.1):=h
   rcases QI.mp h with z|z
   ·exact absurd z.symm e
   ·exact Q2 _ (qv z)
theorem OY{ps:List (Qg×Int)}(nd:(ps.map (·.1)).Nodup){v:Qg}{x:Int}(h:(v,x)∈ps):vP ps v=x:=by
 induction ps with
 |nil=>cases h
 |cons p r ih=>
  have nd:(p.1::r.map (·.1)).Nodup:=nd
  obtain⟨n1,n2⟩:=Sb.mp nd
  unfold vP
  rcases QI.mp h with z|z
  ·rw[<-z,if_pos rfl]
  ·rw[if_neg (fun e=>n1 (by rw[e];exact Qu.mpr ⟨_,z,rfl⟩))]
   exact ih n2 z
section
variable {lps:List (Qg×Int)}{g:Int}{rows:List WRow}{r:WRow}{k:Nat}{L M:Int}
end
section
variable {s:aL}{left:List Int}(hl:left.length=s.ps.length)(nd:(s.ps.map (·.1)).Nodup)
include hl nd
end
section
variable {s:aL}{left:List Int}(hl:left.length=s.ps.length)(nd:(s.ps.map (·.1)).Nodup)
include hl nd
end
def cG(K:Qj)(H:Hp)(E:XK)(n:Qg):Prop:=∀H',ar H H'->E (.ref (aq K n)) none H'
inductive bA where
 |enrol (z:Qg)
 |propose (z:Qg) (x:Int)
 |give (x:Int)
 |leave (z:Qg)
 |withdraw (z:Qg)
 |want (v n:Qg)
 |unwant (v n:Qg)
noncomputable def bA.due(s:aL):bA->Option Qg
 |.enrol z=>if dE z=false then some "NoName" else if z∈s.ps.map (·.1)then some "Twice" else if 20<=s.ps.length then some "Full" else none
 |.propose z x=>if dE z=false then some "NoName" else if z∈s.cs.map (·.1)then some "Twice" else if x<1\/1000000000<x then some "TooMuch" else if 12<=s.cs.length then some "Full" else none
 |.give x=>if x<0\/1000000000<x then some "TooMuch" else none
 |.leave z=>if z∈s.ps.map (·.1)then none else some "NoVoter"
 |.withdraw z=>if z∈s.cs.map (·.1)then none else some "NoWork"
 |.want v n=>if v∈s.ps.map (·.1)then(if n∈s.cs.map (·.1)then none else some "NoWork")else some "NoVoter"
 |.unwant v n=>if v∈s.ps.map (·.1)then(if n∈s.cs.map (·.1)then none else some "NoWork")else some "NoVoter"
def bA.things:bA->List V
 |.enrol z=>[.str z]
 |.propose z x=>[.str z,.int x]
 |.give x=>[.int x]
 |.leave z=>[.str z]
 |.withdraw z=>[.str z]
 |.want v n=>[.str v,.str n]
 |.unwant v n=>[.str v,.str n]
def bA.word:bA->Qg
 |.enrol _=>"enrol"
 |.propose _ _=>"propose"
 |.give _=>"give"
 |.leave _=>"leave"
 |.withdraw _=>"withdraw"
 |.want _ _=>"want"
 |.unwant _ _=>"unwant"
def Tx(z:Qg):Prop:=aT z/\z.length<=1000
def bA.tx:bA->Prop
 |.enrol z=>Tx z
 |.propose z _=>Tx z
 |.give _=>True
 |.leave z=>Tx z
 |.withdraw z=>Tx z
 |.want v n=>Tx v/\Tx n
 |.unwant v n=>Tx v/\Tx n
theorem DD{ps:List (Qg×Int)}{n:Qg}(nd:(ps.map (·.1)).Nodup)(h:n∈ps.map (·.1)):(iu (eV ps) (.inr n)).isSome=true:=by
 obtain⟨p,hp,rfl⟩:=Qu.mp h
 rw[ox nd (show(p.1,p.2)∈ps from hp)]
 rfl
theorem xv{z a:Qg}{n:Nat}(hz:Tx z)(ha:(QO++a).length=n)(hn:n<=1000):(QO++a).length<=Qr/\(UI z).length<=Qr/\(QO++a++UI z).length<=Qr:=by
 have hsz:=size_eq
 have h2:=hz.2
 have hrp:=repr_fits hz.1 (show z.length<=100000 by omega)
 exists by omega,by omega
 rw[QQ]
 omega
section
variable {a b c x:Int}
end
section
variable {H H':Hp}{lp lw ld:Qh}{L:List Qh}{s:aL}{rows:List WkT}
end
section
variable {H:Hp}{l t:Qh}{rows:List (Qg×Int)}{i:Nat}{z:Qg}{y:Int}
end
section
variable {H:Hp}{lp lw ld:Qh}{s:aL}{rows:List WkT}
end
def iT(n:Int):Qg:=((toString n:String):Qg)
theorem me(n:Nat):(iT (n:Int)).cps.toList=(Uh 10 n).map Uc:=XN n
theorem AJ{n:Int}{k:Nat}(h0:0<=n)(hk:0<k)(h:n<10 ^ k):(iT n).length<=k:=by
 obtain⟨m,rfl⟩:=To h0
 have hm:m<10 ^ k:=by exact_mod_cast h
 have:=(Nat.length_toDigits_le_iff (b:=10) (n:=m) (k:=k) (by decide) hk).mpr hm
 rw[show(iT (m:Int)).length=(iT (m:Int)).cps.toList.length by simp[UZ],me,Qw]
 exact this
theorem Eg{a b:Int}(ha:0<=a)(hb:0<=b)(h:iT a=iT b):a=b:=by
 obtain⟨m,rfl⟩:=To ha
 obtain⟨n,rfl⟩:=To hb
 have e:(Uh 10 m).map Uc=(Uh 10 n).map Uc:=by rw[<-me,<-me,h]
 have e2:Uh 10 m=Uh 10 n:=YX (fun x y hxy=>Xu (Yg.mp hxy)) |>.mp e
 have:=congrArg (fun l=>Nat.ofDigitChars 10 l 0) e2
 simp only[Nat.ofDigitChars_toDigits (b:=10) (by decide) (by decide)]at this
 omega
def OF:Int:=10 ^ 500
theorem Gc{n:Int}(h0:0<=n)(h:n<OF):n.natAbs.log2<1920:=by
 obtain⟨m,rfl⟩:=To h0
 have hm:m<2 ^ 1920:=by
  have h2:(m:Int)<((2 ^ 1920:Nat):Int):=VX h nofun
  exact Int.ofNat_lt.mp h2
 by_cases e:m=0
 ·subst e;decide
 ·exact(Wu (by simpa using e)).mpr (by rw[Xe];exact hm)
def oP(p:Qg×Int):Qg:=QO++p.1++" "++iT p.2
def zX(rs:List (Qg×Int)):Qg:=Q3 ", " (rs.map oP)
def dX(r:je):Qg:=QO++r.1++" "++iT r.2.1++": "++zX r.2.2
def jR(rs:List je)(g:Int):Qg:=if rs=[]then "none" else QO++Q3 "; " (rs.map dX)++" of "++iT g
def qY(ns:List Qg):Qg:=if ns=[]then "-" else Q3 "+" ns
def d9(r:Qg×Int×List Qg):Qg:=QO++r.1++" "++iT r.2.1++" "++qY r.2.2
def jL(rs:List (Qg×Int×List Qg)):Qg:=if rs=[]then "none" else Q3 ", " (rs.map d9)
def Sm(x:Qg):Prop:=x.length<=8
def Nb(n:Int):Prop:=0<=n/\n<OF
theorem Nb.len{n:Int}(h:Nb n):(iT n).length<=600:=AJ h.1 (by decide) (VX h.2 nofun)
theorem Nb.log{n:Int}(h:Nb n):n.natAbs.log2<1920:=Gc h.1 h.2
theorem dQ:(", ":Qg).length=2/\("; ":Qg).length=2/\(" ":Qg).length=1/\(": ":Qg).length=2/\(" of ":Qg).length=4/\("+":Qg).length=1/\("-":Qg).length=1/\(QO).length=0:=nofun
theorem sm{p:Qg×Int}(h1:Sm p.1)(h2:Nb p.2):(oP p).length<=609:=by
 obtain⟨_,_,e,_,_,_,_,e0⟩:=dQ
 have:=h2.len
 unfold Sm at h1
 unfold oP
 simp only[QQ]
 omega
theorem sM{rs:List (Qg×Int)}(hr:rs.length<=20)(h:∀p∈rs,Sm p.1/\Nb p.2):(zX rs).length<=12220:=by
 obtain⟨e,_⟩:=dQ
 have:=gy (sep:=", ") (m:=609) (xs:=rs.map oP) (fun x hx=>by
  obtain⟨p,hp,rfl⟩:=Qu.mp hx
  exact sm (h p hp).1 (h p hp).2)
 rw[Qw,e]at this
 have:rs.length*(609+2)<=20*611:=RY _ hr
 unfold zX
 omega
theorem o3{r:je}(h1:Sm r.1)(h2:Nb r.2.1)(hr:r.2.2.length<=20)(h:∀p∈r.2.2,Sm p.1/\Nb p.2):(dX r).length<=12840:=by
 obtain⟨_,_,e,e2,_,_,_,e0⟩:=dQ
 have:=h2.len
 have:=sM hr h
 unfold Sm at h1
 unfold dX
 simp only[QQ]
 omega
theorem qD{ns:List Qg}(hn:ns.length<=20)(h:∀x∈ns,Sm x):(qY ns).length<=180:=by
 obtain⟨_,_,_,_,_,e,e2,_⟩:=dQ
 unfold qY
 split
 ·omega
 ·have:=gy (sep:="+") (m:=8) (xs:=ns) h
  rw[e]at this
  have:ns.length*(8+1)<=20*9:=RY _ hn
  omega
theorem tU{r:Qg×Int×List Qg}(h1:Sm r.1)(h2:Nb r.2.1)(hr:r.2.2.length<=20)(h:∀x∈r.2.2,Sm x):(d9 r).length<=800:=by
 obtain⟨_,_,e,_,_,_,_,e0⟩:=dQ
 have:=h2.len
 have:=qD hr h
 unfold Sm at h1
 unfold d9
 simp only[QQ]
 omega
theorem Cq{s:aL}{r1 r2:List (Nat×Int)}(h1:iX (bZ (cD s) (bq s)) (PF (aP s)) [] r1)(h2:iX (bZ (cD s) (bq s)) (PF (aP s)) [] r2):r1=r2:=EI h1.run h2.run
open Classical in
noncomputable def runOf(s:aL):List (Nat×Int):=if h:∃run,iX (bZ (cD s) (bq s)) (PF (aP s)) [] run then h.choose else[]
theorem si{s:aL}{run:List (Nat×Int)}(h:iX (bZ (cD s) (bq s)) (PF (aP s)) [] run):runOf s=run:=by
 unfold runOf
 rw[dif_pos ⟨run,h⟩]
 exact Cq (Exists.choose_spec (⟨run,h⟩:∃run,iX (bZ (cD s) (bq s)) (PF (aP s)) [] run)) h
noncomputable def toldOf(s:aL):List je:=(aX (bq s) (aP s) (runOf s)).map (bT s)
noncomputable def fS(s:aL):aL:=if s.ps=[]\/s.cs=[]then s else d5 s (runOf s)
noncomputable def eU(s:aL):Qg:=if s.ps=[]\/s.cs=[]then "none" else jR (toldOf s) (fE s)
noncomputable def bA.app(s:aL):bA->aL
 |.enrol z=>{s with ps:=s.ps++[(z,0)]}
 |.propose z x=>{s with cs:=s.cs++[(z,x)]}
 |.give x=>uq s x
 |.leave z=>Kx s z (vP s.ps z)
 |.withdraw z=>{s with cs:=s.cs.filter fun p=>decide (p.1≠z),ws:=s.ws.filter fun p=>!decide (p.2=z)}
 |.want v n=>if(v,n)∈s.ws then s else{s with ws:=s.ws++[(v,n)]}
 |.unwant v n=>{s with ws:=s.ws.filter fun p=>!decide (p=(v,n))}
inductive Act where
 |deed (D:bA)
 |close
 |tell (t:Qg)
 |no (cl:Qg)
def yP(z:Qg):Int:=(Wb z).getD 0
def nk(s:aL)(w:Qg):Act:=if w="close" then .close else if w="works" then .tell (jL (s.cs.map (iK s)))else if w="pot" then .tell (iT s.pot)else if w="given" then .tell (iT s.giv)else if w="spent" then .tell (iT s.spt)else .no "NoRow"
noncomputable def act2(s:aL)(w a:Qg):Act:=if w="purse" then(if a∈s.ps.map (·.1)then .tell (iT (vP s.ps a))else .no "NoVoter")else if w="enrol" then .deed (.enrol a)else if w="leave" then .deed (.leave a)else if w="give" then(if iJ a then .deed (.give (yP a))else .no "NoRow")else if w="withdraw" then .deed (.withdraw a)else .no "NoRow"
def se(s:aL)(w a b:Qg):Act:=if w="propose" then(if iJ b then .deed (.propose a (yP b))else .no "NoRow")else if w="want" then .deed (.want a b)else if w="unwant" then .deed (.unwant a b)else .no "NoRow"
noncomputable def Eh(s:aL):List Qg->Act
 |[w]=>nk s w
 |[w,a]=>act2 s w a
 |[w,a,b]=>se s w a b
 |_=>.no "NoRow"
noncomputable def dZ(s:aL)(row:Qg):Act:=if("":Qg)∈Q9 row " " then .no "NoRow" else Eh s (Q9 row " ")
noncomputable def xG(K:Qj)(A:Hp->List Qh->aL->Prop)(H:Hp)(fp:List Qh)(s:aL)(Q:VK)(E:XK):Act->Prop
 |.deed D=>(D.due s=none->∀H' fp',A H' fp' (D.app s)->bS fp H H'->fL fp fp' H->Q (.str "ok") H')/\∀cl,D.due s=some cl->cG K H E cl
 |.close=>∀H' fp',A H' fp' (fS s)->bS fp H H'->fL fp fp' H->Q (.str (eU s)) H'
 |.tell t=>∀H',ar H H'->Q (.str t) H'
 |.no cl=>cG K H E cl
structure ig(s:aL):Prop where
 g:pQ s
 nv:∀p∈s.ps,dE p.1=true
 nc:∀p∈s.cs,dE p.1=true
 pot:Nb s.pot
 giv:Nb s.giv
 spt:Nb s.spt
theorem ka{n:Int}(h0:0<=n)(h:n<=1000000000000):Nb n:=⟨h0,UH h nofun⟩
def cf(K:Qj)(H:Hp)(d:Qh)(fp:List Qh)(s:aL):Prop:=∃dx c fpc,H d=some (.ins (aq K "Desk") dx [("chest",.ref c)])/\aF K H c fpc s/\d∉fpc/\fp=d::fpc
theorem F3{cs:List Int}{rows:List (List Int)}{M:Int}:∀{run:List (Nat×Int)}{ps:List Int}{done:List Nat},ps.length=rows.length->iX (bZ cs rows) (PF ps) done run->(∀i,0<=PF ps i/\PF ps i<=M)->∀x∈aX rows ps run,∀y∈x.2.2,y<=M
 |[],ps,done,hl,h,h0,x,hx,y,hy=>by cases hx
 |(k,L)::r,ps,done,hl,h,h0,x,hx,y,hy=>by
  cases h with
  |step nx ex rest=>
   have hL:=nx.pos
   have hM:0<=M:=Ua (h0 0).1 (h0 0).2
   rw[aX]at hx
   rcases QI.mp hx with rfl|hx
   ·have hy:y∈nD rows ps k L:=hy
    obtain⟨i,_,rfl⟩:=Qu.mp hy
    have h1:=(h0 i).2
    unfold B7
    split<;>omega
   ·refine F3 (by rw[i5];exact hl) (by rw[jh hl];exact rest) (fun i=>?_) x hx y hy
    rw[jh hl]
    exact⟨E2 (h0 i).1,Ua (KG (h0 i).1 (by omega)) (h0 i).2⟩
theorem Jg{s:aL}(G:pQ s):(0:Int)<(fE s:Int)/\((fE s:Nat):Int)<=232792560 ^ 13:=by
 have h1:=gQ s.ps.length (s.cs.length+1)
 have h2:=qz (v:=s.ps.length) (w:=s.cs.length+1) G.v20 (by have:=G.n12;omega)
 unfold fE
 exact⟨by exact_mod_cast h1,h2⟩
theorem LY{s:aL}(G:pQ s):Nb ((fE s:Nat):Int):=⟨TJ (Jg G).1,UH (Jg G).2 nofun⟩
theorem BZ{s:aL}(G:ig s){run:List (Nat×Int)}(rx:iX (bZ (cD s) (bq s)) (PF (aP s)) [] run):
  ∀r∈(aX (bq s) (aP s) run).map (bT s),Sm r.1/\Nb r.2.1/\r.2.2.length<=20/\∀p∈r.2.2,Sm p.1/\Nb p.2:=fun r hr=>by
 obtain⟨x,hx,rfl⟩:=Qu.mp hr
 obtain⟨b1,b2⟩:=(gS rx).2 x hx
 obtain⟨g1,g2⟩:=Jg G.g
 have hm:=getD_mem (xs:=s.cs) ("",0) b1
 have hcb:=G.g.cb _ hm
 refine⟨(ix (G.nc _ hm)).2,ka (by have:=hcb.1;show(0:Int)<=(s.cs.getD x.1 ("",0)).2;omega) hcb.2,?_,fun p hp=>?_⟩
 ·refine Qt (RU _ _) ?_
  rw[List.length_zip,Qw]
  exact Qt (YG _ _) G.g.v20
 ·obtain⟨hz,hpos⟩:=Rb.mp hp
  have hpos:=of_decide_eq_true hpos
  have hpl:(aP s).length=(bq s).length:=by simp[aP,bq]
  obtain⟨z1,z2⟩:=UD hz
  obtain⟨v,hv,e⟩:=Qu.mp z1
  exists ?_,TJ hpos
  ·rw[<-e]
   exact(ix (G.nv v hv)).2
  ·have:=F3 (M:=1000000000000*232792560 ^ 13) hpl rx (fun i=>?_) x hx p.2 z2
   ·exact UH this nofun
   ·by_cases hi:i<s.ps.length
    ·rw[AQ hi]
     have hb:=G.g.p0 _ (getD_mem (xs:=s.ps) ("",0) hi)
     exact⟨Vh hb.1 (TJ g1),Ua (U7 hb.2 (TJ g1)) (XO g2 (by decide))⟩
    ·rw[Ff (by simp[aP];omega)]
     exact⟨Sk _,nofun⟩
def gD(ps:List (Qg×Int)):Int:=(ps.map (·.2)).sum
theorem Ge:∀{ps:List (Qg×Int)},(∀p∈ps,0<=p.2)->0<=gD ps/\∀p∈ps,p.2<=gD ps
 |[],_=>⟨Sk _,fun _ h=>nomatch h⟩
 |q::r,h=>by
  obtain⟨h1,h2⟩:=Ge (ps:=r) fun p hp=>h p (Q2 _ hp)
  have h0:=h q (Ri ..)
  have e:gD (q::r)=q.2+gD r:=by simp[gD]
  refine⟨by omega,fun p hp=>?_⟩
  rcases QI.mp hp with rfl|hp
  ·omega
  ·have:=h2 p hp;omega
theorem CJ(x:Int):∀ps:List (Qg×Int),gD (ps.map fun p=>(p.1,p.2+x))=gD ps+x*ps.length
 |[]=>by simp[gD]
 |q::r=>by
  have:=CJ x r
  simp only[gD,QW,Ry,Rn]at this ⊢
  rw[this]
  have:x*((r.length+1:Nat):Int)=x*(r.length:Int)+x:=by rw[Us,Um];simp
  omega
theorem zU:∀{ps:List (Qg×Int)}{z:Qg},(ps.map (·.1)).Nodup->z∈ps.map (·.1)->gD (ps.filter fun p=>decide (p.1≠z))+vP ps z=gD ps
 |[],_,_,h=>nomatch h
 |q::r,z,nd,h=>by
  have hq:q.1∉r.map (·.1):=(Sb.mp nd).1
  rw[vP]
  by_cases e:q.1=z
  ·subst e
   rw[if_pos rfl,Tt,if_neg ⋯,(SI (p:=fun p:Qg×Int=>decide (p.1≠q.1)) (l:=r)).mpr fun p hp=>decide_eq_true fun z=>hq (Qu.mpr ⟨p,hp,z⟩)]
   simp[gD];omega
  ·have:=zU (ps:=r) (z:=z) (Sb.mp nd).2 (by
    rcases QI.mp h with h|h
    ·exact absurd h.symm e
    ·exact h)
   rw[if_neg e,Tt,if_pos (decide_eq_true e)]
   simp only[gD,QW,Ry]at this ⊢
   omega
structure cM(n:Nat)(s:aL):Prop where
 d:ig s
 nd:(s.ps.map (·.1)).Nodup
 nd2:(s.cs.map (·.1)).Nodup
 w:s.ws.length<=n
 gn:s.giv<=n*1000000000
 co:s.spt+s.pot+gD s.ps=s.giv
theorem cM.of{n:Nat}{s:aL}(hn:n<=900)(v20:s.ps.length<=20)(n12:s.cs.length<=12)(nv:∀p∈s.ps,dE p.1=true)(nc:∀p∈s.cs,dE p.1=true)(aw:∀p∈s.ws,aT p.1/\aT p.2)
  (cb:∀p∈s.cs,1<=p.2/\p.2<=1000000000000) (p0:∀p∈s.ps,0<=p.2) (nd:(s.ps.map (·.1)).Nodup) (nd2:(s.cs.map (·.1)).Nodup) (w:s.ws.length<=n) (gn:s.giv<=n*1000000000) (h1:0<=s.pot) (h2:0<=s.spt) (co:s.spt+s.pot+gD s.ps=s.giv):cM n s:=by
 obtain⟨z1,z2⟩:=Ge p0
 have hn':(n:Int)<=900:=by exact_mod_cast hn
 exact⟨⟨⟨v20,n12,fun p hp=>C4 (nv p hp),fun p hp=>C4 (nc p hp),aw,cb,fun p hp=>⟨p0 p hp,by have:=z2 p hp;omega⟩,Qt w hn⟩,nv,nc,ka h1 (by omega),ka (by omega) (by omega),ka h2 (by omega)⟩,nd,nd2,w,gn,co⟩
theorem cM.up{n m:Nat}{s:aL}(g:cM n s)(h:n<=m):cM m s:=by
 have h1:=g.gn
 have h2:(n:Int)<=m:=by exact_mod_cast h
 exact⟨g.d,g.nd,g.nd2,Qt g.w h,by omega,g.co⟩
theorem vE{zs:List Qg}{z:Qg}(h:zs.Nodup)(n:z∉zs):(zs++[z]).Nodup:=XA.mpr ⟨h,aa4 (fun _ h=>nomatch h) .nil,fun a ha b hb e=>n (by rw[Q8]at hb;rw[<-hb,<-e];exact ha)⟩
theorem cM.app{n:Nat}{s:aL}(g:cM n s)(hn:n+1<=900){D:bA}(hd:D.due s=none):cM (n+1) (D.app s):=by
 have G:=g.d.g
 have hgn:=g.gn
 have hco:=g.co
 have hp0:∀p∈s.ps,0<=p.2:=fun p hp=>(G.p0 p hp).1
 have hw:s.ws.length<=n+1:=Nat.le_succ_of_le g.w
 have hgn1:s.giv<=((n+1:Nat):Int)*1000000000:=by rw[Us];omega
 have same:∀{s':aL},s'.ps=s.ps->s'.pot=s.pot->s'.giv=s.giv->s'.spt=s.spt->s'.cs.length<=12->(∀p∈s'.cs,dE p.1=true/\1<=p.2/\p.2<=1000000000000)->(s'.cs.map (·.1)).Nodup->(∀p∈s'.ws,aT p.1/\aT p.2)->s'.ws.length<=n+1->cM (n+1) s':=fun {s'} e1 e2 e3 e4 h1 h2 h3 h4 h5=>by
  refine cM.of hn (by rw[e1];exact G.v20) h1 (by rw[e1];exact g.d.nv) (fun p hp=>(h2 p hp).1) h4 (fun p hp=>(h2 p hp).2) (by rw[e1];exact hp0) (by rw[e1];exact g.nd) h3 h5 (by rw[e3];exact hgn1) (by rw[e2];exact g.d.pot.1) (by rw[e4];exact g.d.spt.1) (by rw[e1,e2,e3,e4];exact hco)
 have hcs:∀p∈s.cs,dE p.1=true/\1<=p.2/\p.2<=1000000000000:=fun p hp=>⟨g.d.nc p hp,G.cb p hp⟩
 cases D with
 |enrol z=>
  rw[bA.due]at hd
  split at hd
  ·cases hd
  rename_i a1
  split at hd
  ·cases hd
  rename_i a2
  split at hd
  ·cases hd
  rename_i a3
  have hz:dE z=true:=by cases h:dE z<;>simp_all
  have hm:∀p∈s.ps++[(z,0)],dE p.1=true/\0<=p.2:=fun p hp=>by
   rcases Q7.mp hp with h|h
   ·exact⟨g.d.nv p h,hp0 p h⟩
   ·rw[Q8]at h;subst h;exact⟨hz,Sk _⟩
  refine cM.of hn (by simp[bA.app];omega) G.n12 (fun p hp=>(hm p hp).1) g.d.nc G.aw G.cb (fun p hp=>(hm p hp).2) ?_ g.nd2 hw hgn1 g.d.pot.1 g.d.spt.1 ?_
  ·simp only[bA.app,R4,QW,Tq]
   exact vE g.nd a2
  ·simp only[bA.app]
   rw[<-hco]
   simp[gD]
 |propose z x=>
  rw[bA.due]at hd
  split at hd
  ·cases hd
  rename_i a1
  split at hd
  ·cases hd
  rename_i a2
  split at hd
  ·cases hd
  rename_i a3
  split at hd
  ·cases hd
  rename_i a4
  have hz:dE z=true:=by cases h:dE z<;>simp_all
  refine same rfl rfl rfl rfl (by simp[bA.app];omega) (fun p hp=>?_) ?_ G.aw hw
  ·rcases Q7.mp hp with h|h
   ·exact hcs p h
   ·rw[Q8]at h;subst h;exact⟨hz,by omega,by omega⟩
  ·simp only[bA.app,R4,QW,Tq]
   exact vE g.nd2 a2
 |give x=>
  rw[bA.due]at hd
  split at hd
  ·cases hd
  rename_i a1
  have hx:0<=x/\x<=1000000000:=by omega
  have hg:s.giv+x<=((n+1:Nat):Int)*1000000000:=by rw[Us];omega
  have hpot:=g.d.pot.1
  show cM (n+1) (uq s x)
  unfold uq
  split
  ·exact cM.of hn G.v20 G.n12 g.d.nv g.d.nc G.aw G.cb hp0 g.nd g.nd2 hw hg (by show 0<=s.pot+x;omega) g.d.spt.1 (by show s.spt+(s.pot+x)+gD s.ps=s.giv+x;omega)
  ·rename_i hne
   have hl:0<(s.ps.length:Int):=by have:=UB.mpr hne;omega
   have hq0:0<=(s.pot+x)/(s.ps.length:Int):=Xi (by omega) (by omega)
   have hq1:(s.pot+x)/(s.ps.length:Int)*(s.ps.length:Int)<=s.pot+x:=Int.ediv_mul_le _ (by omega)
   generalize (s.pot+x)/(s.ps.length:Int)=q at *
   have hm:∀p∈s.ps.map (fun p=>(p.1,p.2+q)),dE p.1=true/\0<=p.2:=fun p hp=>by
    obtain⟨r,hr,rfl⟩:=Qu.mp hp
    exact⟨g.d.nv r hr,by have:=hp0 r hr;show 0<=r.2+q;omega⟩
   refine cM.of hn (by simp[vI];exact G.v20) G.n12 (fun p hp=>(hm p hp).1) g.d.nc G.aw G.cb (fun p hp=>(hm p hp).2) (by simp only[vI];rw[map_fst];exact g.nd) g.nd2 hw hg (by show 0<=s.pot+x-q*(s.ps.length:Int);omega) g.d.spt.1 ?_
   show s.spt+(s.pot+x-q*(s.ps.length:Int))+gD (s.ps.map fun p=>(p.1,p.2+q))=s.giv+x
   rw[CJ]
   omega
 |leave z=>
  rw[bA.due]at hd
  split at hd
  ·rename_i a1
   have h1:=zU g.nd a1
   have h2:=hp0 _ (qv a1)
   have hpot:=g.d.pot.1
   exact cM.of hn (Qt (RU _ _) G.v20) G.n12 (fun p hp=>g.d.nv p (Rb.mp hp).1) g.d.nc (fun p hp=>G.aw p (Rb.mp hp).1) G.cb (fun p hp=>hp0 p (Rb.mp hp).1) (sI g.nd) g.nd2 (Qt (RU _ _) hw) hgn1 (by show 0<=s.pot+vP s.ps z;omega) g.d.spt.1 (by
    show s.spt+(s.pot+vP s.ps z)+gD (s.ps.filter fun p=>decide (p.1≠z))=s.giv
    omega)
  ·cases hd
 |withdraw z=>
  exact same rfl rfl rfl rfl (Qt (RU _ _) G.n12) (fun p hp=>hcs p (Rb.mp hp).1) (sI g.nd2) (fun p hp=>G.aw p (Rb.mp hp).1) (Qt (RU _ _) hw)
 |want v m=>
  rw[bA.due]at hd
  split at hd
  ·rename_i a1
   split at hd
   ·rename_i a2
    rw[bA.app]
    split
    ·exact same rfl rfl rfl rfl G.n12 hcs g.nd2 G.aw hw
    ·refine same rfl rfl rfl rfl G.n12 hcs g.nd2 (fun p hp=>?_) (by simp;exact g.w)
     rcases Q7.mp hp with h|h
     ·exact G.aw p h
     ·rw[Q8]at h;subst h
      obtain⟨x,hx,e⟩:=Qu.mp a1
      obtain⟨y,hy,e'⟩:=Qu.mp a2
      exact⟨by rw[<-e];exact G.ap x hx,by rw[<-e'];exact G.ac y hy⟩
   ·cases hd
  ·cases hd
 |unwant v m=>
  exact same rfl rfl rfl rfl G.n12 hcs g.nd2 (fun p hp=>G.aw p (Rb.mp hp).1) (Qt (RU _ _) hw)
theorem FJ{g:Int}:∀{l:List Int},g*(l.map (· / g)).sum+(l.map (· % g)).sum=l.sum
 |[]=>by simp
 |x::l=>by
  have:=FJ (g:=g) (l:=l)
  have:=VE x g
  simp only[QW,Ry,Um]at *
  omega
theorem ya(g:Int):∀l:List Int,(l.map (· * g)).sum=l.sum*g
 |[]=>by simp
 |x::l=>by rw[QW,Ry,Ry,ya g l,Vw]
theorem Ai{rows:List (List Int)}:∀{run:List (Nat×Int)}{ps:List Int},(aX rows ps run).map (·.1)=run.map (·.1)
 |[],_=>rfl
 |(k,L)::r,ps=>by rw[aX,QW,QW,Ai]
theorem cM.closed{n:Nat}{s:aL}(g:cM n s)(hn:n<=900){run:List (Nat×Int)}(rx:iX (bZ (cD s) (bq s)) (PF (aP s)) [] run):cM n (d5 s run):=by
 have GC:=g.d.g.closed rx
 have G:=g.d.g
 have g0:0<(fE s:Int):=by exact_mod_cast gQ s.ps.length (s.cs.length+1)
 have hnm:=sD (s:=s) (run:=run)
 have hd:=IW rx
 have hsum:=tN (by simp[aP,bq]) rx
 rw[<-iP]at hsum
 have hco:=g.co
 have e1:(aP s).sum=gD s.ps*(fE s:Int):=by
  unfold aP gD
  rw[<-ya,QR];rfl
 have e2:(run.map fun x=>(bZ (cD s) (bq s)).c x.1).sum=(((aX (bq s) (aP s) run).map (bT s)).map (·.2.1)).sum*(fE s:Int):=by
  rw[<-ya,QR,QR]
  have e3:(run.map fun x=>(bZ (cD s) (bq s)).c x.1)=(run.map (·.1)).map (bZ (cD s) (bq s)).c:=by rw[QR];rfl
  rw[e3,<-Ai (rows:=bq s) (ps:=aP s),QR]
  exact congrArg List.sum (Tc fun x hx=>LM ((gS rx).2 x hx).1)
 have e4:=FJ (g:=(fE s:Int)) (l:=bY (aP s) (aX (bq s) (aP s) run))
 obtain⟨k,hk⟩:=hd
 have e5:gD (d5 s run).ps=((bY (aP s) (aX (bq s) (aP s) run)).map (· / (fE s:Int))).sum:=by
  show gD ((s.ps.map (·.1)).zip _)=_
  unfold gD
  rw[List.map_snd_zip (by rw[Qw,Qw,qq];simp[aP])]
 have e6:(d5 s run).pot=s.pot+k:=by
  show s.pot+_/(fE s:Int)=_
  rw[hk,Int.mul_ediv_cancel_left _ (by omega)]
 have e7:(d5 s run).spt=s.spt+(((aX (bq s) (aP s) run).map (bT s)).map (·.2.1)).sum:=rfl
 have k0:0<=k:=by
  have h1:0<=(fE s:Int)*k:=by
   rw[<-hk]
   exact qQ fun x hx=>by
    obtain⟨y,_,rfl⟩:=Qu.mp hx
    exact S0 _ (by omega)
  exact Int.nonneg_of_mul_nonneg_right h1 g0
 have c0:0<=(((aX (bq s) (aP s) run).map (bT s)).map (·.2.1)).sum:=qQ fun x hx=>by
  obtain⟨y,hy,rfl⟩:=Qu.mp hx
  obtain⟨z,hz,rfl⟩:=Qu.mp hy
  have:=(G.cb _ (getD_mem (xs:=s.cs) ("",0) ((gS rx).2 z hz).1)).1
  show 0<=(s.cs.getD z.1 ("",0)).2
  omega
 generalize (((aX (bq s) (aP s) run).map (bT s)).map (·.2.1)).sum=C at *
 generalize (bY (aP s) (aX (bq s) (aP s) run)).sum=Z at *
 generalize ((bY (aP s) (aX (bq s) (aP s) run)).map (· / (fE s:Int))).sum=D at *
 generalize ((bY (aP s) (aX (bq s) (aP s) run)).map (· % (fE s:Int))).sum=M at *
 have key:D+k+C=gD s.ps:=by
  have:(fE s:Int)*(D+k+C)=(fE s:Int)*gD s.ps:=by
   rw[Um,Um,Ud _ C,Ud _ (gD s.ps),<-e2,<-e1]
   omega
  exact Int.eq_of_mul_eq_mul_left (by omega) this
 refine cM.of hn GC.v20 GC.n12 (fun p hp=>?_) (fun p hp=>g.d.nc p (Rb.mp hp).1) GC.aw GC.cb (fun p hp=>(GC.p0 p hp).1) (by rw[hnm];exact g.nd) (sI g.nd2) (Qt (RU _ _) g.w) g.gn (by have:=g.d.pot.1;omega) (by have:=g.d.spt.1;omega) ?_
 ·have:p.1∈s.ps.map (·.1):=by rw[<-hnm];exact Qu.mpr ⟨p,hp,rfl⟩
  obtain⟨r,hr,e⟩:=Qu.mp this
  rw[<-e];exact g.d.nv r hr
 ·rw[e5,e6,e7]
  show s.spt+C+(s.pot+k)+D=s.giv
  omega
theorem cM.close{n:Nat}{s:aL}(g:cM n s)(hn:n<=900):cM n (fS s):=by
 unfold fS
 split
 ·exact g
 ·by_cases h:∃run,iX (bZ (cD s) (bq s)) (PF (aP s)) [] run
  ·obtain⟨run,rx⟩:=h
   rw[si rx]
   exact g.closed hn rx
  ·rw[show runOf s=[]from dif_neg h,Df]
   exact g
theorem FO{D:bA}{s:aL}{cl:Qg}(h:D.due s=some cl):cl="NoName"\/cl="Twice"\/cl="NoVoter"\/cl="NoWork"\/cl="TooMuch"\/cl="Full":=by
 cases D<;>simp only[bA.due]at h<;>(repeat' split at h)<;>cases h<;>simp
inductive NY where
 |txt (t:Qg)
 |kin (cl:Qg)
noncomputable def iL(s:aL):Act->NY
 |.deed D=>match D.due s with
  |none=>.txt "ok"
  |some cl=>.kin cl
 |.close=>.txt (eU s)
 |.tell t=>.txt t
 |.no cl=>.kin cl
noncomputable def kD(s:aL):Act->aL
 |.deed D=>match D.due s with
  |none=>D.app s
  |some _=>s
 |.close=>fS s
 |.tell _=>s
 |.no _=>s
def jF(kf:Qg->List Bool)(H H':Hp)(v:V):NY->Prop
 |.txt t=>v=.str t
 |.kin cl=>∃l,v=.ref l/\H l=none/\H' l=some (.lst ((kf cl).map V.bl))
theorem J9{K:Qj}{A:Hp->List Qh->aL->Prop}{H:Hp}{fp:List Qh}{s:aL}{Q:VK}{E:XK}{act:Act}(hA:∀H',ar H H'->A H' fp s)(hn:∀H' fp' t,A H' fp' (kD s act)->bS fp H H'->fL fp fp' H->iL s act=.txt t->Q (.str t) H')(hx:∀cl,iL s act=.kin cl->cG K H E cl):xG K A H fp s Q E act:=by
 cases act with
 |deed D=>
  refine⟨fun hd H' fp' a b w=>hn H' fp' "ok" (by simp only[kD,hd];exact a) b w (by simp only[iL,hd]),fun cl hd=>hx cl (by simp only[iL,hd])⟩
 |close=>exact fun H' fp' a b w=>hn H' fp' _ a b w rfl
 |tell t=>exact fun H' s'=>hn H' fp _ (hA H' s') (bS.of s') fL.refl rfl
 |no cl=>exact hx cl rfl
theorem cf.but{K:Qj}{H H':Hp}{d:Qh}{fp l:List Qh}{s:aL}(x:cf K H d fp s)(b:bS l H H')(n:∀a∈fp,a∉l):cf K H' d fp s:=by
 obtain⟨dx,c,fpc,hd,ch,nd,rfl⟩:=x
 exact⟨dx,c,fpc,b.1 _ _ (n d (Ri ..)) hd,ch.but b fun a ha=>n a (Q2 _ ha),nd,rfl⟩
theorem cf.same{K:Qj}{H H':Hp}{d:Qh}{fp:List Qh}{s:aL}(x:cf K H d fp s)(b:ar H H'):cf K H' d fp s:=x.but (bS.of (l:=[]) b) ⋯
theorem cf.there{K:Qj}{H:Hp}{d:Qh}{fp:List Qh}{s:aL}(x:cf K H d fp s):∀a∈fp,H a≠none:=by
 obtain⟨dx,c,fpc,hd,ch,nd,rfl⟩:=x
 intro a ha
 rcases QI.mp ha with rfl|ha
 ·rw[hd];exact fun z=>nomatch z
 ·exact ch.there a ha
theorem FY{s:aL}{row cl:Qg}(h:iL s (dZ s row)=.kin cl):cl="NoName"\/cl="Twice"\/cl="NoVoter"\/cl="NoWork"\/cl="TooMuch"\/cl="Full"\/cl="NoRow":=by
 have hact:∀cl,dZ s row=.no cl->cl="NoVoter"\/cl="NoRow":=fun cl h=>by
  unfold dZ at h
  split at h
  ·cases h;exact .inr rfl
  ·unfold Eh at h
   split at h
   ·unfold nk at h
    (repeat' split at h)<;>cases h
    exact .inr rfl
   ·unfold act2 at h
    (repeat' split at h)<;>cases h<;>first|exact .inl rfl|exact .inr rfl
   ·unfold se at h
    (repeat' split at h)<;>cases h<;>exact .inr rfl
   ·cases h;exact .inr rfl
 cases e:dZ s row with
 |deed D=>
  rw[e]at h
  simp only[iL]at h
  split at h
  ·cases h
  ·rename_i c hd
   cases h
   rcases FO hd with h|h|h|h|h|h<;>simp[h]
 |close=>rw[e]at h;cases h
 |tell t=>rw[e]at h;cases h
 |no c=>
  rw[e]at h
  cases h
  rcases hact cl e with h|h<;>simp[h]
theorem cM.next{n:Nat}{s:aL}(g:cM n s)(hn:n+1<=900)(a:Act):cM (n+1) (kD s a):=by
 cases a with
 |deed D=>
  simp only[kD]
  split
  ·rename_i hd;exact g.app hn hd
  ·exact g.up (RM _)
 |close=>exact(g.close (by omega)).up (RM _)
 |tell t=>exact g.up (RM _)
 |no cl=>exact g.up (RM _)
theorem L5:∀{p q A B:List Nat},p++32::A=q++32::B->32∉p->32∉q->p=q/\A=B
 |[],[],A,B,h,_,_=>⟨rfl,(Vj h).2⟩
 |[],c::q,A,B,h,_,hq=>absurd (QI.mpr (.inl (Vj h).1)) hq
 |c::p,[],A,B,h,hp,_=>absurd (QI.mpr (.inl (Vj h).1.symm)) hp
 |c::p,e::q,A,B,h,hp,hq=>by
  obtain⟨h1,h2⟩:=Vj h
  obtain⟨h3,h4⟩:=L5 h2 (fun z=>hp (Q2 _ z)) fun z=>hq (Q2 _ z)
  exact⟨by rw[h1,h3],h4⟩
theorem zI:∀{ps qs:List (List Nat)},ps≠[]->qs≠[]->(∀p∈ps,32∉p)->(∀p∈qs,32∉p)->fM ps=fM qs->ps=qs
 |[],_,h,_,_,_,_=>absurd rfl h
 |_::_,[],_,h,_,_,_=>absurd rfl h
 |[p],[q],_,_,_,_,h=>by rw[show p=q from h]
 |[p],q::q2::r,_,_,hp,_,h=>absurd (show 32∈p by rw[show p=q++32::fM (q2::r)from h];simp) (hp p ⋯)
 |p::p2::r,[q],_,_,_,hq,h=>absurd (show 32∈q by rw[<-show p++32::fM (p2::r)=q from h];simp) (hq q ⋯)
 |p::p2::r,q::q2::r2,_,_,hp,hq,h=>by
  obtain⟨h1,h2⟩:=L5 (show p++32::fM (p2::r)=q++32::fM (q2::r2)from h) (hp p ⋯) (hq q ⋯)
  rw[h1,zI ⋯ ⋯ (fun x hx=>hp x (Q2 _ hx)) (fun x hx=>hq x (Q2 _ hx)) h2]
def Wd(z:Qg):Prop:=z.length<=40/\∀c∈z.cps.toList,c<128/\c≠32
theorem Wd.asc{z:Qg}(h:Wd z):aT z:=dG.mpr fun c hc=>(h.2 c hc).1
theorem Du{ws:List Qg}(h:ws≠[])(f:∀w∈ws,Wd w):Q9 (Q3 " " ws) " "=ws:=by
 rw[Dm]
 have e:fM ((Q9 (Q3 ⟨#[32]⟩ ws) ⟨#[32]⟩).map (·.cps.toList))=fM (ws.map (·.cps.toList)):=by rw[<-kP,Vx,kP]
 have:=zI (fun e=>IL _ _ (YU.mp e)) (fun e=>h (YU.mp e)) (fun p hp=>by
  obtain⟨x,hx,rfl⟩:=Qu.mp hp
  exact aak _ 32 x hx) (fun p hp=>by
  obtain⟨x,hx,rfl⟩:=Qu.mp hp
  exact fun z=>((f x hx).2 32 z).2 rfl) e
 exact(YX fun x y hxy=>eD.mpr hxy).mp this
theorem gJ{s:aL}{ws:List Qg}(h:ws≠[])(f:∀w∈ws,Wd w):dZ s (Q3 " " ws)=if("":Qg)∈ws then .no "NoRow" else Eh s ws:=by
 unfold dZ
 rw[Du h f]
theorem kO{ws:List Qg}(hl:ws.length<=20)(f:∀w∈ws,Wd w):Tx (Q3 " " ws):=by
 exists fw (dG.mpr (by rw[Dm];simp)) fun x hx=>(f x hx).asc
 have:=gy (sep:=" ") (m:=40) (xs:=ws) fun x hx=>(f x hx).1
 rw[dQ.2.2.1]at this
 have:ws.length*(40+1)<=20*41:=RY _ hl
 omega
def W1:List Qg:=["close","works","pot","given","spent"]
theorem Pe{s:aL}{w:Qg}(h:w∉W1):nk s w=.no "NoRow":=by
 simp only[W1,QI,RD,or_false,not_or]at h
 obtain⟨h1,h2,h3,h4,h5⟩:=h
 rw[nk,if_neg h1,if_neg h2,if_neg h3,if_neg h4,if_neg h5]
def Ec(ws:List Qg):Prop:=∀s,dZ s (Q3 " " ws)=.no "NoRow"
theorem De{ws:List Qg}(h:ws≠[])(f:∀w∈ws,Wd w)(g:∀s,Eh s ws=.no "NoRow"):Ec ws:=fun s=>by rw[gJ h f,g s];split<;>rfl
def WA:List Qg:=(["enrol","leave","give","propose","withdraw","want","unwant"]:List Qg)++(["close","purse","pot","given","spent","works"]:List Qg)
def P7(n o:Qg):List (List Qg):=["enrol",n]::["leave",n]::["give","5"]::["propose",n,"7"]::["withdraw",n]::["close"]::[["want",n,o],["unwant",n,o],["purse",n],["pot"],["works"],["spent"]]
def KA(n o:Qg):List (List Qg):=P7 n o++([["given"]]:List (List Qg))
theorem Dl{n o:Qg}{g:List Qg}(h:g∈KA n o):g=(["enrol",n]:List Qg)\/g=(["leave",n]:List Qg)\/g=(["give","5"]:List Qg)\/g=(["propose",n,"7"]:List Qg)\/g=(["withdraw",n]:List Qg)\/g=(["close"]:List Qg)\/g=(["want",n,o]:List Qg)\/g=(["unwant",n,o]:List Qg)\/g=(["purse",n]:List Qg)\/g=(["pot"]:List Qg)\/g=(["works"]:List Qg)\/g=(["spent"]:List Qg)\/g=(["given"]:List Qg):=by
 simpa[KA,P7]using h
theorem o4:(∀w∈WA,Wd w)/\Wd "5"/\Wd "7"/\Wd "rows"/\Wd ""/\Wd "\t"/\Wd "\n":=by
 unfold Wd
 decide +kernel
theorem FI{n o:Qg}{g:List Qg}(h:g∈KA n o):∃w r,g=w::r/\w∈WA/\(∀x∈r,x=n\/x=o\/x="5"\/x="7")/\r.length<=2:=by
 rcases Dl h with rfl|rfl|rfl|rfl|rfl|rfl|rfl|rfl|rfl|rfl|rfl|rfl|rfl<;>exact⟨_,_,rfl,nofun,⋯,⋯⟩
theorem OI{n o:Qg}(hn:Wd n)(ho:Wd o){g:List Qg}(h:g∈KA n o):∀x∈g,Wd x:=fun x hx=>by
 obtain⟨w,r,rfl,hw,hr,_⟩:=FI h
 obtain⟨a,b,c,_⟩:=o4
 rcases QI.mp hx with rfl|hx
 ·exact a _ hw
 ·rcases hr x hx with rfl|rfl|rfl|rfl
  ·exact hn
  ·exact ho
  ·exact b
  ·exact c
theorem Pm{n z:Qg}(hn:Wd n)(hz:Wd z)(hb:iJ z=false):Ec ["give",z]/\Ec ["propose",n,z]:=by
 have a:=o4.1
 refine⟨De ⋯ (fun x hx=>?_) fun s=>?_,De ⋯ (fun x hx=>?_) fun s=>?_⟩
 ·simp at hx
  rcases hx with rfl|rfl
  ·exact a _ nofun
  ·exact hz
 ·show act2 s "give" z=_
  rw[act2,if_neg nofun,if_neg nofun,if_neg nofun,if_pos rfl,hb];rfl
 ·simp at hx
  rcases hx with rfl|rfl|rfl
  ·exact a _ nofun
  ·exact hn
  ·exact hz
 ·show se s "propose" n z=_
  rw[se,if_pos rfl,hb];rfl
theorem B3{a b:Qg}(ha:Wd a)(hb:Wd b)(h:a.length+b.length<=40):Wd (a++b):=by
 refine⟨by rw[QQ];exact h,fun c hc=>?_⟩
 rw[c6]at hc
 rcases Q7.mp hc with hc|hc
 ·exact ha.2 c hc
 ·exact hb.2 c hc
def II(x:Int):Qg:=if x%2=0 then "\t" else "\n"
theorem LO(x:Int):Wd (II x)/\(II x).length=1:=by
 obtain⟨_,_,_,_,_,h1,h2⟩:=o4
 unfold II
 split
 ·exact⟨h1,nofun⟩
 ·exact⟨h2,nofun⟩
theorem C8{zs:List Qg}{x:Int}{n:Nat}(hn:zs.length=n)(h0:0<n):∃z∈zs,BF (zs.map V.str) (x%(n:Int))=some (.str z):=by
 have h1:0<=x%(n:Int):=S0 _ (by omega)
 have h2:x%(n:Int)<n:=Uk _ (by omega)
 have h3:(x%(n:Int)).toNat<zs.length:=by omega
 exists zs[(x%(n:Int)).toNat],Sz h3
 have:=bI (xs:=zs.map V.str) (j:=(x%(n:Int)).toNat) (v:=.str zs[(x%(n:Int)).toNat]) (by simp[h3])
 rwa [UO h1]at this
theorem Na:∀c:Fin 123,97<=c.val->SG c.val=[c.val-32]:=nofun
theorem Oc{c:Nat}(h:isLet c=true):SG c=[c-32]:=by
 unfold isLet at h
 simp only[Rj,decide_eq_true_eq]at h
 exact Na ⟨c,by omega⟩ h.1
theorem FW{z:Qg}(h:∀c∈z.cps.toList,isLet c=true):(Mb z).cps.toList=z.cps.toList.map (· - 32):=by
 show((Array.mapIdx (fun _ c=>(SG c).toArray) z.cps).flatten).toList=_
 rw[Array.toList_flatten,Array.toList_mapIdx]
 generalize z.cps.toList=l at h
 have:∀(l:List Nat),(∀c∈l,isLet c=true)->(RO XS (l.map fun c=>(SG c).toArray)).flatten=l.map (· - 32):=fun l=>by
  induction l with
  |nil=>intro _;rfl
  |cons c r ih=>
   intro h
   rw[QW,QW,List.flatten_cons,ih fun x hx=>h x (Q2 _ hx),Oc (h c (Ri ..))]
   rfl
 rw[<-this l h]
 have e:List.mapIdx (fun _ c=>(SG c).toArray) l=l.map fun c=>(SG c).toArray:=by
  apply Tv<;>simp
 rw[e]
theorem IM{z:Qg}(h:∀c∈z.cps.toList,isLet c=true):(Mb z).length=z.length:=by rw[<-bE,<-bE,FW h,Qw]
theorem OQ{z:Qg}(h:∀c∈z.cps.toList,isLet c=true):∀c∈(Mb z).cps.toList,65<=c/\c<91:=fun c hc=>by
 rw[FW h]at hc
 obtain⟨d,hd,rfl⟩:=Qu.mp hc
 have:=h d hd
 unfold isLet at this
 simp only[Rj,decide_eq_true_eq]at this
 show 65<=d-32/\d-32<91
 omega
theorem Ls{z:Qg}{H:Hp}{Q:VK}(h:∀c∈z.cps.toList,isLet c=true)(hl:z.length<=1000)(q:Q (.str (Mb z)) H):D8 (.str z) [] H Q:=by
 have e:=IM h
 refine⟨z,rfl,rfl,?_,by rw[e,size_eq];omega,q⟩
 have e2:(PySem.placed z fun _ c=>SG c).size=z.length:=e
 rw[e2]
 exact decide_eq_false (by rw[size_eq];omega)
theorem Pb{H:Hp}{Q:VK}{y:Int}(q:Q (.str (II y)) H):yM (.str "\t\n") (.int (y%2)) H Q:=by
 have e:("\t\n":Qg).cps.toList=[9,10]:=nofun
 have h1:("\t":Qg)=⟨#[9]⟩:=nofun
 have h2:("\n":Qg)=⟨#[10]⟩:=nofun
 refine⟨"\t\n",_,if y%2=0 then 9 else 10,rfl,rfl,by rw[size_eq];decide +kernel,?_,?_⟩
 ·rw[e]
  by_cases h:y%2=0
  ·rw[h];rfl
  ·rw[show y%2=1 by omega];rfl
 ·unfold II at q
  split at q
  ·rename_i h;rw[if_pos h,<-h1];exact q
  ·rename_i h;rw[if_neg h,<-h2];exact q
def Ir(ns:List Qg)(r:Qg):Prop:=Tx r/\∀s z,dZ s r=.deed (.enrol z)->z∈ns
theorem E3{s:aL}{ws:List Qg}{z:Qg}(h:Eh s ws=.deed (.enrol z)):ws=(["enrol",z]:List Qg):=by
 unfold Eh at h
 split at h
 ·unfold nk at h
  (repeat' split at h)<;>cases h
 ·rename_i w a
  unfold act2 at h
  (repeat' split at h)<;>cases h
  rename_i e
  rw[e]
 ·unfold se at h
  (repeat' split at h)<;>cases h
 ·cases h
theorem L0{ns ws:List Qg}(h:ws≠[])(f:∀w∈ws,Wd w)(hl:ws.length<=20)(he:∀z,ws=(["enrol",z]:List Qg)->z∈ns):Ir ns (Q3 " " ws):=⟨kO hl f,fun s z hz=>by
 rw[gJ h f]at hz
 split at hz
 ·cases hz
 ·exact he z (E3 hz)⟩
theorem Ni{n:Int}{k:Nat}(h0:0<=n)(hk:0<k)(h:n<10 ^ k)(k40:k<=40):Wd (iT n):=by
 refine⟨Qt (AJ h0 hk h) k40,fun c hc=>?_⟩
 obtain⟨m,rfl⟩:=To h0
 rw[me]at hc
 obtain⟨d,hd,rfl⟩:=Qu.mp hc
 have:=V0 (b:=10) (n:=m) (by decide) (by decide) hd
 unfold VF at this
 simp only[Rj,decide_eq_true_eq]at this
 have h1:48<=d.toNat:=this.1
 have h2:d.toNat<=57:=this.2
 omega
theorem IQ{z:Qg}(h:dE z=true):Wd z:=by
 refine⟨by have:=(ix h).2;omega,fun c hc=>?_⟩
 unfold dE at h
 simp only[Rj]at h
 have:=RL.mp h.2 c hc
 unfold isLet at this
 simp only[Rj,decide_eq_true_eq]at this
 omega
theorem Hm(a b c:Qg):a++b++c=a++(b++c):=eD.mpr (by simp only[c6,YT])
theorem LA{w w' a:Qg}(h:w'=w++" "):w'++a=Q3 " " [w,a]:=by rw[h];rfl
theorem Ob{w w' a b:Qg}(h:w'=w++" "):w'++a++" "++b=Q3 " " [w,a,b]:=by
 rw[h]
 show w++" "++a++" "++b=w++" "++(a++" "++b)
 simp only[Hm]
theorem vN:Wd "enrol"/\Wd "give"/\Wd "propose"/\Wd "want"/\Wd "purse"/\Wd "close":=by
 have:=o4.1
 exact⟨this _ nofun,this _ nofun,this _ nofun,this _ nofun,this _ nofun,this _ nofun⟩
theorem NR{ns:List Qg}{z:Qg}(h:Wd z)(hz:z∈ns):Ir ns (("enrol ":Qg)++z):=by
 rw[LA (w:="enrol") nofun]
 exact L0 ⋯ (by simp[vN,h]) ⋯ (fun y e=>by
  have e:z=y:=by simpa using e
  rw[<-e];exact hz)
theorem Ol{i:Int}{H:Hp}{Q:VK}(h0:0<=i)(h:i<=1000000000000)(q:Q (.str (iT i)) H):iH [.int i] H Q:=iq (ka h0 h).log q
theorem fY{n:Int}(h0:0<=n):aT (iT n):=dG.mpr fun c hc=>by
 obtain⟨m,rfl⟩:=To h0
 rw[me]at hc
 obtain⟨d,hd,rfl⟩:=Qu.mp hc
 have:=V0 (b:=10) (n:=m) (by decide) (by decide) hd
 unfold VF at this
 simp only[Rj,decide_eq_true_eq]at this
 have h2:d.toNat<=57:=this.2
 omega
theorem nG:aT QO/\aT " "/\aT ", "/\aT "; "/\aT ": "/\aT " of "/\aT "+"/\aT "-"/\aT "none"/\aT "ok":=by
 unfold aT
 decide +kernel
theorem wV{p:Qg×Int}(h1:aT p.1)(h2:0<=p.2):aT (oP p):=by
 obtain⟨e0,e1,_⟩:=nG
 exact bg (bg (bg e0 h1) e1) (fY h2)
theorem uy{rs:List je}{g:Int}(hg:0<=g)(h:∀r∈rs,aT r.1/\0<=r.2.1/\∀p∈r.2.2,aT p.1/\0<=p.2):aT (jR rs g):=by
 obtain⟨e0,e1,e2,e3,e4,e5,e6,e7,e8,_⟩:=nG
 unfold jR
 split
 ·exact e8
 ·refine bg (bg (bg e0 (fw e3 fun x hx=>?_)) e5) (fY hg)
  obtain⟨r,hr,rfl⟩:=Qu.mp hx
  obtain⟨z1,z2,z3⟩:=h r hr
  refine bg (bg (bg (bg (bg e0 z1) e1) (fY z2)) e4) (fw e2 fun x hx=>?_)
  obtain⟨p,hp,rfl⟩:=Qu.mp hx
  exact wV (z3 p hp).1 (z3 p hp).2
theorem sC{rs:List (Qg×Int×List Qg)}(h:∀r∈rs,aT r.1/\0<=r.2.1/\∀x∈r.2.2,aT x):aT (jL rs):=by
 obtain⟨e0,e1,e2,e3,e4,e5,e6,e7,e8,_⟩:=nG
 unfold jL
 split
 ·exact e8
 ·refine fw e2 fun x hx=>?_
  obtain⟨r,hr,rfl⟩:=Qu.mp hx
  obtain⟨z1,z2,z3⟩:=h r hr
  refine bg (bg (bg (bg (bg e0 z1) e1) (fY z2)) e1) ?_
  unfold qY
  split
  ·exact e7
  ·exact fw e6 z3
theorem oS{s:aL}(G:ig s){row t:Qg}(h:iL s (dZ s row)=.txt t):aT t:=by
 obtain⟨_,_,_,_,_,_,_,_,e8,e9⟩:=nG
 have ht:∀t,dZ s row=.tell t->aT t:=fun t ht=>by
  unfold dZ at ht
  split at ht
  ·cases ht
  ·unfold Eh at ht
   split at ht
   ·unfold nk at ht
    (repeat' split at ht)<;>cases ht
    ·exact sC fun r hr=>by
      obtain⟨p,hp,rfl⟩:=Qu.mp hr
      exact⟨G.g.ac p hp,by have:=(G.g.cb p hp).1;show 0<=p.2;omega,fun x hx=>by
       have hx:x∈(s.ps.map (·.1)).filter _:=hx
       obtain⟨v,hv,rfl⟩:=Qu.mp (Rb.mp hx).1
       exact G.g.ap v hv⟩
    ·exact fY G.pot.1
    ·exact fY G.giv.1
    ·exact fY G.spt.1
   ·unfold act2 at ht
    (repeat' split at ht)<;>cases ht
    rename_i hm
    exact fY (G.g.p0 _ (qv hm)).1
   ·unfold se at ht
    (repeat' split at ht)<;>cases ht
   ·cases ht
 cases e:dZ s row with
 |deed D=>
  rw[e]at h
  simp only[iL]at h
  split at h<;>cases h
  exact e9
 |close=>
  rw[e]at h
  cases h
  unfold eU
  split
  ·exact e8
  ·by_cases hr:∃run,iX (bZ (cD s) (bq s)) (PF (aP s)) [] run
   ·obtain⟨run,rx⟩:=hr
    refine uy (WD _) fun r hr=>?_
    unfold toldOf at hr
    rw[si rx]at hr
    obtain⟨a1,a2⟩:=wZ G.g (fun x hx=>((gS rx).2 x hx).1) r hr
    obtain⟨b1,b2,b3,b4⟩:=BZ G rx r hr
    exact⟨a1,b2.1,fun p hp=>⟨a2 p hp,(b4 p hp).2.1⟩⟩
   ·have e0:toldOf s=[]:=by unfold toldOf;rw[show runOf s=[]from dif_neg hr];rfl
    rw[e0]
    exact uy (WD _) fun r hr=>nomatch hr
 |tell t'=>
  rw[e]at h
  cases h
  exact ht t e
 |no c=>rw[e]at h;cases h
def Hv(kf:Qg->List Bool):NY->QY
 |.txt t=>.str t
 |.kin cl=>.list ((kf cl).map Vn)
theorem o6{K:Qj}{H:Hp}:∀bs:List Bool,DatAll K H (bs.map V.bl) (bs.map Vn)
 |[]=>.nil
 |b::r=>.cons (.bl b) (o6 r)
theorem jF.dat{K:Qj}{kf:Qg->List Bool}{H0 H:Hp}{v:V}:∀{a:NY},jF kf H0 H v a->dW K H v (Hv kf a)
 |.txt t,h=>by cases h;exact .str t
 |.kin cl,h=>by
  obtain⟨l,rfl,_,e⟩:=h
  exact .lst (bo.of e) (o6 _)
def yq(n:Nat)(d:QY):Prop:=d.canLay0=true/\d.depth<=n
theorem yq.shaped{n:Nat}{d:QY}(h:yq n d)(hn:n<=64):Sr d=true:=by
 unfold Sr
 rw[h.1,decide_eq_true (show d.depth<=64 by have:=h.2;omega)]
 rfl
theorem Jh{n:Nat}:∀{ds:List QY},(∀d∈ds,yq n d)->S1 ds=true/\Tj ds<=n
 |[],_=>by simp[S1,Tj]
 |x::xs,h=>by
  obtain⟨h1,h2⟩:=h x Ri
  obtain⟨h3,h4⟩:=Jh fun y hy=>h y (Q2 _ hy)
  rw[S1,h1,h3,Tj]
  exact⟨rfl,by omega⟩
theorem Lk{n:Nat}{ds:List QY}(h:∀d∈ds,yq n d):yq (n+1) (.list ds):=by
 obtain⟨h1,h2⟩:=Jh h
 exact⟨by rw[R6];exact h1,by rw[SJ];omega⟩
theorem CI(bs:List Bool):yq 1 (.list (bs.map Vn)):=Lk fun d hd=>by
 obtain⟨b,_,rfl⟩:=Qu.mp hd
 exact⟨by rw[R6],by simp[SJ]⟩
theorem wD{kf:Qg->List Bool}{s:aL}(G:ig s){row:Qg}:yq 1 (Hv kf (iL s (dZ s row))):=by
 cases e:iL s (dZ s row)with
 |txt t=>exact⟨by rw[Hv,R6];exact jT (oS G e),by simp[Hv,SJ]⟩
 |kin cl=>exact CI _
theorem jF.but{kf:Qg->List Bool}{H0 H H':Hp}{v:V}{fp:List Qh}(b:bS fp H H')(n:∀l,v=.ref l->l∉fp):∀{a:NY},jF kf H0 H v a->jF kf H0 H' v a
 |.txt _,h=>h
 |.kin _,h=>by
  obtain⟨l,rfl,f,e⟩:=h
  exact⟨l,rfl,f,b.1 _ _ (n l rfl) e⟩
noncomputable def Ii(K:Qj)(H0 H:Hp)(d1 d2:Qh)(s1 s2:aL)(L:List (Qh×List V)):Prop:=∃fp1 fp2,cf K H d1 fp1 s1/\cf K H d2 fp2 s2/\(∀a∈fp1,a∉fp2)/\(∀a∈fp1,H0 a=none)/\(∀a∈fp2,H0 a=none)/\ar H0 H/\∀p∈L,H p.1=some (.lst p.2)/\p.1∉fp1/\p.1∉fp2
theorem Ii.flip{K:Qj}{H0 H:Hp}{d1 d2:Qh}{s1 s2:aL}{L:List (Qh×List V)}(t:Ii K H0 H d1 d2 s1 s2 L):Ii K H0 H d2 d1 s2 s1 L:=by
 obtain⟨fp1,fp2,a1,a2,dj,z1,z2,s0,hL⟩:=t
 exact⟨fp2,fp1,a2,a1,fun a h2 h1=>dj a h1 h2,z2,z1,s0,fun p hp=>⟨(hL p hp).1,(hL p hp).2.2,(hL p hp).2.1⟩⟩
theorem Ii.one{K:Qj}{H0 H:Hp}{d1 d2:Qh}{s1 s2:aL}{L:List (Qh×List V)}(t:Ii K H0 H d1 d2 s1 s2 L):∃fp,cf K H d1 fp s1/\(∀p∈L,p.1∉fp)/\(∀l,H l=none->l∉fp)/\∀H' fp' s' E,cf K H' d1 fp' s'->bS fp H H'->fL fp fp' H->(∀p∈E,H' p.1=some (.lst p.2)/\p.1∉fp'/\H p.1=none)->Ii K H0 H' d1 d2 s' s2 (E++L):=by
 obtain⟨fp1,fp2,a1,a2,dj,z1,z2,s0,hL⟩:=t
 refine⟨fp1,a1,fun p hp=>(hL p hp).2.1,fun l hl z=>a1.there _ z hl,fun H' fp' s' E a b w hE=>?_⟩
 have nw:∀x o,H x=some o->x∉fp1->x∉fp':=fun x o hx h1 h2=>by
  rcases w x h2 with h|h
  ·exact h1 h
  ·rw[hx]at h;cases h
 refine⟨fp',fp2,a,a2.but b fun x hx h1=>dj x h1 hx,fun x h1 h2=>?_,fun x h1=>?_,z2,Jr s0 b z1,fun p hp=>?_⟩
 ·rcases w x h1 with h|h
  ·exact dj x h h2
  ·exact a2.there x h2 h
 ·rcases w x h1 with h|h
  ·exact z1 x h
  ·exact s0.free h
 ·rcases Q7.mp hp with hp|hp
  ·exact⟨(hE p hp).1,(hE p hp).2.1,fun z=>a2.there _ z (hE p hp).2.2⟩
  ·exact⟨b.1 _ _ (hL p hp).2.1 (hL p hp).1,nw _ _ (hL p hp).1 (hL p hp).2.1,(hL p hp).2.2⟩
theorem Ii.sub{K:Qj}{H0 H:Hp}{d1 d2:Qh}{s1 s2:aL}{L L':List (Qh×List V)}(t:Ii K H0 H d1 d2 s1 s2 L)(h:∀p∈L',p∈L):Ii K H0 H d1 d2 s1 s2 L':=by
 obtain⟨fp1,fp2,a1,a2,dj,z1,z2,s0,hL⟩:=t
 exact⟨fp1,fp2,a1,a2,dj,z1,z2,s0,fun p hp=>hL p (h p hp)⟩
theorem Ii.said{K:Qj}{kf:Qg->List Bool}{H0 H:Hp}{d1 d2:Qh}{s:aL}{L:List (Qh×List V)}(t:Ii K H0 H d1 d2 s s L)(G:ig s)(row:Qg):∃fp1,cf K H d1 fp1 s/\∀v1 H1 fp1',cf K H1 d1 fp1' (kD s (dZ s row))->bS fp1 H H1->fL fp1 fp1' H->jF kf H H1 v1 (iL s (dZ s row))->(∀l,v1=.ref l->l∉fp1')->
  ∃fp2,cf K H1 d2 fp2 s/\∀v2 H2 fp2',cf K H2 d2 fp2' (kD s (dZ s row))->bS fp2 H1 H2->fL fp2 fp2' H1->jF kf H1 H2 v2 (iL s (dZ s row))->
   Ii K H0 H2 d1 d2 (kD s (dZ s row)) (kD s (dZ s row)) L/\∃d,dW K H2 v1 d/\dW K H2 v2 d/\Sr d=true:=by
 obtain⟨fp1,a1,_,_,k1⟩:=t.one
 refine⟨fp1,a1,fun v1 H1 fp1' b1 c1 w1 e1 m1=>?_⟩
 obtain⟨X,hX,hv⟩:∃X:List (Qh×List V),(∀p∈X,H1 p.1=some (.lst p.2)/\p.1∉fp1'/\H p.1=none)/\∀l,v1=.ref l->∃p∈X,p.1=l:=by
  revert e1
  cases iL s (dZ s row)with
  |txt t=>exact fun e=>⟨[],(fun _ h=>nomatch h),fun l h=>by rw[e]at h;cases h⟩
  |kin cl=>
   rintro⟨l,rfl,f,e⟩
   exact⟨[(l,_)],(fun p hp=>by rw[Q8.mp hp];exact⟨e,m1 l rfl,f⟩),fun l' h=>⟨_,Q8.mpr rfl,by cases h;rfl⟩⟩
 obtain⟨fp2,a2,n2,_,k2⟩:=(k1 H1 fp1' _ X b1 c1 w1 hX).flip.one
 refine⟨fp2,a2,fun v2 H2 fp2' b2 c2 w2 e2=>⟨((k2 H2 fp2' _ [] b2 c2 w2 fun _ h=>nomatch h).flip).sub fun p hp=>RH _ (RH _ hp),_,jF.dat (e1.but c2 fun l hl=>?_),e2.dat,(wD G).shaped (by decide)⟩⟩
 obtain⟨p,hp,rfl⟩:=hv l hl
 exact n2 p (TC _ hp)
theorem Mi{C:Qh}{H H2:Hp}{c dx:Qh}{fp:List Qh}(f0:H c=none)(g0:H dx=none)(b:bS [c] (upd (upd H dx (.own c)) c (.ins C dx [])) H2)(w:fL [c] fp (upd (upd H dx (.own c)) c (.ins C dx []))):
  ar H H2/\∀a∈fp,H a=none:=by
 refine⟨fun a o h=>?_,fun a ha=>?_⟩
 ·have n1:a≠c:=fun e=>by rw[e,f0]at h;cases h
  have n2:a≠dx:=fun e=>by rw[e,g0]at h;cases h
  exact b.1 a o (by simpa using n1) (by rw[ax n1,ax n2];exact h)
 ·rcases w a ha with e|e
  ·rw[Q8.mp e];exact f0
  ·by_cases n1:a=c
   ·rw[n1];exact f0
   ·rw[ax n1]at e
    by_cases n2:a=dx
    ·rw[n2];exact g0
    ·rw[ax n2]at e;exact e
theorem K4{z:Qg}(h:dE z=true):∀c∈z.cps.toList,isLet c=true:=fun c hc=>by
 unfold dE at h
 simp only[Rj]at h
 exact RL.mp h.2 c hc
theorem a8:Wd "aaaaaaaa"/\("aaaaaaaa":Qg).length=8/\("\n":Qg).length=1/\("\n":Qg).cps.toList=[10]:=by
 unfold Wd
 decide +kernel
theorem PV{ns:List Qg}{n o:Qg}(hn:Wd n)(ho:Wd o)(mn:n∈ns){g:List Qg}(h:g∈KA n o):Ir ns (Q3 " " g):=by
 obtain⟨w,r,e,_,_,hr⟩:=FI h
 refine L0 (by rw[e];simp) (OI hn ho h) (by rw[e];simp;omega) fun z hz=>?_
 have:z=n:=by
  rcases Dl h with q|q|q|q|q|q|q|q|q|q|q|q|q<;>rw[q]at hz<;>simp at hz
  ·exact hz.symm
  all_goals exact absurd hz.1 nofun
 rw[this];exact mn
theorem OU{s:aL}{z:Qg}(hz:Wd z)(h0:z≠"")(h:∀p∈s.ps,p.1≠z):dZ s (("purse ":Qg)++z)=.no "NoVoter"/\Tx (("purse ":Qg)++z):=by
 rw[LA (w:="purse") nofun]
 have f:∀x∈(["purse",z]:List Qg),Wd x:=by simp[vN,hz]
 refine⟨?_,kO ⋯ f⟩
 rw[gJ ⋯ f,if_neg]
 ·show act2 s "purse" z=_
  rw[act2,if_pos rfl,if_neg]
  intro m
  obtain⟨p,hp,e⟩:=Qu.mp m
  exact h p hp e
 ·intro m
  rcases QI.mp m with m|m
  ·exact absurd m nofun
  ·exact h0 (Q8.mp m).symm
theorem OE{xs:List Int}{k:Nat}(h:k<xs.length):∃x,BF (xs.map V.int) ((k:Nat):Int)=some (.int x):=⟨xs[k],bI (by simp[h])⟩
def DW:List Qg:=["enrol","leave","give","propose","withdraw","want","unwant"]
def EY(z:Qg):Prop:=Wd z/\z≠""/\z.length<=20
def bA.row:bA->List Qg
 |.enrol z=>["enrol",z]
 |.propose z x=>["propose",z,iT x]
 |.give x=>["give",iT x]
 |.leave z=>["leave",z]
 |.withdraw z=>["withdraw",z]
 |.want v n=>["want",v,n]
 |.unwant v n=>["unwant",v,n]
def Am(x:Int):Prop:=0<=x/\x<10000000000000
def bA.ok:bA->Prop
 |.enrol z=>EY z
 |.propose z x=>EY z/\Am x
 |.give x=>Am x
 |.leave z=>EY z
 |.withdraw z=>EY z
 |.want v n=>EY v/\EY n
 |.unwant v n=>EY v/\EY n
theorem Am.wd{x:Int}(h:Am x):Wd (iT x):=Ni (k:=13) h.1 (by decide) (by have:=h.2;omega) (by decide)
theorem Li(n:Nat):0<n->∃c r,Uh 10 n=c::r/\c≠'0':=by
 induction n using Nat.strongRecOn with
 |ind n ih=>
  intro h
  rw[Nat.toDigits_eq_if (b:=10) (by decide)]
  split
  ·rename_i hl
   exists _,_,rfl
   have:∀k:Fin 10,0<k.val->Nat.digitChar k.val≠'0':=by decide
   exact this ⟨n,hl⟩ h
  ·obtain⟨c,r,e,hc⟩:=ih (n/10) (by omega) (by omega)
   rw[e]
   exact⟨c,_,rfl,hc⟩
theorem Am.num{x:Int}(h:Am x):iJ (iT x)=true/\yP (iT x)=x:=by
 have ok:iJ (iT x)=true:=by
  obtain⟨m,rfl⟩:=To h.1
  have hl:=AJ (k:=13) h.1 (by decide) (by have:=h.2;omega)
  rw[<-bE]at hl
  unfold iJ
  have fig:∀c∈(iT (m:Int)).cps.toList,kU c=true:=fun c hc=>by
   rw[me]at hc
   obtain⟨d,hd,rfl⟩:=Qu.mp hc
   have:=V0 (b:=10) (n:=m) (by decide) (by decide) hd
   unfold VF at this
   simp only[Rj,decide_eq_true_eq]at this
   have h1:48<=d.toNat:=this.1
   have h2:d.toNat<=57:=this.2
   unfold kU
   simp only[Rj,decide_eq_true_eq]
   exact⟨h1,h2⟩
  by_cases h0:m=0
  ·subst h0;decide +kernel
  ·obtain⟨c,r,e,hc⟩:=Li m (by omega)
   have e2:(iT (m:Int)).cps.toList=c.toNat::r.map Uc:=by rw[me,e];rfl
   rw[e2]at hl fig ⊢
   have hn:c.toNat≠48:=fun z=>hc (Xu (Yg.mp z))
   unfold HU
   rw[if_neg (by simpa using hn),decide_eq_true (show 1<=(c.toNat::r.map Uc).length by simp),decide_eq_true hl,RL.mpr fig]
   rfl
 exists ok
 obtain⟨n,h0,_,e,e2,_⟩:=rf ok
 have:n=x:=Eg h0 h.1 e2
 unfold yP
 rw[e,this];rfl
theorem EY.tx{z:Qg}(h:EY z):Tx z:=⟨h.1.asc,by have:=h.2.2;omega⟩
theorem bA.txOk{D:bA}(h:D.ok):D.tx:=by
 cases D<;>simp only[bA.ok,bA.tx]at h ⊢
 ·exact h.tx
 ·exact h.1.tx
 ·exact h.tx
 ·exact h.tx
 ·exact⟨h.1.tx,h.2.tx⟩
 ·exact⟨h.1.tx,h.2.tx⟩
theorem Me{x:Int}(h:Am x):iT x≠"":=fun e=>by
 have:=h.num.1
 rw[e]at this
 revert this
 decide +kernel
theorem bA.rowWd{D:bA}(h:D.ok):(∀w∈D.row,Wd w)/\("":Qg)∉D.row/\D.row≠[]/\D.row.length<=3:=by
 have w:=o4.1
 have e:("enrol":Qg)∈WA/\("leave":Qg)∈WA/\("give":Qg)∈WA/\("propose":Qg)∈WA/\("withdraw":Qg)∈WA/\("want":Qg)∈WA/\("unwant":Qg)∈WA:=nofun
 have n:("":Qg)≠"enrol"/\("":Qg)≠"leave"/\("":Qg)≠"give"/\("":Qg)≠"propose"/\("":Qg)≠"withdraw"/\("":Qg)≠"want"/\("":Qg)≠"unwant":=nofun
 obtain⟨e1,e2,e3,e4,e5,e6,e7⟩:=e
 obtain⟨n1,n2,n3,n4,n5,n6,n7⟩:=n
 cases D<;>simp only[bA.ok,bA.row]at h ⊢ <;> refine⟨?_,?_,⋯,⋯⟩<;>simp only[QI,RD,or_false,not_or,forall_eq_or_imp,forall_eq]
 ·exact⟨w _ e1,h.1⟩
 ·exact⟨n1,QT h.2.1⟩
 ·exact⟨w _ e4,h.1.1,h.2.wd⟩
 ·exact⟨n4,QT h.1.2.1,QT (Me h.2)⟩
 ·exact⟨w _ e3,h.wd⟩
 ·exact⟨n3,QT (Me h)⟩
 ·exact⟨w _ e2,h.1⟩
 ·exact⟨n2,QT h.2.1⟩
 ·exact⟨w _ e5,h.1⟩
 ·exact⟨n5,QT h.2.1⟩
 ·exact⟨w _ e6,h.1.1,h.2.1⟩
 ·exact⟨n6,QT h.1.2.1,QT h.2.2.1⟩
 ·exact⟨w _ e7,h.1.1,h.2.1⟩
 ·exact⟨n7,QT h.1.2.1,QT h.2.2.1⟩
theorem bA.acts{D:bA}(h:D.ok)(s:aL):dZ s (Q3 " " D.row)=.deed D:=by
 obtain⟨a,b,c,_⟩:=bA.rowWd h
 rw[gJ c a,if_neg b]
 have n:("enrol":Qg)≠"purse"/\("leave":Qg)≠"purse"/\("leave":Qg)≠"enrol"/\("give":Qg)≠"purse"/\("give":Qg)≠"enrol"/\("give":Qg)≠"leave"/\("withdraw":Qg)≠"purse"/\("withdraw":Qg)≠"enrol"/\("withdraw":Qg)≠"leave"/\("withdraw":Qg)≠"give"/\("want":Qg)≠"propose"/\("unwant":Qg)≠"propose"/\("unwant":Qg)≠"want":=nofun
 obtain⟨n1,n2,n3,n4,n5,n6,n7,n8,n9,n10,n11,n12,n13⟩:=n
 cases D with
 |enrol z=>show act2 s "enrol" z=_;rw[act2,if_neg n1,if_pos rfl]
 |leave z=>show act2 s "leave" z=_;rw[act2,if_neg n2,if_neg n3,if_pos rfl]
 |give x=>
  show act2 s "give" (iT x)=_
  rw[act2,if_neg n4,if_neg n5,if_neg n6,if_pos rfl,(Am.num h).1,(Am.num h).2];rfl
 |withdraw z=>show act2 s "withdraw" z=_;rw[act2,if_neg n7,if_neg n8,if_neg n9,if_neg n10,if_pos rfl]
 |propose z x=>
  show se s "propose" z (iT x)=_
  rw[se,if_pos rfl,(Am.num h.2).1,(Am.num h.2).2];rfl
 |want v m=>show se s "want" v m=_;rw[se,if_neg n11,if_pos rfl]
 |unwant v m=>show se s "unwant" v m=_;rw[se,if_neg n12,if_neg n13,if_pos rfl]
structure Lies(A:Hp->List Qh->aL->Prop):Prop where
 but:∀{H H':Hp}{fp l:List Qh}{s:aL},A H fp s->bS l H H'->(∀a∈fp,a∉l)->A H' fp s
 there:∀{H:Hp}{fp:List Qh}{s:aL},A H fp s->∀a∈fp,H a≠none
theorem Lies.same{A:Hp->List Qh->aL->Prop}(h:Lies A){H H':Hp}{fp:List Qh}{s:aL}(x:A H fp s)(b:ar H H'):A H' fp s:=h.but x (bS.of (l:=[]) b) ⋯
theorem bw{K:Qj}{d:Qh}:Lies (fun H fp s=>cf K H d fp s):=⟨fun x b n=>cf.but x b n,fun x=>cf.there x⟩
theorem aW{K:Qj}{c:Qh}:Lies (fun H fp s=>aF K H c fp s):=⟨fun x b n=>aF.but x b n,fun x=>aF.there x⟩
noncomputable def Pr(A B:Hp->List Qh->aL->Prop)(H0 H:Hp)(F:List Qh)(s1 s2:aL)(L:List (Qh×List V)):Prop:=∃fp1 fp2,A H fp1 s1/\B H fp2 s2/\(∀a∈fp1,a∉fp2)/\bS F H0 H/\fL F fp1 H0/\fL F fp2 H0/\∀p∈L,H p.1=some (.lst p.2)/\p.1∉fp1/\p.1∉fp2
section
variable {A B:Hp->List Qh->aL->Prop}{H0 H H':Hp}{F:List Qh}{s1 s2:aL}{L:List (Qh×List V)}
theorem Pr.same(hA:Lies A)(hB:Lies B)(t:Pr A B H0 H F s1 s2 L)(s:ar H H'):Pr A B H0 H' F s1 s2 L:=by
 obtain⟨fp1,fp2,a1,a2,dj,b0,w1,w2,hL⟩:=t
 exact⟨fp1,fp2,hA.same a1 s,hB.same a2 s,dj,b0.trans (bS.of s),w1,w2,fun p hp=>⟨s _ _ (hL p hp).1,(hL p hp).2⟩⟩
theorem Pr.add(hA:Lies A)(hB:Lies B)(t:Pr A B H0 H F s1 s2 L)(s:ar H H'){l:Qh}{xs:List V}(f:H l=none)(h:H' l=some (.lst xs)):Pr A B H0 H' F s1 s2 ((l,xs)::L):=by
 obtain⟨fp1,fp2,a1,a2,dj,b0,w1,w2,hL⟩:=t
 refine⟨fp1,fp2,hA.same a1 s,hB.same a2 s,dj,b0.trans (bS.of s),w1,w2,fun p hp=>?_⟩
 rcases QI.mp hp with rfl|hp
 ·exact⟨h,fun z=>hA.there a1 _ z f,fun z=>hB.there a2 _ z f⟩
 ·exact⟨s _ _ (hL p hp).1,(hL p hp).2⟩
theorem Pr.flip(t:Pr A B H0 H F s1 s2 L):Pr B A H0 H F s2 s1 L:=by
 obtain⟨fp1,fp2,a1,a2,dj,b0,w1,w2,hL⟩:=t
 exact⟨fp2,fp1,a2,a1,fun a h2 h1=>dj a h1 h2,b0,w2,w1,fun p hp=>⟨(hL p hp).1,(hL p hp).2.2,(hL p hp).2.1⟩⟩
theorem Pr.sub{L':List (Qh×List V)}(t:Pr A B H0 H F s1 s2 L)(h:∀p∈L',p∈L):Pr A B H0 H F s1 s2 L':=by
 obtain⟨fp1,fp2,a1,a2,dj,b0,w1,w2,hL⟩:=t
 exact⟨fp1,fp2,a1,a2,dj,b0,w1,w2,fun p hp=>hL p (h p hp)⟩
theorem Pr.at(t:Pr A B H0 H F s1 s2 L):bS F H0 H/\∀p∈L,H p.1=some (.lst p.2):=by
 obtain⟨fp1,fp2,a1,a2,dj,b0,w1,w2,hL⟩:=t
 exact⟨b0,fun p hp=>(hL p hp).1⟩
theorem Pr.one(hA:Lies A)(hB:Lies B)(t:Pr A B H0 H F s1 s2 L):∃fp,A H fp s1/\(∀p∈L,p.1∉fp)/\(∀l,H l=none->l∉fp)/\∀H' fp' s' E,A H' fp' s'->bS fp H H'->fL fp fp' H->(∀p∈E,H' p.1=some (.lst p.2)/\p.1∉fp'/\H p.1=none)->Pr A B H0 H' F s' s2 (E++L):=by
 obtain⟨fp1,fp2,a1,a2,dj,b0,w1,w2,hL⟩:=t
 refine⟨fp1,a1,fun p hp=>(hL p hp).2.1,fun l hl z=>hA.there a1 _ z hl,fun H' fp' s' E a b w hE=>?_⟩
 have nw:∀x o,H x=some o->x∉fp1->x∉fp':=fun x o hx h1 h2=>by
  rcases w x h2 with h|h
  ·exact h1 h
  ·rw[hx]at h;cases h
 refine⟨fp',fp2,a,hB.but a2 b fun x hx h1=>dj x h1 hx,fun x h1 h2=>?_,⟨fun x o nx hx=>?_,fun x ys hx=>b.2.1 x ys (b0.2.1 x ys hx),fun x hx=>b0.2.2 x (b.2.2 x hx)⟩,fun x h1=>?_,w2,fun p hp=>?_⟩
 ·rcases w x h1 with h|h
  ·exact dj x h h2
  ·exact hB.there a2 x h2 h
 ·refine b.1 x o (fun z=>?_) (b0.1 x o nx hx)
  rcases w1 x z with h|h
  ·exact nx h
  ·rw[hx]at h;cases h
 ·rcases w x h1 with h|h
  ·exact w1 x h
  ·exact .inr (b0.2.2 x h)
 ·rcases Q7.mp hp with hp|hp
  ·exact⟨(hE p hp).1,(hE p hp).2.1,fun z=>hB.there a2 _ z (hE p hp).2.2⟩
  ·exact⟨b.1 _ _ (hL p hp).2.1 (hL p hp).1,nw _ _ (hL p hp).1 (hL p hp).2.1,(hL p hp).2.2⟩
theorem DP{kf:Qg->List Bool}{v:V}{a:NY}{fp':List Qh}(h:jF kf H H' v a)(n:∀l,v=.ref l->l∉fp'):∃X:List (Qh×List V),(∀p∈X,H' p.1=some (.lst p.2)/\p.1∉fp'/\H p.1=none)/\∀fp2 H'',(∀p∈X,p.1∉fp2)->bS fp2 H' H''->jF kf H H'' v a:=by
 cases a with
 |txt t=>exact⟨[],(fun _ h=>nomatch h),fun _ _ _ _=>h⟩
 |kin cl=>
  obtain⟨l,e,f,e'⟩:=h
  exact⟨[(l,(kf cl).map V.bl)],(fun p hp=>by rw[Q8.mp hp];exact⟨e',n l e,f⟩),fun fp2 H'' m b=>⟨l,e,f,b.1 _ _ (m _ (Q8.mpr rfl)) e'⟩⟩
end
theorem J1{zs:List Int}{x:Int}{n:Nat}(hn:zs.length=n)(h0:0<n):∃z∈zs,BF (zs.map V.int) (x%(n:Int))=some (.int z):=by
 have h1:0<=x%(n:Int):=S0 _ (by omega)
 have h2:x%(n:Int)<n:=Uk _ (by omega)
 have h3:(x%(n:Int)).toNat<zs.length:=by omega
 exists zs[(x%(n:Int)).toNat],Sz h3
 have:=bI (xs:=zs.map V.int) (j:=(x%(n:Int)).toNat) (v:=.int zs[(x%(n:Int)).toNat]) (by simp[h3])
 rwa [UO h1]at this
def sgn:Qg:="ABZ09-_.+'{\t\n"
theorem MD:sgn.length=13/\∀c∈sgn.cps.toList,c<128/\c≠32:=nofun
theorem ON{H:Hp}{Q:VK}{y:Int}(q:∀c,c<128/\c≠32->Q (.str ⟨#[c]⟩) H):yM (.str "ABZ09-_.+'{\t\n") (.int (y%13)) H Q:=by
 obtain⟨h1,h2⟩:=MD
 have h3:0<=y%13:=S0 _ (by decide)
 have h4:(y%13).toNat<sgn.cps.toList.length:=by rw[bE,h1];omega
 refine⟨sgn,_,sgn.cps.toList.getD (y%13).toNat 0,rfl,rfl,by rw[size_eq,h1];decide,FK h3 h4,q _ (h2 _ ?_)⟩
 exact getD_mem 0 h4
theorem EB{z:Qg}(h:1<=z.length):z≠"":=fun e=>by rw[e]at h;exact absurd h nofun
theorem Dy(a:Qg):a++Sd "-" 0=a/\a++Sd "none" 0=a:=by
 have e:Sd "-" 0=⟨#[]⟩/\Sd "none" 0=⟨#[]⟩:=nofun
 rw[e.1,e.2]
 exact⟨eD.mpr (by rw[c6];simp),eD.mpr (by rw[c6];simp)⟩
theorem mul_one:Q3 "+" []++Sd "-" 1="-"/\Q3 ", " []++Sd "none" 1="none"/\(Sd "-" 1).length=1/\(Sd "none" 1).length=4/\(Sd "-" 0).length=0/\(Sd "none" 0).length=0:=nofun
def DC(K:Qj)(d c:Qh)(H0 H:Hp)(F:List Qh)(s:aL)(L:List (Qh×List V)):Prop:=Pr (fun H fp s=>cf K H d fp s) (fun H fp s=>aF K H c fp s) H0 H F s s L
theorem DC.init{K:Qj}{d c:Qh}{H:Hp}{f1 f2:List Qh}{s:aL}(a:cf K H d f1 s)(b:aF K H c f2 s)(dj:∀x∈f1,x∉f2):DC K d c H H (f1++f2) s []:=⟨f1,f2,a,b,dj,bS.of (ar.refl _),fun x hx=>.inl (TC _ hx),fun x hx=>.inl (RH _ hx),fun _ h=>nomatch h⟩
theorem o5{s:aL}{w:Qg}(h:w∈W1):dZ s w=nk s w/\Tx w:=by
 have hw:Wd w:=o4.1 w (by
  have:∀w∈W1,w∈WA:=nofun
  exact this w h)
 have e:Q3 " " [w]=w:=rfl
 have f:∀x∈[w],Wd x:=fun x hx=>by rw[Q8.mp hx];exact hw
 refine⟨?_,by have:=kO (ws:=[w]) ⋯ f;rwa [e]at this⟩
 have:=gJ (s:=s) (ws:=[w]) ⋯ f
 rw[e,if_neg]at this
 ·exact this
 ·intro m
  have:("":Qg)∉W1:=nofun
  exact this (by rw[Q8.mp m];exact h)
theorem AU(s:aL):nk s "close"=.close/\nk s "works"=.tell (jL (s.cs.map (iK s)))/\nk s "pot"=.tell (iT s.pot)/\nk s "given"=.tell (iT s.giv)/\nk s "spent"=.tell (iT s.spt):=by
 have n:("works":Qg)≠"close"/\("pot":Qg)≠"close"/\("pot":Qg)≠"works"/\("given":Qg)≠"close"/\("given":Qg)≠"works"/\("given":Qg)≠"pot"/\("spent":Qg)≠"close"/\("spent":Qg)≠"works"/\("spent":Qg)≠"pot"/\("spent":Qg)≠"given":=nofun
 obtain⟨a1,a2,a3,a4,a5,a6,a7,a8,a9,a10⟩:=n
 exact⟨if_pos rfl,by rw[nk,if_neg a1,if_pos rfl],by rw[nk,if_neg a2,if_neg a3,if_pos rfl],by rw[nk,if_neg a4,if_neg a5,if_neg a6,if_pos rfl],by rw[nk,if_neg a7,if_neg a8,if_neg a9,if_neg a10,if_pos rfl]⟩
theorem Gq(s:aL){z:Qg}(hz:EY z):dZ s (("purse ":Qg)++z)=(if z∈s.ps.map (·.1)then .tell (iT (vP s.ps z))else .no "NoVoter")/\Tx (("purse ":Qg)++z):=by
 rw[LA (w:="purse") nofun]
 have f:∀x∈(["purse",z]:List Qg),Wd x:=by simp[vN,hz.1]
 refine⟨?_,kO ⋯ f⟩
 rw[gJ ⋯ f,if_neg]
 ·show act2 s "purse" z=_
  rw[act2,if_pos rfl]
 ·intro m
  rcases QI.mp m with m|m
  ·exact absurd m nofun
  ·exact hz.2.1 (Q8.mp m).symm
theorem qJ{n:Nat}{x:Qg}(h:aT x):yq n (.str x):=⟨by rw[R6];exact jT h,by simp[SJ]⟩
theorem Pr.both{A B:Hp->List Qh->aL->Prop}{H0 H:Hp}{F:List Qh}{s1 s2:aL}{L:List (Qh×List V)}(t:Pr A B H0 H F s1 s2 L):∃fp1 fp2,A H fp1 s1/\B H fp2 s2/\(∀a∈fp1,a∉fp2)/\(∀p∈L,p.1∉fp1++fp2)/\∀H' s1' s2',Pr A B H H' (fp1++fp2) s1' s2' []->Pr A B H0 H' F s1' s2' L:=by
 obtain⟨fp1,fp2,a1,a2,dj,b0,w1,w2,hL⟩:=t
 refine⟨fp1,fp2,a1,a2,dj,fun p hp m=>?_,fun H' s1' s2' ⟨g1,g2,c1,c2,dj',b',u1,u2,_⟩=>?_⟩
 ·rcases Q7.mp m with h|h
  ·exact(hL p hp).2.1 h
  ·exact(hL p hp).2.2 h
 have w12:fL F (fp1++fp2) H0:=fun x hx=>by
  rcases Q7.mp hx with h|h
  ·exact w1 x h
  ·exact w2 x h
 have nw:∀{g:List Qh},fL (fp1++fp2) g H->fL F g H0:=fun {g} u x hx=>by
  rcases u x hx with h|h
  ·exact w12 x h
  ·exact .inr (b0.2.2 x h)
 have nl:∀{g:List Qh},fL (fp1++fp2) g H->∀p∈L,p.1∉g:=fun {g} u p hp m=>by
  rcases u p.1 m with h|h
  ·rcases Q7.mp h with h|h
   ·exact(hL p hp).2.1 h
   ·exact(hL p hp).2.2 h
  ·rw[(hL p hp).1]at h;cases h
 refine⟨g1,g2,c1,c2,dj',⟨fun x o nx hx=>b'.1 x o (fun z=>?_) (b0.1 x o nx hx),fun x ys hx=>b'.2.1 x ys (b0.2.1 x ys hx),fun x hx=>b0.2.2 x (b'.2.2 x hx)⟩,nw u1,nw u2,fun p hp=>⟨b'.1 _ _ (fun m=>?_) (hL p hp).1,nl u1 p hp,nl u2 p hp⟩⟩
 ·rcases w12 x z with h|h
  ·exact nx h
  ·rw[hx]at h;cases h
 ·rcases Q7.mp m with h|h
  ·exact(hL p hp).2.1 h
  ·exact(hL p hp).2.2 h
theorem Pr.back{A B:Hp->List Qh->aL->Prop}{H0 H H':Hp}{F:List Qh}{s1 s2:aL}{L:List (Qh×List V)}(s:ar H0 H)(t:Pr A B H H' F s1 s2 L):Pr A B H0 H' F s1 s2 L:=by
 obtain⟨fp1,fp2,a1,a2,dj,b0,w1,w2,hL⟩:=t
 have nw:∀{g:List Qh},fL F g H->fL F g H0:=fun {g} u x hx=>by
  rcases u x hx with h|h
  ·exact .inl h
  ·exact .inr (s.free h)
 exact⟨fp1,fp2,a1,a2,dj,(bS.of s).trans b0,nw w1,nw w2,hL⟩
theorem DC.deed{K:Qj}{kf:Qg->List Bool}{d c:Qh}{H0 H:Hp}{F:List Qh}{s:aL}{L:List (Qh×List V)}{n:Nat}{D:bA}{row:Qg}(T:DC K d c H0 H F s L)(G:cM n s)(ok:D.ok)(er:row=Q3 " " D.row):∃fa,cf K H d fa s/\Tx row/\∀v H5 fp1,cf K H5 d fp1 (kD s (dZ s row))->bS fa H H5->fL fa fp1 H->jF kf H H5 v (iL s (dZ s row))->(∀l,v=.ref l->l∉fp1)->
  ∀H6,ar H5 H6->∃fc,aF K H6 c fc s/\∀v2 H7 fp2,aF K H7 c fp2 (kD s (.deed D))->bS fc H6 H7->fL fc fp2 H6->jF kf H6 H7 v2 (iL s (.deed D))->DC K d c H0 H7 F (kD s (.deed D)) L/\∃dd,dW K H7 v dd/\dW K H7 v2 dd/\Sr dd=true:=by
 obtain⟨ra,rb,rc,rd⟩:=bA.rowWd ok
 have e:=bA.acts ok s
 have txr:=kO (ws:=D.row) (by omega) ra
 rw[<-er]at e txr
 obtain⟨fa,A1,m1,_,k1⟩:=Pr.one bw aW T
 refine⟨fa,A1,txr,fun v H5 fp1 D1 b1 w1 an nv H6 s6=>?_⟩
 have lay:yq 1 (Hv kf (iL s (.deed D))):=by rw[<-e];exact wD G.d
 rw[e]at D1 an
 obtain⟨Y,hY,kY⟩:=DP an nv
 have T5:=Pr.same bw aW (k1 H5 fp1 _ Y D1 b1 w1 hY) s6
 obtain⟨fc,C1,m2,_,k2⟩:=Pr.one aW bw (Pr.flip T5)
 refine⟨fc,C1,fun v2 H7 fp2 C2 b2 w2 an2=>⟨(Pr.flip (k2 H7 fp2 _ [] C2 b2 w2 fun _ h=>nomatch h)).sub fun p hp=>RH _ (RH _ hp),_,(kY fc H7 (fun p hp=>m2 p (TC _ hp)) ((bS.of s6).trans b2)).dat,an2.dat,lay.shaped (by decide)⟩⟩
def jO(K:Qj):Sp:=cK 2 fun vs H Q=>∃(a:Qh)(ns:List Int)(k:Nat),vs=[.ref a,.int k]/\bo K H a (ns.map V.int)/\∀(v:Int) H',ar H H'->Q (.int v) H'
def d8(K:Qj):Sp:=cK 1 fun vs H Q=>∃(c dx:Qh),vs=[.ref c]/\H c=some (.ins (aq K "Chest") dx [])/\∀H' fp,aF K H' c fp ⟨[],[],[],0,0,0⟩->bS [c] H H'->fL [c] fp H->Q .non H'
def gU(K:Qj):Sp:=cK 1 fun vs H Q=>∃(d dx:Qh),vs=[.ref d]/\H d=some (.ins (aq K "Desk") dx [])/\∀H' fp,cf K H' d fp ⟨[],[],[],0,0,0⟩->bS [d] H H'->fL [d] fp H->Q .non H'
def hG(_:Qj):Sp:=cK 2 fun vs H Q=>∃(c:Int)(m:Nat),vs=[.int c,.int m]/\m<=1000/\∀(l:Qh) H',H l=none->ar H H'->H' l=some (.lst ((gF c m).map V.int))->Q (.ref l) H'
def nR(cl:Qg):List Bool:=[decide (cl="NoName"),decide (cl="Twice"),decide (cl="NoVoter"),decide (cl="NoWork"),decide (cl="TooMuch"),decide (cl="Full"),decide (cl="NoRow"),true]
noncomputable def fi(K:Qj):Sp:=cK 1 fun vs H Q=>∃(x:Qh)(cl:Qg),vs=[.ref x]/\ExcAt H x (aq K cl)/\(cl="NoName"\/cl="Twice"\/cl="NoVoter"\/cl="NoWork"\/cl="TooMuch"\/cl="Full"\/cl="NoRow")/\∀l H',H l=none->ar H H'->H' l=some (.lst ((nR cl).map V.bl))->Q (.ref l) H'
noncomputable def kn(K:Qj):Sp:=fun vs H Q E=>vs.length=1/\∃z:Qg,vs=[.str z]/\aT z/\z.length<=100000/\
 (("":Qg)∉Q9 z " "->∀l,H l=none->Q (.ref l) (upd H l (.lst ((Q9 z " ").map V.str))))/\(("":Qg)∈Q9 z " "->∀H',ar H H'->E (.ref (aq K "NoRow")) none H')
def gu(_:Qj):Sp:=cK 2 fun vs H Q=>∃s n:Nat,vs=[.int s,.int n]/\0<s/\0<n/\Q (.int (Sl s n:Nat)) H
def oJ(_:Qj):Sp:=cK 1 fun vs H Q=>∃n:Nat,vs=[.int n]/\n<=20/\Q (.int (nF n:Nat)) H
def iY(_:Qj):Sp:=cK 2 fun vs H Q=>∃v w:Nat,vs=[.int v,.int w]/\1<=v/\v<=20/\w<=12/\Q (.int (nF v ^ (w+1):Nat)) H
noncomputable def qM(K:Qj):Sp:=cK 2 fun vs H Q=>∃(a:Qh)(sts:List (Nat×Int×List Int))(i:Nat),vs=[.ref a,.int i]/\iV H a sts/\sts.length<=64/\(∀x∈sts,i<x.2.2.length)/\∀H',ar H H'->Q (.int (sts.map fun x=>x.2.2.getD i 0).sum) H'
noncomputable def lz(K:Qj):Sp:=cK 2 fun vs H Q=>∃(a b:Qh)(ps:List Int)(sts:List (Nat×Int×List Int)),vs=[.ref a,.ref b]/\bo K H a (ps.map V.int)/\iV H b sts/\ps.length<=20/\sts.length<=12/\(∀x∈sts,x.2.2.length=ps.length)/\
 ∀l H',H l=none->ar H H'->H' l=some (.lst ((bY ps sts).map V.int))->Q (.ref l) H'
noncomputable def lO(K:Qj):Sp:=cK 2 fun vs H Q=>∃(a b:Qh)(cs:List Int)(rows:List (List Int)),vs=[.ref a,.ref b]/\bo K H a (cs.map V.int)/\iC K H b rows/\cs.length<=12/\(∀x∈cs,1<=x/\x<=1000000000000)/\1<=rows.length/\rows.length<=20/\
 ∀l H',H l=none->ar H H'->H' l=some (.lst ((cs.map (· * ((nF rows.length ^ (cs.length+1):Nat):Int))).map V.int))->Q (.ref l) H'
def kx(_:Qj):Sp:=cK 2 fun vs H Q=>∃m p:Int,vs=[.int m,.int p]/\1<=p/\p<=1000/\Q (.int ((m+p-1)/p)) H
noncomputable def lD(K:Qj):Sp:=cK 2 fun vs H Q=>∃(a:Qh)(ps:List Int)(price:Int),vs=[.ref a,.int price]/\bo K H a (ps.map V.int)/\ps.length<=40/\(∀p∈ps,0<=p)/\1<=price/\
 (ps.sum<price->∀H',ar H H'->Q .non H')/\(price<=ps.sum->∀L H',IU ps price L->ar H H'->Q (.int L) H')
def mm(K:Qj):Sp:=cK 2 fun vs H Q=>∃(a b:Qh)(ws ks:List Int),vs=[.ref a,.ref b]/\bo K H a (ws.map V.int)/\bo K H b (ks.map V.int)/\ks.length<=64/\∀H',ar H H'->Q (.bl (ks.all fun k=>decide (k∈ws))) H'
noncomputable def mF(K:Qj):Sp:=cK 2 fun vs H Q=>∃(a b:Qh)(rows:List (List Int))(ks:List Int),vs=[.ref a,.ref b]/\iC K H a rows/\bo K H b (ks.map V.int)/\rows.length<=64/\ks.length<=64/\
 ∀l H',H l=none->ar H H'->H' l=some (.lst ((mx rows ks).map V.int))->Q (.ref l) H'
noncomputable def hZ(K:Qj):Sp:=cK 2 fun vs H Q=>∃(a:Qh)(rows:List (List Int))(k:Int),vs=[.ref a,.int k]/\iC K H a rows/\rows.length<=64/\
 ∀l H',H l=none->ar H H'->H' l=some (.lst ((mx rows [k]).map V.int))->Q (.ref l) H'
noncomputable def oQ(K:Qj):Sp:=cK 4 fun vs H Q=>∃(a b:Qh)(ps:List Int)(rows:List (List Int))(k:Nat)(price:Int),vs=[.ref a,.ref b,.int k,.int price]/\bo K H a (ps.map V.int)/\iC K H b rows/\rows.length<=20/\ps.length=rows.length/\(∀p∈ps,0<=p)/\1<=price/\
 (Ij rows.length (WR rows) (PF ps) k<price->∀H',ar H H'->Q .non H')/\(price<=Ij rows.length (WR rows) (PF ps) k->∀L H',1<=L->price<=u7 rows.length (WR rows) (PF ps) k L->u7 rows.length (WR rows) (PF ps) k (L-1)<price->ar H H'->Q (.int L) H')
noncomputable def lx(K:Qj):Sp:=cK 4 fun vs H Q=>∃(a b c d:Qh)(ps cs:List Int)(rows:List (List Int))(done:List Nat),vs=[.ref a,.ref b,.ref c,.ref d]/\bo K H a (ps.map V.int)/\bo K H b (cs.map V.int)/\iC K H c rows/\bo K H d ((done.map fun k:Nat=>(k:Int)).map V.int)/\
 cs.length<=12/\(∀x∈cs,1<=x/\x<=1000000000000)/\1<=rows.length/\rows.length<=20/\ps.length=rows.length/\(∀p∈ps,0<=p)/\done.length<=12/\
 ∀l H' (os:List (Option Int)),H l=none->ar H H'->H' l=some (.lst (os.map oV))->os.length=cs.length->(∀j o,os[j]?=some o->DF (bZ cs rows) (PF ps) done j o)->Q (.ref l) H'
def qr(K:Qj):Sp:=cK 1 fun vs H Q=>∃(a:Qh)(os:List (Option Int)),vs=[.ref a]/\bo K H a (os.map oV)/\os.length<=12/\∀(k:Option Nat) H',iA os k->ar H H'->Q (oV (k.map fun j:Nat=>(j:Int))) H'
noncomputable def oz(_:Qj):Sp:=cK 1 fun vs H Q=>∃(a:Qh)(sts:List (Nat×Int×List Int)),vs=[.ref a]/\iV H a sts/\sts.length<=12/\(∀x∈sts,x.1<12)/\(sts.map (·.1)).Nodup/\
 ∀l H' (ws:List Nat),H l=none->ar H H'->H' l=some (.lst ((ws.map fun k:Nat=>(k:Int)).map V.int))->ws.Pairwise (· < ·)->(∀k,k∈ws↔k∈sts.map (·.1))->Q (.ref l) H'
noncomputable def qR(K:Qj):Sp:=cK 2 fun vs H Q=>∃(a:Qh)(ps:List Int)(lev:Int),vs=[.ref a,.int lev]/\bo K H a (ps.map V.int)/\ps.length<=64/\
 ∀l H',H l=none->ar H H'->H' l=some (.lst ((ps.map (min · lev)).map V.int))->Q (.ref l) H'
noncomputable def ju(K:Qj):Sp:=cK 4 fun vs H Q=>∃(a b:Qh)(ps:List Int)(rows:List (List Int))(k:Nat)(L:Int),vs=[.ref a,.ref b,.int k,.int L]/\bo K H a (ps.map V.int)/\iC K H b rows/\rows.length=ps.length/\ps.length<=64/\∀l H',H l=none->ar H H'->H' l=some (.lst ((nD rows ps k L).map V.int))->Q (.ref l) H'
noncomputable def el(K:Qj):Sp:=cK 4 fun vs H Q=>∃(a b c d:Qh)(ps cs:List Int)(rows:List (List Int))(sts:List (Nat×Int×List Int)),vs=[.ref a,.ref b,.ref c,.ref d]/\bo K H a (ps.map V.int)/\bo K H b (cs.map V.int)/\iC K H c rows/\iV H d sts/\
 cs.length<=12/\(∀x∈cs,1<=x/\x<=1000000000000)/\1<=rows.length/\rows.length<=20/\ps.length=rows.length/\sts.length<=12/\(∀x∈sts,x.1<12)/\(sts.map (·.1)).Nodup/\(∀x∈sts,x.2.2.length=ps.length)/\(∀p∈bY ps sts,0<=p)/\
 ((∀k,k<cs.length->k∉sts.map (·.1)->Ij rows.length (WR rows) (PF (bY ps sts)) k<(bZ cs rows).c k)->∀H',ar H H'->Q .non H')/\
 (∀k L,Nx (bZ cs rows) (PF (bY ps sts)) (sts.map (·.1)) k L->∀t b H',H t=none->H b=none->ar H H'->H' t=some (.tup [.int k,.int L,.ref b])->H' b=some (.lst ((nD rows (bY ps sts) k L).map V.int))->Q (.ref t) H')
noncomputable def sT(K:Qj):Sp:=cK 3 fun vs H Q=>∃(a b c:Qh)(ps cs:List Int)(rows:List (List Int)),vs=[.ref a,.ref b,.ref c]/\bo K H a (ps.map V.int)/\bo K H b (cs.map V.int)/\iC K H c rows/\Iw cs rows ps/\
 ∀l H' run,H l=none->ar H H'->jy H H' l (aX rows ps run)->iX (bZ cs rows) (PF ps) [] run->Q (.ref l) H'
noncomputable def eP(K:Qj):Sp:=cK 3 fun vs H Q=>∃(c b:Qh)(g:Int)(left:List Int)(fp:List Qh)(s:aL),vs=[.ref c,.ref b,.int g]/\aF K H c fp s/\H b=some (.lst (left.map V.int))/\0<g/\g<oE/\left.length=s.ps.length/\s.ps.length<=20/\
 ∀H' fp',aF K H' c fp' (KI s left g)->bS fp H H'->fL fp fp' H->Q .non H'
noncomputable def dS(K:Qj):Sp:=cK 2 fun vs H Q=>∃(c dx d1 d2 w:Qh)(n:Qg)(wt:List Qh)(s:aL),vs=[.ref c,.str n]/\H c=some (.ins (aq K "Chest") dx (iz d1 d2 w s.pot s.giv s.spt))/\H d2=some (.dK (eV s.cs))/\H w=some (.lst (wt.map V.ref))/\QE (B6 H) s.ws wt/\
 aT n/\(∀p∈s.cs,aT p.1)/\(∀p∈s.ws,aT p.1/\aT p.2)/\s.cs.length<=1000/\
 ∀l H',H l=none->ar H H'->H' l=some (.lst ((intsOf (CO s n)).map V.int))->Q (.ref l) H'
noncomputable def fu(K:Qj):Sp:=cK 3 fun vs H Q=>∃(c b:Qh)(k:Nat)(L:Int)(paid:List Int)(fp:List Qh)(s:aL),vs=[.ref c,.int k,.ref b]/\aF K H c fp s/\k<s.cs.length/\H b=some (.lst (paid.map V.int))/\paid.length=s.ps.length/\s.ps.length<=20/\s.cs.length<=12/\
 ∀t r H',H t=none->H r=none->t≠r->ar H H'->H' t=some (.tup [.str (bT s (k,L,paid)).1,.int (bT s (k,L,paid)).2.1,.ref r])->OD H H' r (bT s (k,L,paid)).2.2->Q (.ref t) H'
noncomputable def c8(K:Qj):Sp:=fun vs H Q E=>vs.length=2/\∃(c:Qh)(n:Qg)(fp:List Qh)(s:aL),vs=[.ref c,.str n]/\aF K H c fp s/\((n∈s.cs.map (·.1)/\Q .non H)\/(n∉s.cs.map (·.1)/\Tx n/\cG K H E "NoWork"))
def Pc(s:aL)(n:Qg):aL:={s with cs:=s.cs.filter fun p=>decide (p.1≠n),ws:=s.ws.filter fun p=>!decide (p.2=n)}
noncomputable def dz(K:Qj):Sp:=fun vs H Q E=>vs.length=2/\∃(c:Qh)(n:Qg)(fp:List Qh)(s:aL),vs=[.ref c,.str n]/\aF K H c fp s/\s.ws.length<=1000/\
 ((bA.withdraw n).due s=none->∀H' fp',aF K H' c fp' (Pc s n)->bS fp H H'->fL fp fp' H->Q .non H')/\∀cl,(bA.withdraw n).due s=some cl->Tx n/\cG K H E cl
noncomputable def fN(K:Qj):Sp:=cK 1 fun vs H Q=>∃(c:Qh)(fp:List Qh)(s:aL),vs=[.ref c]/\aF K H c fp s/\pQ s/\
 ((s.ps=[]\/s.cs=[])->∀t l H',H t=none->H l=none->t≠l->ar H H'->H' t=some (.tup [.ref l,.int 1])->H' l=some (.lst [])->Q (.ref t) H')/\
 (s.ps≠[]->s.cs≠[]->∀run t l ts H' fp',iX (bZ (cD s) (bq s)) (PF (aP s)) [] run->bS fp H H'->fL fp fp' H->aF K H' c fp' (c9 s (bY (aP s) (aX (bq s) (aP s) run)) (fE s) ((aX (bq s) (aP s) run).map (bT s)))->
  H t=none->H l=none->l∉fp'->H' t=some (.tup [.ref l,.int (fE s)])->mH H' l ts ((aX (bq s) (aP s) run).map (bT s))->(∀t'∈ts,∀y z r,H' t'=some (.tup [y,z,.ref r])->r≠l/\H r=none/\r∉fp')->Q (.ref t) H')
def lu(_:Qj):Sp:=cK 1 fun vs H Q=>∃(l:Qh)(rs:List (Qg×Int)),vs=[.ref l]/\ij H l rs/\rs.length<=20/\(∀p∈rs,Sm p.1/\Nb p.2)/\∀H',ar H H'->Q (.str (zX rs)) H'
def k8(_:Qj):Sp:=cK 3 fun vs H Q=>∃(l:Qh)(r:je),vs=[.str r.1,.int r.2.1,.ref l]/\ij H l r.2.2/\Sm r.1/\Nb r.2.1/\r.2.2.length<=20/\(∀p∈r.2.2,Sm p.1/\Nb p.2)/\∀H',ar H H'->Q (.str (dX r)) H'
noncomputable def iB(_:Qj):Sp:=cK 2 fun vs H Q=>∃(l:Qh)(ts:List Qh)(rs:List je)(g:Int),vs=[.ref l,.int g]/\mH H l ts rs/\rs.length<=12/\Nb g/\(∀r∈rs,Sm r.1/\Nb r.2.1/\r.2.2.length<=20/\∀p∈r.2.2,Sm p.1/\Nb p.2)/\∀H',ar H H'->Q (.str (jR rs g)) H'
def jA(K:Qj):Sp:=cK 1 fun vs H Q=>∃(c:Qh)(fp:List Qh)(s:aL),vs=[.ref c]/\aF K H c fp s/\ig s/\∀H' fp',aF K H' c fp' (fS s)->bS fp H H'->fL fp fp' H->Q (.str (eU s)) H'
noncomputable def lK(K:Qj):Sp:=cK 3 fun vs H Q=>∃(l:Qh)(r:Qg×Int×List Qg),vs=[.str r.1,.int r.2.1,.ref l]/\bo K H l (r.2.2.map V.str)/\Sm r.1/\Nb r.2.1/\r.2.2.length<=20/\(∀x∈r.2.2,Sm x)/\∀H',ar H H'->Q (.str (d9 r)) H'
noncomputable def ke(_:Qj):Sp:=cK 1 fun vs H Q=>∃(l:Qh)(ts:List Qh)(rs:List (Qg×Int×List Qg)),vs=[.ref l]/\AN H l ts rs/\rs.length<=12/\(∀r∈rs,Sm r.1/\Nb r.2.1/\r.2.2.length<=20/\∀x∈r.2.2,Sm x)/\∀H',ar H H'->Q (.str (jL rs)) H'
noncomputable def gK(K:Qj):Sp:=cK 2 fun vs H Q=>∃(c dx d1 d2 w:Qh)(n:Qg)(wt:List Qh)(s:aL),vs=[.ref c,.str n]/\H c=some (.ins (aq K "Chest") dx (iz d1 d2 w s.pot s.giv s.spt))/\H d1=some (.dK (eV s.ps))/\H w=some (.lst (wt.map V.ref))/\QE (B6 H) s.ws wt/\
 aT n/\(∀p∈s.ps,aT p.1)/\(∀p∈s.ws,aT p.1/\aT p.2)/\s.ps.length<=1000/\
 ∀l H',H l=none->ar H H'->H' l=some (.lst (((s.ps.map (·.1)).filter fun v=>decide ((v,n)∈s.ws)).map V.str))->Q (.ref l) H'
noncomputable def dH(K:Qj):Sp:=cK 1 fun vs H Q=>∃(c:Qh)(fp:List Qh)(s:aL),vs=[.ref c]/\aF K H c fp s/\(∀p∈s.ps,aT p.1)/\(∀p∈s.cs,aT p.1)/\(∀p∈s.ws,aT p.1/\aT p.2)/\s.ps.length<=1000/\s.cs.length<=1000/\
 ∀l ts H',H l=none->ar H H'->AN H' l ts (s.cs.map (iK s))->(∀t∈ts,∀x y w,H' t=some (.tup [x,y,.ref w])->w≠l/\H w=none)->Q (.ref l) H'
def iR(K:Qj):Sp:=cK 1 fun vs H Q=>∃(c:Qh)(fp:List Qh)(s:aL),vs=[.ref c]/\aF K H c fp s/\Q (.int s.pot) H
def fU(K:Qj):Sp:=cK 1 fun vs H Q=>∃(c:Qh)(fp:List Qh)(s:aL),vs=[.ref c]/\aF K H c fp s/\Q (.int s.giv) H
def gv(K:Qj):Sp:=cK 1 fun vs H Q=>∃(c:Qh)(fp:List Qh)(s:aL),vs=[.ref c]/\aF K H c fp s/\Q (.int s.spt) H
def qo(K:Qj):Sp:=fun vs H Q E=>vs.length=2/\∃(c:Qh)(w:Qg)(fp:List Qh)(s:aL),vs=[.ref c,.str w]/\aF K H c fp s/\ig s/\Tx w/\xG K (fun H' fp' s'=>aF K H' c fp' s') H fp s Q E (nk s w)
def qx(_:Qj):Sp:=cK 1 fun vs H Q=>∃z:Qg,vs=[.str z]/\aT z/\z.length<=100000/\∀H',ar H H'->Q (.bl (dE z)) H'
noncomputable def d7(K:Qj):Sp:=fun vs H Q E=>vs.length=2/\∃(z:Qg)(d:Qh)(kvs:List (Key×V)),vs=[.str z,.ref d]/\H d=some (.dK kvs)/\Tx z/\
 ((dE z=true/\iu kvs (.inr z)=none/\∀H',ar H H'->Q .non H')\/(dE z=false/\cG K H E "NoName")\/(dE z=true/\(iu kvs (.inr z)).isSome=true/\cG K H E "Twice"))
noncomputable def gh(K:Qj):Sp:=fun vs H Q E=>vs.length=2/\∃(d:Qh)(kvs:List (Key×V))(n:Int),vs=[.ref d,.int n]/\H d=some (.dK kvs)/\(n=12\/n=20)/\(((kvs.length:Int)<n/\Q .non H)\/(n<=(kvs.length:Int)/\cG K H E "Full"))
noncomputable def gd(K:Qj):Sp:=fun vs H Q E=>vs.length=2/\∃(c:Qh)(n:Qg)(fp:List Qh)(s:aL),vs=[.ref c,.str n]/\aF K H c fp s/\Tx n/\
 ((bA.enrol n).due s=none->∀H' fp',aF K H' c fp' ({s with ps:=s.ps++[(n,0)]})->bS fp H H'->fL fp fp' H->Q .non H')/\∀cl,(bA.enrol n).due s=some cl->cG K H E cl
noncomputable def cB(K:Qj):Sp:=fun vs H Q E=>vs.length=2/\∃(c:Qh)(n:Qg)(fp:List Qh)(s:aL),vs=[.ref c,.str n]/\aF K H c fp s/\((n∈s.ps.map (·.1)/\Q .non H)\/(n∉s.ps.map (·.1)/\Tx n/\cG K H E "NoVoter"))
noncomputable def fX(K:Qj):Sp:=fun vs H Q E=>vs.length=2/\∃(c:Qh)(n:Qg)(fp:List Qh)(s:aL),vs=[.ref c,.str n]/\aF K H c fp s/\Tx n/\(n∈s.ps.map (·.1)->Q (.int (vP s.ps n)) H)/\(n∉s.ps.map (·.1)->cG K H E "NoVoter")
noncomputable def fQ(K:Qj):Sp:=fun vs H Q E=>vs.length=2/\∃(c:Qh)(n:Qg)(fp:List Qh)(s:aL),vs=[.ref c,.str n]/\aF K H c fp s/\Tx n/\s.ws.length<=1000/\
 ((bA.leave n).due s=none->∀H' fp',aF K H' c fp' (Kx s n (vP s.ps n))->bS fp H H'->fL fp fp' H->Q .non H')/\∀cl,(bA.leave n).due s=some cl->cG K H E cl
def gA(K:Qj):Sp:=fun vs H Q E=>vs.length=2/\∃(x y:Int),vs=[.int x,.int y]/\(y=0\/y=1)/\((y<=x/\x<=1000000000/\Q .non H)\/((x<y\/1000000000<x)/\cG K H E "TooMuch"))
def jv(K:Qj):Sp:=cK 2 fun vs H Q=>∃(c:Qh)(x:Int)(fp:List Qh)(s:aL),vs=[.ref c,.int x]/\aF K H c fp s/\s.ps.length<=20/\
 ∀H' fp',aF K H' c fp' (vI s x)->bS fp H H'->fL fp fp' H->Q .non H'
noncomputable def g9(K:Qj):Sp:=fun vs H Q E=>vs.length=2/\∃(c:Qh)(x:Int)(fp:List Qh)(s:aL),vs=[.ref c,.int x]/\aF K H c fp s/\s.ps.length<=20/\
 ((bA.give x).due s=none->∀H' fp',aF K H' c fp' (uq s x)->bS fp H H'->fL fp fp' H->Q .non H')/\∀cl,(bA.give x).due s=some cl->cG K H E cl
def mB(_:Qj):Sp:=cK 1 fun vs H Q=>∃z:Qg,vs=[.str z]/\aT z/\z.length<=100000/\∀H',ar H H'->Q (.bl (iJ z)) H'
noncomputable def gk(K:Qj):Sp:=fun vs H Q E=>vs.length=1/\∃z:Qg,vs=[.str z]/\aT z/\z.length<=100000/\
 (iJ z=true->∀(n:Int) H',0<=n->n.natAbs.log2<1920->((toString n:String):Qg)=z->ar H H'->Q (.int n) H')/\(iJ z=false->∀H',ar H H'->E (.ref (aq K "NoRow")) none H')
noncomputable def ql(K:Qj):Sp:=fun vs H Q E=>vs.length=3/\∃(c:Qh)(w a:Qg)(fp:List Qh)(s:aL),vs=[.ref c,.str w,.str a]/\aF K H c fp s/\ig s/\Tx w/\Tx a/\xG K (fun H' fp' s'=>aF K H' c fp' s') H fp s Q E (act2 s w a)
noncomputable def eL(K:Qj):Sp:=fun vs H Q E=>vs.length=3/\∃(c:Qh)(n:Qg)(x:Int)(fp:List Qh)(s:aL),vs=[.ref c,.str n,.int x]/\aF K H c fp s/\Tx n/\
 ((bA.propose n x).due s=none->∀H' fp',aF K H' c fp' ({s with cs:=s.cs++[(n,x)]})->bS fp H H'->fL fp fp' H->Q .non H')/\∀cl,(bA.propose n x).due s=some cl->cG K H E cl
def JI(s:aL)(v n:Qg):aL:=if(v,n)∈s.ws then s else{s with ws:=s.ws++[(v,n)]}
noncomputable def ia(K:Qj):Sp:=fun vs H Q E=>vs.length=3/\∃(c:Qh)(v n:Qg)(fp:List Qh)(s:aL),vs=[.ref c,.str v,.str n]/\aF K H c fp s/\Tx v/\Tx n/\(∀p∈s.ws,aT p.1/\aT p.2)/\s.ws.length<=900/\
 ((bA.want v n).due s=none->∀H' fp',aF K H' c fp' (JI s v n)->bS fp H H'->fL fp fp' H->Q .non H')/\∀cl,(bA.want v n).due s=some cl->cG K H E cl
def PB(s:aL)(v n:Qg):aL:={s with ws:=s.ws.filter fun p=>!decide (p=(v,n))}
noncomputable def fm(K:Qj):Sp:=fun vs H Q E=>vs.length=3/\∃(c:Qh)(v n:Qg)(fp:List Qh)(s:aL),vs=[.ref c,.str v,.str n]/\aF K H c fp s/\Tx v/\Tx n/\(∀p∈s.ws,aT p.1/\aT p.2)/\s.ws.length<=900/\
 ((bA.unwant v n).due s=none->∀H' fp',aF K H' c fp' (PB s v n)->bS fp H H'->fL fp fp' H->Q .non H')/\∀cl,(bA.unwant v n).due s=some cl->cG K H E cl
noncomputable def kZ(K:Qj):Sp:=fun vs H Q E=>vs.length=4/\∃(c:Qh)(w a b:Qg)(fp:List Qh)(s:aL),vs=[.ref c,.str w,.str a,.str b]/\aF K H c fp s/\ig s/\Tx w/\Tx a/\Tx b/\xG K (fun H' fp' s'=>aF K H' c fp' s') H fp s Q E (se s w a b)
def jS(K:Qj):Sp:=fun vs H Q E=>vs.length=2/\∃(d:Qh)(row:Qg)(fp:List Qh)(s:aL),vs=[.ref d,.str row]/\cf K H d fp s/\ig s/\Tx row/\xG K (fun H' fp' s'=>cf K H' d fp' s') H fp s Q E (dZ s row)
noncomputable def cj(K:Qj):Sp:=cK 2 fun vs H Q=>∃(d:Qh)(row:Qg)(fp:List Qh)(s:aL),vs=[.ref d,.str row]/\cf K H d fp s/\ig s/\Tx row/\∀v H' fp',cf K H' d fp' (kD s (dZ s row))->bS fp H H'->fL fp fp' H->jF nR H H' v (iL s (dZ s row))->(∀l,v=.ref l->l∉fp')->Q v H'
def gf(K:Qj):Sp:=cK 1 fun vs H Q=>∃(c:Qh)(fp:List Qh)(s:aL),vs=[.ref c]/\aF K H c fp s/\ig s/\∀H' fp',aF K H' c fp' (fS s)->bS fp H H'->fL fp fp' H->Q (.str (eU s)) H'
def bN(_:Qj):Sp:=cK 2 fun vs H Q=>∃(c:Int)(k:Nat),vs=[.int c,.int k]/\k<=1000/\∀H',ar H H'->Q (.str (cU c k)) H'
noncomputable def iW(K:Qj):Sp:=fun vs H Q E=>vs.length=3/\∃(c lt:Qh)(fp:List Qh)(s:aL)(D:bA),vs=[.ref c,.str D.word,.ref lt]/\H lt=some (.lst D.things)/\aF K H c fp s/\D.tx/\s.ps.length<=20/\(∀p∈s.ws,aT p.1/\aT p.2)/\s.ws.length<=900/\
 (D.due s=none->∀H' fp',aF K H' c fp' (D.app s)->bS fp H H'->fL fp fp' H->Q .non H')/\∀cl,D.due s=some cl->cG K H E cl
noncomputable def eF(K:Qj):Sp:=cK 3 fun vs H Q=>∃(c lt:Qh)(fp:List Qh)(s:aL)(D:bA),vs=[.ref c,.str D.word,.ref lt]/\H lt=some (.lst D.things)/\aF K H c fp s/\D.tx/\ig s/\∀v H' fp',aF K H' c fp' (kD s (.deed D))->bS fp H H'->fL fp fp' H->jF nR H H' v (iL s (.deed D))->(∀l,v=.ref l->l∉fp')->Q v H'
noncomputable def mE(K:Qj):Sp:=cK 3 fun vs H Q=>∃(d c:Qh)(f1 f2:List Qh)(s:aL)(n:Nat)(k:Int),vs=[.ref d,.ref c,.int k]/\cf K H d f1 s/\aF K H c f2 s/\(∀a∈f1,a∉f2)/\cM n s/\n<=10/\∀H' s',DC K d c H H' (f1++f2) s' []->cM (n+200) s'->Q (.bl true) H'
def du(K:Qj):Sp:=cK 1 fun vs H Q=>∃(c:Qh)(fp:List Qh)(s:aL),vs=[.ref c]/\aF K H c fp s/\∀l H',H l=none->ar H H'->ij H' l s.ps->Q (.ref l) H'
noncomputable def lX(K:Qj):Sp:=cK 3 fun vs H Q=>∃(a c:Qh)(xs:List Int)(fp:List Qh)(s:aL)(m:Bool),vs=[.ref a,.ref c,.bl m]/\bo K H a (xs.map V.int)/\7<=xs.length/\aF K H c fp s/\ig s/\∀w H',w∈DW->ar H H'->Q (.str w) H'
def eh(_:Qj):Sp:=cK 2 fun vs H Q=>∃(z:Qg)(x:Int),vs=[.str z,.int x]/\dE z=true/\∀z' H',EY z'->ar H H'->Q (.str z') H'
def gw(_:Qj):Sp:=cK 1 fun vs H Q=>∃x:Int,vs=[.int x]/\0<=x/\x<1000000000/\∀n H',Am n->ar H H'->Q (.int n) H'
noncomputable def ma(K:Qj):Sp:=cK 4 fun vs H Q=>∃(a c:Qh)(xs:List Int)(k:Int)(fp:List Qh)(s:aL)(m:Bool),vs=[.ref a,.int k,.ref c,.bl m]/\bo K H a (xs.map V.int)/\7<=xs.length/\(∀x∈xs,0<=x/\x<1000000000)/\aF K H c fp s/\ig s/\∀(D:bA) t lt H',D.ok->H t=none->H lt=none->ar H H'->H' t=some (.tup [.str D.word,.ref lt])->H' lt=some (.lst D.things)->Q (.ref t) H'
noncomputable def j9(K:Qj):Sp:=cK 2 fun vs H Q=>∃(c:Qh)(fp:List Qh)(s:aL)(z:Qg),vs=[.ref c,.str z]/\aF K H c fp s/\ig s/\(s.ps.map (·.1)).Nodup/\(z∈s.ps.map (·.1)->∀H',ar H H'->Q (.str (iT (vP s.ps z))) H')/\(z∉s.ps.map (·.1)->∀l H',H l=none->ar H H'->H' l=some (.lst ((nR "NoVoter").map V.bl))->Q (.ref l) H')
def ku(K:Qj):Sp:=cK 1 fun vs H Q=>∃(c:Qh)(fp:List Qh)(s:aL),vs=[.ref c]/\aF K H c fp s/\ig s/\∀H',ar H H'->Q (.str (jL (s.cs.map (iK s)))) H'
noncomputable def eG(K:Qj):Sp:=cK 4 fun vs H Q=>∃(d c:Qh)(f1 f2:List Qh)(s:aL)(n:Nat)(w:Int)(z:Qg),vs=[.ref d,.ref c,.int w,.str z]/\cf K H d f1 s/\aF K H c f2 s/\(∀a∈f1,a∉f2)/\cM n s/\EY z/\∀H',DC K d c H H' (f1++f2) s []->Q (.bl true) H'
noncomputable def oq(K:Qj):Sp:=cK 6 fun vs H Q=>∃(d c a:Qh)(xs:List Int)(f1 f2:List Qh)(s:aL)(n:Nat)(k j:Int)(m:Bool),vs=[.ref d,.ref c,.ref a,.int k,.bl m,.int j]/\bo K H a (xs.map V.int)/\7<=xs.length/\(∀x∈xs,0<=x/\x<1000000000)/\cf K H d f1 s/\aF K H c f2 s/\(∀a∈f1,a∉f2)/\cM n s/\n+1<=900/\∀H' s',DC K d c H H' (f1++f2) s' []->cM (n+1) s'->Q (.bl true) H'
def top(i:Nat):Qs:=PySem.Challenge.pw_purse_k52_rows_at_a_desk.main.body.getD i (.Pass ⟨0,0,0,0⟩)
abbrev xI:Qs:=top 62
theorem uz:aC ["script","k","cell"] ["script","k"] (ao xI):=⟨rfl,rfl,rfl,nofun,rfl,nofun,nofun⟩
abbrev kT:Qs:=inClass (top 43) 0
theorem rV:aC ["self"] ["self"] (ao kT):=⟨rfl,rfl,rfl,nofun,rfl,nofun,nofun⟩
abbrev mR:Qs:=inClass (top 60) 0
theorem sQ:aC ["self"] ["self"] (ao mR):=⟨rfl,rfl,rfl,nofun,rfl,nofun,nofun⟩
abbrev r8:Qs:=top 63
theorem hV:aC ["cell","many","spins","k","turn"] ["cell","many"] (ao r8):=⟨rfl,rfl,rfl,nofun,rfl,nofun,nofun⟩
abbrev oI:Qs:=top 65
theorem mS:aC ["e","kinds"] ["e"] (ao oI):=⟨rfl,rfl,rfl,nofun,rfl,nofun,nofun⟩
abbrev rE:Qs:=top 47
theorem pV:aC ["row","words"] ["row"] (ao rE):=⟨rfl,rfl,rfl,nofun,rfl,nofun,nofun⟩
abbrev kE:Qs:=top 5
theorem gg:aC ["step","number","multiple"] ["step","number"] (ao kE):=⟨rfl,rfl,rfl,nofun,rfl,nofun,nofun⟩
abbrev wG:Qs:=top 6
theorem jZ:aC ["n","least","number"] ["n"] (ao wG):=⟨rfl,rfl,rfl,nofun,rfl,nofun,nofun⟩
abbrev uc:Qs:=top 7
theorem gq:aC ["voters","works","factor","grains","work"] ["voters","works"] (ao uc):=⟨rfl,rfl,rfl,nofun,rfl,nofun,nofun⟩
abbrev Af:Qs:=top 22
theorem EE:aC ["steps","voter"] ["steps","voter"] (ao Af):=⟨rfl,rfl,rfl,nofun,rfl,nofun,nofun⟩
abbrev zA:Qs:=top 23
theorem ER:aC ["purses","steps"] ["purses","steps"] (ao zA):=⟨rfl,rfl,rfl,nofun,rfl,nofun,nofun⟩
abbrev uO:Qs:=top 15
theorem rD:aC ["costs","wishes","grains"] ["costs","wishes"] (ao uO):=⟨rfl,rfl,rfl,nofun,rfl,nofun,nofun⟩
abbrev rT:Qs:=top 2
theorem yu:aC ["amount","shares"] ["amount","shares"] (ao rT):=⟨rfl,rfl,rfl,nofun,rfl,nofun,nofun⟩
abbrev ub:Qs:=top 3
theorem eN:aC ["purses","price","missing","payers","purse"] ["purses","price"] (ao ub):=⟨rfl,rfl,rfl,nofun,rfl,nofun,nofun⟩
abbrev uL:Qs:=top 11
theorem Ba:aC ["wanted","works"] ["wanted","works"] (ao uL):=⟨rfl,rfl,rfl,nofun,rfl,nofun,nofun⟩
abbrev uB:Qs:=top 13
theorem BC:aC ["wishes","works"] ["wishes","works"] (ao uB):=⟨rfl,rfl,rfl,nofun,rfl,nofun,nofun⟩
abbrev rg:Qs:=top 12
theorem yT:aC ["wishes","work"] ["wishes","work"] (ao rg):=⟨rfl,rfl,rfl,nofun,rfl,nofun,nofun⟩
abbrev xE:Qs:=top 16
theorem Ce:aC ["purses","wishes","work","price"] ["purses","wishes","work","price"] (ao xE):=⟨rfl,rfl,rfl,nofun,rfl,nofun,nofun⟩
abbrev tZ:Qs:=top 17
theorem iU:aC ["purses","costs","wishes","done","offers","work","price"] ["purses","costs","wishes","done"] (ao tZ):=⟨rfl,rfl,rfl,nofun,rfl,nofun,nofun⟩
abbrev Ao:Qs:=top 18
theorem jg:aC ["offers","best","work","offer"] ["offers"] (ao Ao):=⟨rfl,rfl,rfl,nofun,rfl,nofun,nofun⟩
abbrev vH:Qs:=top 21
theorem CM:aC ["steps"] ["steps"] (ao vH):=⟨rfl,rfl,rfl,nofun,rfl,nofun,nofun⟩
abbrev Aa:Qs:=top 1
theorem EC:aC ["purses","level"] ["purses","level"] (ao Aa):=⟨rfl,rfl,rfl,nofun,rfl,nofun,nofun⟩
abbrev qg:Qs:=top 20
theorem ot:aC ["purses","wishes","work","level","wanters"] ["purses","wishes","work","level"] (ao qg):=⟨rfl,rfl,rfl,nofun,rfl,nofun,nofun⟩
abbrev pY:Qs:=top 24
theorem eC:aC ["purses","costs","wishes","steps","left","offers","work","level"] ["purses","costs","wishes","steps"] (ao pY):=⟨rfl,rfl,rfl,nofun,rfl,nofun,nofun⟩
abbrev CK:Qs:=top 25
theorem o7:aC ["purses","costs","wishes","steps","step"] ["purses","costs","wishes"] (ao CK):=⟨rfl,rfl,rfl,nofun,rfl,nofun,nofun⟩
abbrev jC:Qs:=inClass (top 43) 21
theorem ph:aC ["self","left","grains"] ["self","left","grains"] (ao jC):=⟨rfl,rfl,rfl,nofun,rfl,nofun,nofun⟩
abbrev gE:Qs:=inClass (top 43) 8
theorem mf:aC ["self","voter"] ["self","voter"] (ao gE):=⟨rfl,rfl,rfl,nofun,rfl,nofun,nofun⟩
abbrev jY:Qs:=inClass (top 43) 20
theorem fz:aC ["self","place","paid","name","rows"] ["self","place","paid"] (ao jY):=⟨rfl,rfl,rfl,nofun,rfl,nofun,nofun⟩
abbrev jE:Qs:=inClass (top 43) 10
theorem pD:aC ["self","work"] ["self","work"] (ao jE):=⟨rfl,rfl,rfl,nofun,rfl,nofun,nofun⟩
abbrev kL:Qs:=inClass (top 43) 16
theorem su:aC ["self","work"] ["self","work"] (ao kL):=⟨rfl,rfl,rfl,nofun,rfl,nofun,nofun⟩
abbrev pX:Qs:=inClass (top 43) 19
theorem cI:aC ["self","grains","purses","wishes","steps","told","name","cost","rows"] ["self"] (ao pX):=⟨rfl,rfl,rfl,nofun,rfl,nofun,nofun⟩
abbrev uo:Qs:=top 51
theorem BX:aC ["rows"] ["rows"] (ao uo):=⟨rfl,rfl,rfl,nofun,rfl,nofun,nofun⟩
abbrev uQ:Qs:=top 52
theorem rq:aC ["work","cost","rows","payers"] ["work","cost","rows"] (ao uQ):=⟨rfl,rfl,rfl,nofun,rfl,nofun,nofun⟩
abbrev nI:Qs:=top 53
theorem mO:aC ["done","grains","told"] ["done","grains"] (ao nI):=⟨rfl,rfl,rfl,nofun,rfl,nofun,nofun⟩
abbrev pF:Qs:=top 56
theorem nV:aC ["chest","closing"] ["chest"] (ao pF):=⟨rfl,rfl,rfl,nofun,rfl,nofun,nofun⟩
abbrev ud:Qs:=top 54
theorem sA:aC ["work","cost","wanters","names"] ["work","cost","wanters"] (ao ud):=⟨rfl,rfl,rfl,nofun,rfl,nofun,nofun⟩
abbrev rU:Qs:=top 55
theorem y8:aC ["works"] ["works"] (ao rU):=⟨rfl,rfl,rfl,nofun,rfl,nofun,nofun⟩
abbrev mY:Qs:=inClass (top 43) 7
theorem sW:aC ["self","work"] ["self","work"] (ao mY):=⟨rfl,rfl,rfl,nofun,rfl,nofun,nofun⟩
abbrev pU:Qs:=inClass (top 43) 2
theorem xj:aC ["self"] ["self"] (ao pU):=⟨rfl,rfl,rfl,nofun,rfl,nofun,nofun⟩
abbrev uk:Qs:=inClass (top 43) 3
theorem AM:aC ["self"] ["self"] (ao uk):=⟨rfl,rfl,rfl,nofun,rfl,nofun,nofun⟩
abbrev p8:Qs:=inClass (top 43) 4
theorem wb:aC ["self"] ["self"] (ao p8):=⟨rfl,rfl,rfl,nofun,rfl,nofun,nofun⟩
abbrev qf:Qs:=inClass (top 43) 5
theorem wQ:aC ["self"] ["self"] (ao qf):=⟨rfl,rfl,rfl,nofun,rfl,nofun,nofun⟩
abbrev Ak:Qs:=top 57
theorem Ew:aC ["chest","deed"] ["chest","deed"] (ao Ak):=⟨rfl,rfl,rfl,nofun,rfl,nofun,nofun⟩
abbrev zB:Qs:=top 39
theorem EK:aC ["name"] ["name"] (ao zB):=⟨rfl,rfl,rfl,nofun,rfl,nofun,nofun⟩
abbrev kN:Qs:=top 40
theorem rR:aC ["name","names"] ["name","names"] (ao kN):=⟨rfl,rfl,rfl,nofun,rfl,nofun,nofun⟩
abbrev pS:Qs:=top 42
theorem vM:aC ["names","most"] ["names","most"] (ao pS):=⟨rfl,rfl,rfl,nofun,rfl,nofun,nofun⟩
abbrev pL:Qs:=inClass (top 43) 11
theorem xD:aC ["self","name"] ["self","name"] (ao pL):=⟨rfl,rfl,rfl,nofun,rfl,nofun,nofun⟩
abbrev iI:Qs:=inClass (top 43) 9
theorem oH:aC ["self","voter"] ["self","voter"] (ao iI):=⟨rfl,rfl,rfl,nofun,rfl,nofun,nofun⟩
abbrev kS:Qs:=inClass (top 43) 6
theorem sq:aC ["self","voter"] ["self","voter"] (ao kS):=⟨rfl,rfl,rfl,nofun,rfl,nofun,nofun⟩
abbrev pE:Qs:=inClass (top 43) 12
theorem xl:aC ["self","name"] ["self","name"] (ao pE):=⟨rfl,rfl,rfl,nofun,rfl,nofun,nofun⟩
abbrev pH:Qs:=top 41
theorem w6:aC ["coins","least"] ["coins","least"] (ao pH):=⟨rfl,rfl,rfl,nofun,rfl,nofun,nofun⟩
abbrev qi:Qs:=inClass (top 43) 14
theorem x9:aC ["self","part"] ["self","part"] (ao qi):=⟨rfl,rfl,rfl,nofun,rfl,nofun,nofun⟩
abbrev rH:Qs:=inClass (top 43) 13
theorem yB:aC ["self","coins"] ["self","coins"] (ao rH):=⟨rfl,rfl,rfl,nofun,rfl,nofun,nofun⟩
abbrev uF:Qs:=top 48
theorem BK:aC ["word"] ["word"] (ao uF):=⟨rfl,rfl,rfl,nofun,rfl,nofun,nofun⟩
abbrev pM:Qs:=top 49
theorem xR:aC ["word"] ["word"] (ao pM):=⟨rfl,rfl,rfl,nofun,rfl,nofun,nofun⟩
abbrev Ac:Qs:=top 58
theorem EV:aC ["chest","deed","word"] ["chest","deed","word"] (ao Ac):=⟨rfl,rfl,rfl,nofun,rfl,nofun,nofun⟩
abbrev nh:Qs:=inClass (top 43) 15
theorem tf:aC ["self","work","cost"] ["self","work","cost"] (ao nh):=⟨rfl,rfl,rfl,nofun,rfl,nofun,nofun⟩
abbrev sr:Qs:=inClass (top 43) 17
theorem yk:aC ["self","voter","work"] ["self","voter","work"] (ao sr):=⟨rfl,rfl,rfl,nofun,rfl,nofun,nofun⟩
abbrev oK:Qs:=inClass (top 43) 18
theorem vb:aC ["self","voter","work"] ["self","voter","work"] (ao oK):=⟨rfl,rfl,rfl,nofun,rfl,nofun,nofun⟩
abbrev ug:Qs:=top 59
theorem A8:aC ["chest","deed","word","last"] ["chest","deed","word","last"] (ao ug):=⟨rfl,rfl,rfl,nofun,rfl,nofun,nofun⟩
abbrev vY:Qs:=inClass (top 60) 1
theorem uI:aC ["self","row","words"] ["self","row"] (ao vY):=⟨rfl,rfl,rfl,nofun,rfl,nofun,nofun⟩
abbrev uG:Qs:=top 66
theorem fP:aC ["desk","row","caught","answer","e"] ["desk","row"] (ao uG):=⟨rfl,rfl,rfl,nofun,rfl,nofun,nofun⟩
abbrev qd:Qs:=top 69
theorem df:aC ["chest","told","grains","parts","work","cost","rows"] ["chest"] (ao qd):=⟨rfl,rfl,rfl,nofun,rfl,nofun,nofun⟩
abbrev uP:Qs:=top 64
theorem eJ:aC ["cell","k","letters","xs","word","at"] ["cell","k"] (ao uP):=⟨rfl,rfl,rfl,nofun,rfl,nofun,nofun⟩
abbrev uA:Qs:=top 67
theorem Bs:aC ["chest","word","things"] ["chest","word","things"] (ao uA):=⟨rfl,rfl,rfl,nofun,rfl,nofun,nofun⟩
abbrev uM:Qs:=top 68
theorem iS:aC ["chest","word","things","caught","e"] ["chest","word","things"] (ao uM):=⟨rfl,rfl,rfl,nofun,rfl,nofun,nofun⟩
abbrev uh:Qs:=top 77
theorem eI:aC ["desk","chest","cell","k","work","j","name"] ["desk","chest","cell"] (ao uh):=⟨rfl,rfl,rfl,nofun,rfl,nofun,nofun⟩
abbrev nJ:Qs:=inClass (top 43) 1
theorem vc:aC ["self"] ["self"] (ao nJ):=⟨rfl,rfl,rfl,nofun,rfl,nofun,nofun⟩
abbrev uv:Qs:=top 75
theorem lj:aC ["xs","chest","most","words","word"] ["xs","chest","most"] (ao uv):=⟨rfl,rfl,rfl,nofun,rfl,nofun,nofun⟩
abbrev p9:Qs:=top 74
theorem jm:aC ["name","x","at","signs"] ["name","x"] (ao p9):=⟨rfl,rfl,rfl,nofun,rfl,nofun,nofun⟩
abbrev p7:Qs:=top 73
theorem xw:aC ["x"] ["x"] (ao p7):=⟨rfl,rfl,rfl,nofun,rfl,nofun,nofun⟩
abbrev ue:Qs:=top 76
theorem cS:aC ["xs","cell","chest","most","word","people","plans","name","work"] ["xs","cell","chest","most"] (ao ue):=⟨rfl,rfl,rfl,nofun,rfl,nofun,nofun⟩
abbrev sG:Qs:=top 71
theorem kd:aC ["chest","name","one","coffer"] ["chest","name"] (ao sG):=⟨rfl,rfl,rfl,nofun,rfl,nofun,nofun⟩
abbrev rn:Qs:=top 70
theorem dY:aC ["chest","parts","work","cost","names","wanters"] ["chest"] (ao rn):=⟨rfl,rfl,rfl,nofun,rfl,nofun,nofun⟩
abbrev ng:Qs:=top 72
theorem tu:aC ["desk","chest","way","name"] ["desk","chest","way","name"] (ao ng):=⟨rfl,rfl,rfl,nofun,rfl,nofun,nofun⟩
abbrev xi:Qs:=top 78
theorem jQ:aC ["desk","chest","xs","cell","most","closings","word","things","row"] ["desk","chest","xs","cell","most","closings"] (ao xi):=⟨rfl,rfl,rfl,nofun,rfl,nofun,nofun⟩
abbrev CV:Qs:=top 79
theorem iF:aC ["script","first","cell","desk","chest","closings","one","xs","names","k","way"] ["script"] (ao CV):=⟨rfl,rfl,rfl,nofun,rfl,nofun,nofun⟩
structure il(K:Qj):Prop where
 Je:(RN K (aq K "NoName")).isSome=true
 GD:nP K (aq K "NoName")
 Ll:(RN K (aq K "Twice")).isSome=true
 Ke:nP K (aq K "Twice")
 HS:(RN K (aq K "NoVoter")).isSome=true
 EH:nP K (aq K "NoVoter")
 Jo:(RN K (aq K "NoWork")).isSome=true
 Gu:nP K (aq K "NoWork")
 HI:(RN K (aq K "TooMuch")).isSome=true
 Fm:nP K (aq K "TooMuch")
 NI:(RN K (aq K "Full")).isSome=true
 Lb:nP K (aq K "Full")
 Ly:(RN K (aq K "NoRow")).isSome=true
 Kh:nP K (aq K "NoRow")
 pb:Sa K (.ref (aq K "NoName")) (.ref (aq K "PurseError"))=some true
 px:QD K (.ref (aq K "NoName")) (.type "ValueError")=some true
 u9:QD K (.ref (aq K "NoName")) (.ref (aq K "NoName"))=some true
 vV:QD K (.ref (aq K "NoName")) (.ref (aq K "Twice"))=some false
 tH:QD K (.ref (aq K "NoName")) (.ref (aq K "NoVoter"))=some false
 uW:QD K (.ref (aq K "NoName")) (.ref (aq K "NoWork"))=some false
 sN:QD K (.ref (aq K "NoName")) (.ref (aq K "TooMuch"))=some false
 zi:QD K (.ref (aq K "NoName")) (.ref (aq K "Full"))=some false
 vO:QD K (.ref (aq K "NoName")) (.ref (aq K "NoRow"))=some false
 qV:Sa K (.ref (aq K "Twice")) (.ref (aq K "PurseError"))=some true
 qj:QD K (.ref (aq K "Twice")) (.type "ValueError")=some true
 vF:QD K (.ref (aq K "Twice")) (.ref (aq K "NoName"))=some false
 yS:QD K (.ref (aq K "Twice")) (.ref (aq K "Twice"))=some true
 vf:QD K (.ref (aq K "Twice")) (.ref (aq K "NoVoter"))=some false
 xk:QD K (.ref (aq K "Twice")) (.ref (aq K "NoWork"))=some false
 vj:QD K (.ref (aq K "Twice")) (.ref (aq K "TooMuch"))=some false
 Br:QD K (.ref (aq K "Twice")) (.ref (aq K "Full"))=some false
 yo:QD K (.ref (aq K "Twice")) (.ref (aq K "NoRow"))=some false
 oF:Sa K (.ref (aq K "NoVoter")) (.ref (aq K "PurseError"))=some true
 oj:QD K (.ref (aq K "NoVoter")) (.type "ValueError")=some true
 sO:QD K (.ref (aq K "NoVoter")) (.ref (aq K "NoName"))=some false
 vp:QD K (.ref (aq K "NoVoter")) (.ref (aq K "Twice"))=some false
 rY:QD K (.ref (aq K "NoVoter")) (.ref (aq K "NoVoter"))=some true
 tm:QD K (.ref (aq K "NoVoter")) (.ref (aq K "NoWork"))=some false
 sv:QD K (.ref (aq K "NoVoter")) (.ref (aq K "TooMuch"))=some false
 yc:QD K (.ref (aq K "NoVoter")) (.ref (aq K "Full"))=some false
 uZ:QD K (.ref (aq K "NoVoter")) (.ref (aq K "NoRow"))=some false
 pf:Sa K (.ref (aq K "NoWork")) (.ref (aq K "PurseError"))=some true
 pC:QD K (.ref (aq K "NoWork")) (.type "ValueError")=some true
 va:QD K (.ref (aq K "NoWork")) (.ref (aq K "NoName"))=some false
 vK:QD K (.ref (aq K "NoWork")) (.ref (aq K "Twice"))=some false
 tT:QD K (.ref (aq K "NoWork")) (.ref (aq K "NoVoter"))=some false
 vd:QD K (.ref (aq K "NoWork")) (.ref (aq K "NoWork"))=some true
 tD:QD K (.ref (aq K "NoWork")) (.ref (aq K "TooMuch"))=some false
 yw:QD K (.ref (aq K "NoWork")) (.ref (aq K "Full"))=some false
 xr:QD K (.ref (aq K "NoWork")) (.ref (aq K "NoRow"))=some false
 oA:Sa K (.ref (aq K "TooMuch")) (.ref (aq K "PurseError"))=some true
 oi:QD K (.ref (aq K "TooMuch")) (.type "ValueError")=some true
 tR:QD K (.ref (aq K "TooMuch")) (.ref (aq K "NoName"))=some false
 uV:QD K (.ref (aq K "TooMuch")) (.ref (aq K "Twice"))=some false
 rS:QD K (.ref (aq K "TooMuch")) (.ref (aq K "NoVoter"))=some false
 tE:QD K (.ref (aq K "TooMuch")) (.ref (aq K "NoWork"))=some false
 rL:QD K (.ref (aq K "TooMuch")) (.ref (aq K "TooMuch"))=some true
 wF:QD K (.ref (aq K "TooMuch")) (.ref (aq K "Full"))=some false
 u4:QD K (.ref (aq K "TooMuch")) (.ref (aq K "NoRow"))=some false
 rG:Sa K (.ref (aq K "Full")) (.ref (aq K "PurseError"))=some true
 rB:QD K (.ref (aq K "Full")) (.type "ValueError")=some true
 zj:QD K (.ref (aq K "Full")) (.ref (aq K "NoName"))=some false
 BA:QD K (.ref (aq K "Full")) (.ref (aq K "Twice"))=some false
 xp:QD K (.ref (aq K "Full")) (.ref (aq K "NoVoter"))=some false
 yx:QD K (.ref (aq K "Full")) (.ref (aq K "NoWork"))=some false
 wM:QD K (.ref (aq K "Full")) (.ref (aq K "TooMuch"))=some false
 DQ:QD K (.ref (aq K "Full")) (.ref (aq K "Full"))=some true
 BV:QD K (.ref (aq K "Full")) (.ref (aq K "NoRow"))=some false
 qF:Sa K (.ref (aq K "NoRow")) (.ref (aq K "PurseError"))=some true
 qH:QD K (.ref (aq K "NoRow")) (.type "ValueError")=some true
 yh:QD K (.ref (aq K "NoRow")) (.ref (aq K "NoName"))=some false
 zg:QD K (.ref (aq K "NoRow")) (.ref (aq K "Twice"))=some false
 ve:QD K (.ref (aq K "NoRow")) (.ref (aq K "NoVoter"))=some false
 wO:QD K (.ref (aq K "NoRow")) (.ref (aq K "NoWork"))=some false
 vk:QD K (.ref (aq K "NoRow")) (.ref (aq K "TooMuch"))=some false
 AA:QD K (.ref (aq K "NoRow")) (.ref (aq K "Full"))=some false
 yG:QD K (.ref (aq K "NoRow")) (.ref (aq K "NoRow"))=some true
 aQ:L2.il K (aq K "Chest")
 aV:dC K (aq K "Chest") "purses"
 bW:dC K (aq K "Chest") "costs"
 cc:dC K (aq K "Chest") "wishes"
 cR:dC K (aq K "Chest") "unshared"
 km:dC K (aq K "Chest") "gifts"
 jI:dC K (aq K "Chest") "outlay"
 B2:L2.il K (aq K "Desk")
 iQ:dC K (aq K "Desk") "chest"
def nQ(K:Qj):TS:=
 (aH (nA (dm K (Ik (GQ K) (af 0) (jV (af 1)) (jV (aN gC (af 1) (tC (.int 1)))))) (av 2) (bp (af 2)))
  (bp (tC (.int 0))))
noncomputable def gj(K:Qj):TS:=
 (aH (sE K (af 0) Bw "purses")
  (aH (sE K (af 0) Bw "costs")
  (aH (sE K (af 0) (fK au) "wishes")
  (aH (sE K (af 0) (tC (.int 0)) "unshared")
  (aH (sE K (af 0) (tC (.int 0)) "gifts")
  (sE K (af 0) (tC (.int 0)) "outlay"))))))
def gM(K:Qj):TS:=
 (sE K (af 0) (zx (aq K "Chest") (d8 K) [] E0 au) "chest")
noncomputable def kj(K:Qj):TS:=
 (aH (bM (fK au) (av 2))
  (aH (nA (uf (ae (af 1) au)) (av 3) (aH (bM (aN gC (aN gC (aN oMod (af 0) (tC (.int 900900929))) (aN nu (tC (.int 2503)) (af 3))) (tC (.int 77))) (av 4))
  (cZ (zW K "list" jU (af 2) (ae (aN oMod (aN oDiv (aN nu (aN nu (af 4) (af 4)) (aN gC (af 4) (aN nu (tC (.int 31)) (af 3)))) (tC (.int 13))) (tC (.int 700700003))) au)))))
  (bp (af 2))))
noncomputable def iE(K:Qj):TS:=
 (aH (bM (fK (ae (eX (Bg K) (ae (af 0) (ae (tC (.ref (aq K "NoName"))) au))) (ae (eX (Bg K) (ae (af 0) (ae (tC (.ref (aq K "Twice"))) au))) (ae (eX (Bg K) (ae (af 0) (ae (tC (.ref (aq K "NoVoter"))) au))) (ae (eX (Bg K) (ae (af 0) (ae (tC (.ref (aq K "NoWork"))) au))) au))))) (av 1))
  (bp (aN E7 (af 1) (fK (ae (eX (Bg K) (ae (af 0) (ae (tC (.ref (aq K "TooMuch"))) au))) (ae (eX (Bg K) (ae (af 0) (ae (tC (.ref (aq K "Full"))) au))) (ae (eX (Bg K) (ae (af 0) (ae (tC (.ref (aq K "NoRow"))) au))) (ae (eX (Bg K) (ae (af 0) (ae (tC (.ty "ValueError")) au))) au))))))))
noncomputable def kq(K:Qj)(E:XK):TS:=
 (aH (bM (zW K "str" Jz (af 0) (ae (tC (.str " ")) au)) (av 1))
  (aH (bO (aZ (aN (Nm K false) (tC (.str "")) (af 1))) (fq (aq K "NoRow") E (ae (zG [(tC (.str "no row: ")),(pW (af 0))] QO) au)) bB)
  (bp (af 1))))
def gs(K:Qj):TS:=
 (aH (bM (af 0) (av 2))
  (aH (Fo (aZ (aN Ma (aN oMod (af 2) (af 1)) (tC (.int 0)))) (Er 2 (af 0) gC))
  (bp (af 2))))
noncomputable def nK(K:Qj):TS:=
 (aH (bM (tC (.int 1)) (av 1))
  (aH (nA (JK (ae (tC (.int 1)) (ae (aN gC (af 0) (tC (.int 1))) au))) (av 2) (bM (aO (gu K) [] E0 (ae (af 1) (ae (af 2) au))) (av 1)))
  (bp (af 1))))
def mj(K:Qj):TS:=
 (aH (bM (aO (oJ K) [] E0 (ae (af 0) au)) (av 2))
  (aH (bM (af 2) (av 3))
  (aH (nA (uf (ae (af 1) au)) (av 4) (Er 3 (af 2) nu))
  (bp (af 3)))))
def qC(K:Qj):TS:=
 (bp (eX (GL K) (ae (cy [none,none,none,some 1] (dm K (af 0)) (d0 K 3 (bj (av 0) (bj (av 1) (bj (av 2) eB)))) eA (aN (cP K) (af 2) (af 3))) au)))
def qt(K:Qj):TS:=
 (bp (cy [none,none,some 1] (xn K (af 0)) (d0 K 2 (bj (av 0) (bj (av 1) eB))) eA (aN zo (af 1) (aO (qM K) [] E0 (ae (af 2) (ae (af 0) au))))))
noncomputable def lg(K:Qj):TS:=
 (aH (bM (aO (iY K) [] E0 (ae (eX (jd K) (ae (af 1) au)) (ae (eX (jd K) (ae (af 0) au)) au))) (av 2))
  (bp (cy [none,some 2] (dm K (af 0)) (av 0) eA (aN nu (af 0) (af 1)))))
def kc(K:Qj):TS:=
 (bp (aN oDiv (aN zo (aN gC (af 0) (af 1)) (tC (.int 1))) (af 1)))
noncomputable def lE(K:Qj):TS:=
 (aH (bO (aZ (aN oLt (eX (GL K) (ae (af 0) au)) (af 1))) (bp (tC .non)) bB)
  (aH (bM (af 1) (av 2))
  (aH (bM (eX (jd K) (ae (af 0) au)) (av 3))
  (aH (nA (dm K (eX (FD K) (ae (af 0) au))) (av 4) (aH (bO (aZ (aN NW (aN nu (af 4) (af 3)) (af 2))) (bp (aO (kx K) [] E0 (ae (af 2) (ae (af 3) au)))) bB)
  (aH (Er 2 (af 4) zo)
  (Er 3 (tC (.int 1)) zo))))
  (bp (tC (.int 0)))))))
def mq(K:Qj):TS:=
 (bp (eX (Kp K) (ae (cy [none,some 0] (dm K (af 1)) (av 0) eA (aN (Nm K false) (af 0) (af 1))) au)))
def lF(K:Qj):TS:=
 (bp (cy [none,none,some 1] (xn K (af 0)) (d0 K 2 (bj (av 0) (bj (av 1) eB))) (tB (aO (mm K) [] E0 (ae (af 1) (ae (af 2) au)))) (af 0)))
def ko(K:Qj):TS:=
 (bp (aO (mF K) [] E0 (ae (af 0) (ae (fK (ae (af 1) au)) au))))
def oy(K:Qj):TS:=
 (bp (aO (lD K) [] E0 (ae (cy [none,some 0] (dm K (aO (hZ K) [] E0 (ae (af 1) (ae (af 2) au)))) (av 0) eA (aN (cP K) (af 1) (af 0))) (ae (af 3) au))))
noncomputable def lN(K:Qj):TS:=
 (aH (bM (fK au) (av 4))
  (aH (nA (xn K (aO (lO K) [] E0 (ae (af 1) (ae (af 2) au)))) (d0 K 2 (bj (av 5) (bj (av 6) eB))) (cZ (zW K "list" jU (af 4) (ae (OO (aZ (aN (Nm K false) (af 5) (af 3))) (tC .non) (aO (oQ K) [] E0 (ae (af 0) (ae (af 2) (ae (af 5) (ae (af 6) au)))))) au))))
  (bp (af 4))))
noncomputable def qy(K:Qj):TS:=
 (aH (bM (tC .non) (av 1))
  (aH (nA (xn K (af 0)) (d0 K 2 (bj (av 2) (bj (av 3) eB))) (bO (Aw (aZ (aN Iq (af 3) (tC .non))) (Mc (aZ (aN Jp (af 1) (tC .non))) (aZ (aN oLt (af 3) (aN (cP K) (af 0) (af 1)))))) (bM (af 2) (av 1)) bB))
  (bp (af 1))))
def og(K:Qj):TS:=
 (bp (eX (FD K) (ae (cy [none,none,none] (dm K (af 0)) (d0 K 3 (bj (av 0) (bj (av 1) (bj (av 2) eB)))) eA (af 0)) au)))
def qG(K:Qj):TS:=
 (bp (cy [none,some 1] (dm K (af 0)) (av 0) eA (eX OH (ae (af 0) (ae (af 1) au)))))
noncomputable def ja(K:Qj):TS:=
 (aH (bM (aO (hZ K) [] E0 (ae (af 1) (ae (af 2) au))) (av 4))
  (bp (cy [none,none,some 4] (xn K (aO (qR K) [] E0 (ae (af 0) (ae (af 3) au)))) (d0 K 2 (bj (av 0) (bj (av 1) eB))) eA (OO (aZ (aN (Nm K false) (af 0) (af 2))) (af 1) (tC (.int 0))))))
noncomputable def jj(K:Qj):TS:=
 (aH (bM (aO (lz K) [] E0 (ae (af 0) (ae (af 3) au))) (av 4))
  (aH (bM (aO (lx K) [] E0 (ae (af 4) (ae (af 1) (ae (af 2) (ae (aO (oz K) [] E0 (ae (af 3) au)) au))))) (av 5))
  (aH (bM (aO (qr K) [] E0 (ae (af 5) au)) (av 6))
  (aH (bO (aZ (aN Jp (af 6) (tC .non))) (bp (tC .non)) bB)
  (aH (bM (aN (cP K) (af 5) (af 6)) (av 7))
  (bp (kg (ae (af 6) (ae (af 7) (ae (aO (ju K) [] E0 (ae (af 4) (ae (af 2) (ae (af 6) (ae (af 7) au))))) au))))))))))
noncomputable def tX(K:Qj):TS:=
 (aH (bM (fK au) (av 3))
  (aH (bM (aO (el K) [] E0 (ae (af 0) (ae (af 1) (ae (af 2) (ae (af 3) au))))) (av 4))
  (aH (Fo (aZ (aN Iq (af 4) (tC .non))) (aH (cZ (zW K "list" jU (af 3) (ae (af 4) au)))
  (bM (aO (el K) [] E0 (ae (af 0) (ae (af 1) (ae (af 2) (ae (af 3) au))))) (av 4))))
  (bp (af 3)))))
noncomputable def eR(K:Qj):TS:=
 (aH (j4 K (af 0) (aN oDiv (eX (GL K) (ae (cy [none,some 2] (dm K (af 1)) (av 0) eA (aN oMod (af 0) (af 1))) au)) (af 2)) Gx "unshared")
  (sE K (af 0) (Ey K (ae (dk K (af 0) "purses") (ae (cy [none,some 2] (dm K (af 1)) (av 0) eA (aN oDiv (af 0) (af 1))) au))) "purses"))
noncomputable def dR(K:Qj):TS:=
 (bp (iG (cy [none,none,some 1,some 0] (EL (dk K (af 0) "costs")) (d0 K 2 (bj (av 0) (bj (av 1) eB))) (aZ (aN (HC K false) (kg (ae (af 2) (ae (af 1) au))) (dk K (af 3) "wishes"))) (af 0))))
noncomputable def fA(K:Qj):TS:=
 (aH (bM (aN (cP K) (eX Jb (ae (dk K (af 0) "costs") au)) (af 1)) (av 3))
  (aH (bM (iG (cy [none,none] (JA K (ae (dk K (af 0) "purses") (ae (af 2) au))) (d0 K 2 (bj (av 0) (bj (av 1) eB))) (aZ (aN Pl (af 1) (tC (.int 0)))) (kg (ae (af 0) (ae (af 1) au))))) (av 4))
  (bp (kg (ae (af 3) (ae (Gn (dk K (af 0) "costs") (af 3)) (ae (af 4) au)))))))
def eS(K:Qj)(E:XK):TS:=
 (bO (tB (vA (af 1) (dk K (af 0) "costs"))) (fq (aq K "NoWork") E (ae (zG [(tC (.str "no work: ")),(pW (af 1))] QO) au)) bB)
noncomputable def gz(K:Qj)(E:XK):TS:=
 (aH (cZ (bP (aq K "Chest") "check_work" (c8 K) [] E (af 0) (ae (af 1) au)))
  (aH (cZ (AE (dk K (af 0) "costs") (af 1)))
  (sE K (af 0) (cy [none,none,some 1] (dm K (dk K (af 0) "wishes")) (d0 K 2 (bj (av 0) (bj (av 1) eB))) (aZ (aN Ma (af 1) (af 2))) (kg (ae (af 0) (ae (af 1) au)))) "wishes")))
noncomputable def i7(K:Qj):TS:=
 (aH (bO (Mc (wa (OL (dk K (af 0) "purses"))) (wa (OL (dk K (af 0) "costs")))) (bp (kg (ae (fK au) (ae (tC (.int 1)) au)))) bB)
  (aH (bM (aO (iY K) [] E0 (ae (eX xZ (ae (dk K (af 0) "purses") au)) (ae (eX xZ (ae (dk K (af 0) "costs") au)) au))) (av 1))
  (aH (bM (iG (cy [none,some 1] (IZ (dk K (af 0) "purses")) (av 0) eA (aN nu (af 0) (af 1)))) (av 2))
  (aH (bM (iG (cy [none,some 0] (Cv (dk K (af 0) "purses")) (av 0) eA (bP (aq K "Chest") "wanted_places" (dS K) [] E0 (af 1) (ae (af 0) au)))) (av 3))
  (aH (bM (aO (sT K) [] E0 (ae (af 2) (ae (eX DU (ae (IG K "dict" Ky (dk K (af 0) "costs")) au)) (ae (af 3) au)))) (av 4))
  (aH (bM (cy [none,none,none,some 0] (dm K (af 4)) (d0 K 3 (bj (av 0) (bj (av 1) (bj (av 2) eB)))) eA (bP (aq K "Chest") "told_step" (fu K) [] E0 (af 3) (ae (af 0) (ae (af 2) au)))) (av 5))
  (aH (cZ (bP (aq K "Chest") "keep_coins" (eP K) [] E0 (af 0) (ae (aO (lz K) [] E0 (ae (af 2) (ae (af 4) au))) (ae (af 1) au))))
  (aH (nA (dm K (af 5)) (d0 K 3 (bj (av 6) (bj (av 7) (bj (av 8) eB)))) (aH (j4 K (af 0) (af 7) Gx "outlay")
  (cZ (bP (aq K "Chest") "withdraw" (dz K) [] E0 (af 0) (ae (af 6) au)))))
  (bp (kg (ae (af 5) (ae (af 1) au))))))))))))
def lW(K:Qj):TS:=
 (bp (zW K "str" (rJoin K) (tC (.str ", ")) (ae (cy [none,none] (dm K (af 0)) (d0 K 2 (bj (av 0) (bj (av 1) eB))) eA (zG [(ux (af 0)),(tC (.str " ")),(yE (af 1))] QO)) au)))
def l6(K:Qj):TS:=
 (aH (bM (aO (lu K) [] E0 (ae (af 2) au)) (av 3))
  (bp (zG [(ux (af 0)),(tC (.str " ")),(yE (af 1)),(tC (.str ": ")),(ux (af 3))] QO)))
noncomputable def iD(K:Qj):TS:=
 (aH (bO (wa (Pk K (af 0))) (bp (tC (.str "none"))) bB)
  (aH (bM (zW K "str" (rJoin K) (tC (.str "; ")) (ae (cy [none,none,none] (dm K (af 0)) (d0 K 3 (bj (av 0) (bj (av 1) (bj (av 2) eB)))) eA (aO (k8 K) [] E0 (ae (af 0) (ae (af 1) (ae (af 2) au))))) au)) (av 2))
  (bp (zG [(ux (af 2)),(tC (.str " of ")),(yE (af 1))] QO))))
def jo(K:Qj):TS:=
 (aH (bM (bP (aq K "Chest") "close" (fN K) [] E0 (af 0) au) (av 1))
  (bp (aO (iB K) [] E0 (ae (aN (Ko K) (af 1) (tC (.int 0))) (ae (aN (Ko K) (af 1) (tC (.int 1))) au)))))
noncomputable def lS(K:Qj):TS:=
 (aH (bM (OO (Pk K (af 2)) (zW K "str" (rJoin K) (tC (.str "+")) (ae (af 2) au)) (tC (.str "-"))) (av 3))
  (bp (zG [(ux (af 0)),(tC (.str " ")),(yE (af 1)),(tC (.str " ")),(ux (af 3))] QO)))
noncomputable def kA(K:Qj):TS:=
 (aH (bO (wa (Pk K (af 0))) (bp (tC (.str "none"))) bB)
  (bp (zW K "str" (rJoin K) (tC (.str ", ")) (ae (cy [none,none,none] (dm K (af 0)) (d0 K 3 (bj (av 0) (bj (av 1) (bj (av 2) eB)))) eA (aO (lK K) [] E0 (ae (af 0) (ae (af 1) (ae (af 2) au))))) au))))
def gO(K:Qj):TS:=
 (bp (iG (cy [none,some 1,some 0] (Cv (dk K (af 0) "purses")) (av 0) (aZ (aN (HC K false) (kg (ae (af 0) (ae (af 1) au))) (dk K (af 2) "wishes"))) (af 0))))
noncomputable def jf(K:Qj):TS:=
 (bp (iG (cy [none,none,some 0] (yb (dk K (af 0) "costs")) (d0 K 2 (bj (av 0) (bj (av 1) eB))) eA (kg (ae (af 0) (ae (af 1) (ae (bP (aq K "Chest") "wanters" (gK K) [] E0 (af 2) (ae (af 0) au)) au)))))))
def mo(K:Qj):TS:=
 (bp (dk K (af 0) "unshared"))
def i8(K:Qj):TS:=
 (bp (dk K (af 0) "gifts"))
def jn(K:Qj):TS:=
 (bp (dk K (af 0) "outlay"))
noncomputable def qZ(K:Qj)(E:XK):TS:=
 (aH (bO (aZ (aN gY (af 1) (tC (.str "close")))) (bp (aO (jA K) [] E0 (ae (af 0) au))) bB)
  (aH (bO (aZ (aN gY (af 1) (tC (.str "works")))) (bp (aO (ke K) [] E0 (ae (bP (aq K "Chest") "works" (dH K) [] E0 (af 0) au) au))) bB)
  (aH (bO (aZ (aN gY (af 1) (tC (.str "pot")))) (bp (eX iH (ae (bP (aq K "Chest") "pot" (iR K) [] E0 (af 0) au) au))) bB)
  (aH (bO (aZ (aN gY (af 1) (tC (.str "given")))) (bp (eX iH (ae (bP (aq K "Chest") "given" (fU K) [] E0 (af 0) au) au))) bB)
  (aH (bO (aZ (aN gY (af 1) (tC (.str "spent")))) (bp (eX iH (ae (bP (aq K "Chest") "spent" (gv K) [] E0 (af 0) au) au))) bB)
  (fq (aq K "NoRow") E (ae (zG [(tC (.str "no row of one word: ")),(pW (af 1))] QO) au)))))))
def qL(K:Qj):TS:=
 (bp (F6 (B4 oLe oLe (tC (.int 1)) (eX vU (ae (af 0) au)) (tC (.int 8))) (eX (Kp K) (ae (cy [none] (FL (af 0)) (av 0) eA (aN Jt (af 0) (tC (.str "abcdefghijklmnopqrstuvwxyz")))) au))))
noncomputable def fO(K:Qj)(E:XK):TS:=
 (aH (bO (wa (tB (aO (qx K) [] E0 (ae (af 0) au)))) (fq (aq K "NoName") E (ae (zG [(tC (.str "no name: ")),(pW (af 0))] QO) au)) bB)
  (bO (tB (MK (af 0) (af 1))) (fq (aq K "Twice") E (ae (zG [(tC (.str "there already: ")),(ux (af 0))] QO) au)) bB))
def jK(K:Qj)(E:XK):TS:=
 (bO (aZ (aN NW (eX xZ (ae (af 0) au)) (af 1))) (fq (aq K "Full") E (ae (zG [(tC (.str "there are ")),(yE (af 1)),(tC (.str " already"))] QO) au)) bB)
noncomputable def jB(K:Qj)(E:XK):TS:=
 (aH (cZ (aO (d7 K) [] E (ae (af 1) (ae (dk K (af 0) "purses") au))))
  (aH (cZ (aO (gh K) [] E (ae (dk K (af 0) "purses") (ae (tC (.int 20)) au))))
  (F0 (dk K (af 0) "purses") (af 1) (tC (.int 0)))))
def ef(K:Qj)(E:XK):TS:=
 (bO (tB (vA (af 1) (dk K (af 0) "purses"))) (fq (aq K "NoVoter") E (ae (zG [(tC (.str "no voter: ")),(pW (af 1))] QO) au)) bB)
def fW(K:Qj)(E:XK):TS:=
 (aH (cZ (bP (aq K "Chest") "check_voter" (cB K) [] E (af 0) (ae (af 1) au)))
  (bp (Gn (dk K (af 0) "purses") (af 1))))
noncomputable def jw(K:Qj)(E:XK):TS:=
 (aH (cZ (bP (aq K "Chest") "check_voter" (cB K) [] E (af 0) (ae (af 1) au)))
  (aH (j4 K (af 0) (AE (dk K (af 0) "purses") (af 1)) Gx "unshared")
  (sE K (af 0) (cy [none,none,some 1] (dm K (dk K (af 0) "wishes")) (d0 K 2 (bj (av 0) (bj (av 1) eB))) (aZ (aN Ma (af 0) (af 2))) (kg (ae (af 0) (ae (af 1) au)))) "wishes")))
noncomputable def jb(K:Qj)(E:XK):TS:=
 (bO (Mc (aZ (aN oLt (af 0) (af 1))) (aZ (aN Pl (af 0) (tC (.int 1000000000))))) (fq (aq K "TooMuch") E (ae (zG [(tC (.str "not from ")),(yE (af 1)),(tC (.str " to ")),(yE (tC (.int 1000000000))),(tC (.str " coins"))] QO) au)) bB)
noncomputable def i9(K:Qj):TS:=
 (aH (j4 K (af 0) (aN nu (af 1) (eX xZ (ae (dk K (af 0) "purses") au))) O1 "unshared")
  (sE K (af 0) (eX (Ku K) (ae (iG (cy [none,none,some 1] (yb (dk K (af 0) "purses")) (d0 K 2 (bj (av 0) (bj (av 1) eB))) eA (kg (ae (af 0) (ae (aN gC (af 1) (af 2)) au))))) au)) "purses"))
noncomputable def kl(K:Qj)(E:XK):TS:=
 (aH (cZ (aO (gA K) [] E (ae (af 1) (ae (tC (.int 0)) au))))
  (aH (j4 K (af 0) (af 1) Gx "gifts")
  (aH (j4 K (af 0) (af 1) Gx "unshared")
  (bO (OL (dk K (af 0) "purses")) (cZ (bP (aq K "Chest") "share" (jv K) [] E0 (af 0) (ae (aN oDiv (dk K (af 0) "unshared") (eX xZ (ae (dk K (af 0) "purses") au))) au))) bB))))
noncomputable def lL(K:Qj):TS:=
 (aH (bO (tB (zW K "str" vz (af 0) (ae (tC (.str "0")) au))) (bp (aN gY (af 0) (tC (.str "0")))) bB)
  (bp (F6 (B4 oLe oLe (tC (.int 1)) (eX vU (ae (af 0) au)) (tC (.int 13))) (eX (Kp K) (ae (cy [none] (FL (af 0)) (av 0) eA (aN Jt (af 0) (tC (.str "0123456789")))) au)))))
noncomputable def jr(K:Qj)(E:XK):TS:=
 (aH (bO (wa (tB (aO (mB K) [] E0 (ae (af 0) au)))) (fq (aq K "NoRow") E (ae (zG [(tC (.str "no number: ")),(pW (af 0))] QO) au)) bB)
  (bp (eX DT (ae (af 0) au))))
noncomputable def qE(K:Qj)(E:XK):TS:=
 (aH (bO (aZ (aN gY (af 1) (tC (.str "purse")))) (bp (eX iH (ae (bP (aq K "Chest") "purse_of" (fX K) [] E (af 0) (ae (af 2) au)) au))) bB)
  (aH (bO (aZ (aN gY (af 1) (tC (.str "enrol")))) (cZ (bP (aq K "Chest") "enrol" (gd K) [] E (af 0) (ae (af 2) au))) (bO (aZ (aN gY (af 1) (tC (.str "leave")))) (cZ (bP (aq K "Chest") "leave" (fQ K) [] E (af 0) (ae (af 2) au))) (bO (aZ (aN gY (af 1) (tC (.str "give")))) (cZ (bP (aq K "Chest") "give" (g9 K) [] E (af 0) (ae (aO (gk K) [] E (ae (af 2) au)) au))) (bO (aZ (aN gY (af 1) (tC (.str "withdraw")))) (cZ (bP (aq K "Chest") "withdraw" (dz K) [] E (af 0) (ae (af 2) au))) (fq (aq K "NoRow") E (ae (zG [(tC (.str "no row of two words: ")),(pW (af 1))] QO) au))))))
  (bp (tC (.str "ok")))))
noncomputable def gR(K:Qj)(E:XK):TS:=
 (aH (cZ (aO (d7 K) [] E (ae (af 1) (ae (dk K (af 0) "costs") au))))
  (aH (cZ (aO (gA K) [] E (ae (af 2) (ae (tC (.int 1)) au))))
  (aH (cZ (aO (gh K) [] E (ae (dk K (af 0) "costs") (ae (tC (.int 12)) au))))
  (F0 (dk K (af 0) "costs") (af 1) (af 2)))))
noncomputable def j8(K:Qj)(E:XK):TS:=
 (aH (cZ (bP (aq K "Chest") "check_voter" (cB K) [] E (af 0) (ae (af 1) au)))
  (aH (cZ (bP (aq K "Chest") "check_work" (c8 K) [] E (af 0) (ae (af 2) au)))
  (bO (aZ (aN (HC K true) (kg (ae (af 1) (ae (af 2) au))) (dk K (af 0) "wishes"))) (cZ (zW K "list" jU (dk K (af 0) "wishes") (ae (kg (ae (af 1) (ae (af 2) au))) au))) bB)))
noncomputable def iw(K:Qj)(E:XK):TS:=
 (aH (cZ (bP (aq K "Chest") "check_voter" (cB K) [] E (af 0) (ae (af 1) au)))
  (aH (cZ (bP (aq K "Chest") "check_work" (c8 K) [] E (af 0) (ae (af 2) au)))
  (sE K (af 0) (cy [none,some 1,some 2] (dm K (dk K (af 0) "wishes")) (av 0) (aZ (aN (kC K true) (af 0) (kg (ae (af 1) (ae (af 2) au))))) (af 0)) "wishes")))
noncomputable def lG(K:Qj)(E:XK):TS:=
 (aH (bO (aZ (aN gY (af 1) (tC (.str "propose")))) (cZ (bP (aq K "Chest") "propose" (eL K) [] E (af 0) (ae (af 2) (ae (aO (gk K) [] E (ae (af 3) au)) au)))) (bO (aZ (aN gY (af 1) (tC (.str "want")))) (cZ (bP (aq K "Chest") "want" (ia K) [] E (af 0) (ae (af 2) (ae (af 3) au)))) (bO (aZ (aN gY (af 1) (tC (.str "unwant")))) (cZ (bP (aq K "Chest") "unwant" (fm K) [] E (af 0) (ae (af 2) (ae (af 3) au)))) (fq (aq K "NoRow") E (ae (zG [(tC (.str "no row of three words: ")),(pW (af 1))] QO) au)))))
  (bp (tC (.str "ok"))))
noncomputable def nB(K:Qj)(E:XK):TS:=
 (aH (bM (aO (kn K) [] E (ae (af 1) au)) (av 2))
  (aH (bO (aZ (aN gY (eX (jd K) (ae (af 2) au)) (tC (.int 1)))) (bp (aO (qo K) [] E (ae (dk K (af 0) "chest") (ae (aN (cP K) (af 2) (tC (.int 0))) au)))) bB)
  (aH (bO (aZ (aN gY (eX (jd K) (ae (af 2) au)) (tC (.int 2)))) (bp (aO (ql K) [] E (ae (dk K (af 0) "chest") (ae (aN (cP K) (af 2) (tC (.int 0))) (ae (aN (cP K) (af 2) (tC (.int 1))) au))))) bB)
  (aH (bO (aZ (aN gY (eX (jd K) (ae (af 2) au)) (tC (.int 3)))) (bp (aO (kZ K) [] E (ae (dk K (af 0) "chest") (ae (aN (cP K) (af 2) (tC (.int 0))) (ae (aN (cP K) (af 2) (tC (.int 1))) (ae (aN (cP K) (af 2) (tC (.int 2))) au)))))) bB)
  (fq (aq K "NoRow") E (ae (zG [(tC (.str "too many words: ")),(pW (af 1))] QO) au))))))
noncomputable def mv(K:Qj):TS:=
 (aH (bM (tC .non) (av 2))
  (aH (bM (tC .non) (av 3))
  (aH (FU K (.ref (aq K "PurseError")) 4 3 (fun E=>bP (aq K "Desk") "say" (jS K) [] E (af 0) (ae (af 1) au)) (bM (af 4) (av 2)))
  (aH (bO (aZ (aN Jp (af 2) (tC .non))) (bp (af 3)) bB)
  (bp (aO (fi K) [] E0 (ae (af 2) au)))))))
noncomputable def jJ(K:Qj):TS:=
 (aH (bM (bP (aq K "Chest") "close" (fN K) [] E0 (af 0) au) (d0 K 2 (bj (av 1) (bj (av 2) eB))))
  (aH (bM (fK au) (av 3))
  (aH (nA (dm K (af 1)) (d0 K 3 (bj (av 4) (bj (av 5) (bj (av 6) eB)))) (cZ (zW K "list" jU (af 3) (ae (aN cL (aN cL (aN cL (aN cL (af 4) (tC (.str " "))) (eX iH (ae (af 5) au))) (tC (.str ": "))) (zW K "str" (rJoin K) (tC (.str ", ")) (ae (cy [none,none] (dm K (af 6)) (d0 K 2 (bj (av 0) (bj (av 1) eB))) eA (aN cL (aN cL (af 0) (tC (.str " "))) (eX iH (ae (af 1) au)))) au))) au))))
  (aH (bO (aZ (aN (kC K false) (af 3) (fK au))) (bp (tC (.str "none"))) bB)
  (bp (aN cL (aN cL (zW K "str" (rJoin K) (tC (.str "; ")) (ae (af 3) au)) (tC (.str " of "))) (eX iH (ae (af 2) au))))))))
noncomputable def kX(K:Qj):TS:=
 (aH (bM (tC (.str "abcdefghijklmnopqrstuvwxyz")) (av 2))
  (aH (bM (aO (hG K) [] E0 (ae (af 0) (ae (tC (.int 9)) au))) (av 3))
  (aH (bM (zW K "str" (rJoin K) (tC (.str "")) (ae (cy [none,some 2] (dm K (Ik (GQ K) (af 3) hJ (jV (tC (.int 7))))) (av 0) eA (aN yM (af 1) (aN oMod (af 0) (tC (.int 26))))) au)) (av 4))
  (aH (bO (aZ (aN gY (aN oMod (aN (cP K) (af 3) (tC (.int 8))) (tC (.int 4))) (tC (.int 0)))) (bp (aN cL (aN yM (af 2) (aN oMod (aN gC (aN (cP K) (af 3) (tC (.int 7))) (aN oDiv (af 1) (tC (.int 8)))) (tC (.int 26)))) (Ik yX (af 4) hJ (jV (aN oMod (af 1) (tC (.int 8))))))) bB)
  (aH (bO (aZ (aN gY (aN oMod (aN (cP K) (af 3) (tC (.int 8))) (tC (.int 4))) (tC (.int 1)))) (bp (aN cL (Ik yX (af 4) (jV (aN zo (tC (.int 7)) (aN oMod (af 1) (tC (.int 8))))) hJ) (aN yM (af 2) (aN oMod (aN gC (aN (cP K) (af 3) (tC (.int 7))) (aN oDiv (af 1) (tC (.int 8)))) (tC (.int 26)))))) bB)
  (aH (bM (Ik yX (af 4) hJ (jV (aN oMod (aN oDiv (aN (cP K) (af 3) (tC (.int 8))) (tC (.int 4))) (tC (.int 8))))) (av 4))
  (aH (bM (aN oMod (aN oDiv (aN (cP K) (af 3) (tC (.int 8))) (tC (.int 32))) (aN gC (eX vU (ae (af 4) au)) (tC (.int 1)))) (av 5))
  (bp (aN cL (aN cL (Ik yX (af 4) hJ (jV (af 5))) (aN yM (af 2) (aN oMod (aN gC (aN (cP K) (af 3) (tC (.int 7))) (af 1)) (tC (.int 26))))) (Ik yX (af 4) (jV (af 5)) hJ))))))))))
noncomputable def mD(K:Qj)(E:XK):TS:=
 (aH (bO (aZ (aN gY (af 1) (tC (.str "enrol")))) (bp (bP (aq K "Chest") "enrol" (gd K) [] E (af 0) (ae (aN (cP K) (af 2) (tC (.int 0))) au))) bB)
  (aH (bO (aZ (aN gY (af 1) (tC (.str "leave")))) (bp (bP (aq K "Chest") "leave" (fQ K) [] E (af 0) (ae (aN (cP K) (af 2) (tC (.int 0))) au))) bB)
  (aH (bO (aZ (aN gY (af 1) (tC (.str "give")))) (bp (bP (aq K "Chest") "give" (g9 K) [] E (af 0) (ae (aN (cP K) (af 2) (tC (.int 0))) au))) bB)
  (aH (bO (aZ (aN gY (af 1) (tC (.str "propose")))) (bp (bP (aq K "Chest") "propose" (eL K) [] E (af 0) (ae (aN (cP K) (af 2) (tC (.int 0))) (ae (aN (cP K) (af 2) (tC (.int 1))) au)))) bB)
  (aH (bO (aZ (aN gY (af 1) (tC (.str "withdraw")))) (bp (bP (aq K "Chest") "withdraw" (dz K) [] E (af 0) (ae (aN (cP K) (af 2) (tC (.int 0))) au))) bB)
  (aH (bO (aZ (aN gY (af 1) (tC (.str "want")))) (bp (bP (aq K "Chest") "want" (ia K) [] E (af 0) (ae (aN (cP K) (af 2) (tC (.int 0))) (ae (aN (cP K) (af 2) (tC (.int 1))) au)))) bB)
  (bp (bP (aq K "Chest") "unwant" (fm K) [] E (af 0) (ae (aN (cP K) (af 2) (tC (.int 0))) (ae (aN (cP K) (af 2) (tC (.int 1))) au))))))))))
noncomputable def md(K:Qj):TS:=
 (aH (bM (tC .non) (av 3))
  (aH (JE K (.ref (aq K "PurseError")) 4 (fun E=>aO (iW K) [] E (ae (af 0) (ae (af 1) (ae (af 2) au)))) (bM (af 4) (av 3)))
  (aH (bO (aZ (aN Jp (af 3) (tC .non))) (bp (tC (.str "ok"))) bB)
  (bp (aO (fi K) [] E0 (ae (af 3) au))))))
noncomputable def lU(K:Qj):TS:=
 (aH (nA (uf (ae (tC (.int 20)) au)) (av 3) (bO (aZ (aN (kC K true) (aO (cj K) [] E0 (ae (af 0) (ae (aN cL (tC (.str "enrol ")) (aO (bN K) [] E0 (ae (af 2) (ae (af 3) au)))) au))) (aO (eF K) [] E0 (ae (af 1) (ae (tC (.str "enrol")) (ae (fK (ae (aO (bN K) [] E0 (ae (af 2) (ae (af 3) au))) au)) au)))))) (bp (tC (.bl false))) bB))
  (aH (nA (uf (ae (tC (.int 12)) au)) (av 3) (aH (bM (aO (bN K) [] E0 (ae (aN oDiv (af 2) (tC (.int 3))) (ae (af 3) au))) (av 4))
  (aH (bO (aZ (aN (kC K true) (aO (cj K) [] E0 (ae (af 0) (ae (aN cL (aN cL (aN cL (tC (.str "propose ")) (af 4)) (tC (.str " "))) (eX iH (ae (aN gC (tC (.int 5)) (aN nu (tC (.int 3)) (af 3))) au))) au))) (aO (eF K) [] E0 (ae (af 1) (ae (tC (.str "propose")) (ae (fK (ae (af 4) (ae (aN gC (tC (.int 5)) (aN nu (tC (.int 3)) (af 3))) au))) au)))))) (bp (tC (.bl false))) bB)
  (nA (uf (ae (aN gC (af 3) (tC (.int 1))) au)) (av 5) (aH (bM (aO (bN K) [] E0 (ae (af 2) (ae (aN oMod (aN gC (aN nu (af 3) (tC (.int 7))) (af 5)) (tC (.int 20))) au))) (av 6))
  (bO (aZ (aN (kC K true) (aO (cj K) [] E0 (ae (af 0) (ae (aN cL (aN cL (aN cL (tC (.str "want ")) (af 6)) (tC (.str " "))) (af 4)) au))) (aO (eF K) [] E0 (ae (af 1) (ae (tC (.str "want")) (ae (fK (ae (af 6) (ae (af 4) au))) au)))))) (bp (tC (.bl false))) bB))))))
  (bp (tC (.bl true)))))
def ir(K:Qj):TS:=
 (bp (eX Ks (ae (IG K "dict" EA (dk K (af 0) "purses")) au)))
noncomputable def mG(K:Qj):TS:=
 (aH (bM (fK (ae (tC (.str "enrol")) (ae (tC (.str "leave")) (ae (tC (.str "give")) (ae (tC (.str "give")) (ae (tC (.str "propose")) (ae (tC (.str "propose")) (ae (tC (.str "withdraw")) (ae (tC (.str "want")) (ae (tC (.str "want")) (ae (tC (.str "unwant")) au))))))))))) (av 3))
  (aH (bM (aN (cP K) (af 3) (aN oMod (aN (cP K) (af 0) (tC (.int 0))) (tC (.int 10)))) (av 4))
  (aH (bO (Aw (tB (af 2)) (Aw (aZ (aN gY (af 4) (tC (.str "enrol")))) (aZ (aN NW (eX (jd K) (ae (bP (aq K "Chest") "voters" (du K) [] E0 (af 1) au) au)) (tC (.int 6)))))) (bp (tC (.str "want"))) bB)
  (aH (bO (Aw (tB (af 2)) (Aw (aZ (aN gY (af 4) (tC (.str "propose")))) (aZ (aN NW (eX (jd K) (ae (bP (aq K "Chest") "works" (dH K) [] E0 (af 1) au) au)) (tC (.int 6)))))) (bp (tC (.str "unwant"))) bB)
  (bp (af 4))))))
noncomputable def jz(K:Qj):TS:=
 (aH (bM (aN oMod (aN oDiv (af 1) (tC (.int 6))) (eX vU (ae (af 0) au))) (av 2))
  (aH (bM (tC (.str "ABZ09-_.+'{\t\n")) (av 3))
  (aH (bO (aZ (aN gY (aN oMod (af 1) (tC (.int 6))) (tC (.int 0)))) (bp (aN cL (aN cL (Ik yX (af 0) hJ (jV (af 2))) (aN yM (af 3) (aN oMod (aN oDiv (af 1) (tC (.int 48))) (tC (.int 13))))) (Ik yX (af 0) (jV (aN gC (af 2) (tC (.int 1)))) hJ))) bB)
  (aH (bO (aZ (aN gY (aN oMod (af 1) (tC (.int 36))) (tC (.int 1)))) (bp (IG K "str" D8 (af 0))) bB)
  (aH (bO (aZ (aN gY (aN oMod (af 1) (tC (.int 36))) (tC (.int 7)))) (bp (aN cL (af 0) (aN yM (tC (.str "\t\n")) (aN oMod (aN oDiv (af 1) (tC (.int 36))) (tC (.int 2)))))) bB)
  (aH (bO (aZ (aN gY (aN oMod (af 1) (tC (.int 36))) (tC (.int 13)))) (bp (aN cL (af 0) (tC (.str "aaaaaaaa")))) bB)
  (bp (af 0))))))))
noncomputable def jx(K:Qj):TS:=
 (aH (bO (aZ (aN gY (aN oMod (af 0) (tC (.int 8))) (tC (.int 0)))) (bp (aN (cP K) (fK (ae (tC (.int 0)) (ae (tC (.int 1)) (ae (aN EF (tC (.int 10)) (tC (.int 9))) (ae (aN gC (aN EF (tC (.int 10)) (tC (.int 9))) (tC (.int 1))) (ae (aN zo (aN EF (tC (.int 10)) (tC (.int 13))) (tC (.int 1))) au)))))) (aN oMod (aN oDiv (af 0) (tC (.int 8))) (tC (.int 5))))) bB)
  (aH (bO (aZ (aN gY (aN oMod (af 0) (tC (.int 2))) (tC (.int 0)))) (bp (aN oMod (aN oDiv (af 0) (tC (.int 8))) (tC (.int 60)))) bB)
  (bp (aN oMod (aN nu (af 0) (tC (.int 41))) (aN gC (aN EF (tC (.int 10)) (tC (.int 9))) (tC (.int 1)))))))
noncomputable def lZ(K:Qj):TS:=
 (aH (bM (aO (lX K) [] E0 (ae (af 0) (ae (af 2) (ae (af 3) au)))) (av 4))
  (aH (bM (cy [none,none] (dm K (bP (aq K "Chest") "voters" (du K) [] E0 (af 2) au)) (d0 K 2 (bj (av 0) (bj (av 1) eB))) eA (af 0)) (av 5))
  (aH (bM (cy [none] (dm K (bP (aq K "Chest") "works" (dH K) [] E0 (af 2) au)) (av 0) eA (aN (Ko K) (af 0) (tC (.int 0)))) (av 6))
  (aH (bM (aN (cP K) (aN E7 (af 5) (fK (ae (aO (bN K) [] E0 (ae (af 1) (ae (aN oMod (aN (cP K) (af 0) (tC (.int 1))) (tC (.int 24))) au))) au))) (aN oMod (aN oDiv (aN (cP K) (af 0) (tC (.int 1))) (tC (.int 24))) (aN gC (eX (jd K) (ae (af 5) au)) (tC (.int 1))))) (av 7))
  (aH (bM (aN (cP K) (aN E7 (af 6) (fK (ae (aO (bN K) [] E0 (ae (aN oDiv (af 1) (tC (.int 3))) (ae (aN oMod (aN (cP K) (af 0) (tC (.int 2))) (tC (.int 24))) au))) au))) (aN oMod (aN oDiv (aN (cP K) (af 0) (tC (.int 2))) (tC (.int 24))) (aN gC (eX (jd K) (ae (af 6) au)) (tC (.int 1))))) (av 8))
  (aH (bO (Mc (aZ (aN gY (aN oMod (aN (cP K) (af 0) (tC (.int 3))) (tC (.int 4))) (tC (.int 0)))) (aZ (aN gY (af 4) (tC (.str "enrol"))))) (bM (aO (bN K) [] E0 (ae (af 1) (ae (aN oMod (aN (cP K) (af 0) (tC (.int 1))) (tC (.int 24))) au))) (av 7)) bB)
  (aH (bO (Mc (aZ (aN gY (aN oMod (aN oDiv (aN (cP K) (af 0) (tC (.int 3))) (tC (.int 4))) (tC (.int 4))) (tC (.int 0)))) (aZ (aN gY (af 4) (tC (.str "propose"))))) (bM (aO (bN K) [] E0 (ae (aN oDiv (af 1) (tC (.int 3))) (ae (aN oMod (aN (cP K) (af 0) (tC (.int 2))) (tC (.int 24))) au))) (av 8)) bB)
  (aH (bM (aO (eh K) [] E0 (ae (af 7) (ae (aN (cP K) (af 0) (tC (.int 5))) au))) (av 7))
  (aH (bM (aO (eh K) [] E0 (ae (af 8) (ae (aN (cP K) (af 0) (tC (.int 6))) au))) (av 8))
  (aH (bO (aZ (aN gY (af 4) (tC (.str "give")))) (bp (kg (ae (af 4) (ae (fK (ae (aO (gw K) [] E0 (ae (aN (cP K) (af 0) (tC (.int 2))) au)) au)) au)))) bB)
  (aH (bO (aZ (aN gY (af 4) (tC (.str "propose")))) (bp (kg (ae (af 4) (ae (fK (ae (af 8) (ae (aO (gw K) [] E0 (ae (aN (cP K) (af 0) (tC (.int 1))) au)) au))) au)))) bB)
  (aH (bO (aZ (aN gY (af 4) (tC (.str "withdraw")))) (bp (kg (ae (af 4) (ae (fK (ae (af 8) au)) au)))) bB)
  (aH (bO (Mc (aZ (aN gY (af 4) (tC (.str "enrol")))) (aZ (aN gY (af 4) (tC (.str "leave"))))) (bp (kg (ae (af 4) (ae (fK (ae (af 7) au)) au)))) bB)
  (bp (kg (ae (af 4) (ae (fK (ae (af 7) (ae (af 8) au))) au)))))))))))))))))
noncomputable def kB(K:Qj):TS:=
 (aH (nA (dm K (bP (aq K "Chest") "voters" (du K) [] E0 (af 0) au)) (d0 K 2 (bj (av 2) (bj (av 3) eB))) (bO (aZ (aN gY (af 2) (af 1))) (bp (eX iH (ae (af 3) au))) bB))
  (bp (fK (ae (tC (.bl false)) (ae (tC (.bl false)) (ae (tC (.bl true)) (ae (tC (.bl false)) (ae (tC (.bl false)) (ae (tC (.bl false)) (ae (tC (.bl false)) (ae (tC (.bl true)) au)))))))))))
noncomputable def kr(K:Qj):TS:=
 (aH (bM (fK au) (av 1))
  (aH (nA (dm K (bP (aq K "Chest") "works" (dH K) [] E0 (af 0) au)) (d0 K 3 (bj (av 2) (bj (av 3) (bj (av 4) eB)))) (aH (bM (aN cL (zW K "str" (rJoin K) (tC (.str "+")) (ae (af 4) au)) (aN ID (tC (.str "-")) (eX Cs (ae (aN (kC K false) (af 4) (fK au)) au)))) (av 5))
  (cZ (zW K "list" jU (af 1) (ae (aN cL (aN cL (aN cL (aN cL (af 2) (tC (.str " "))) (eX iH (ae (af 3) au))) (tC (.str " "))) (af 5)) au)))))
  (bp (aN cL (zW K "str" (rJoin K) (tC (.str ", ")) (ae (af 1) au)) (aN ID (tC (.str "none")) (eX Cs (ae (aN (kC K false) (af 1) (fK au)) au)))))))
noncomputable def gP(K:Qj):TS:=
 (aH (bO (aZ (aN gY (af 2) (tC (.int 0)))) (bp (aN (kC K false) (aO (cj K) [] E0 (ae (af 0) (ae (tC (.str "pot")) au))) (eX iH (ae (bP (aq K "Chest") "pot" (iR K) [] E0 (af 1) au) au)))) bB)
  (aH (bO (aZ (aN gY (af 2) (tC (.int 1)))) (bp (aN (kC K false) (aO (cj K) [] E0 (ae (af 0) (ae (tC (.str "given")) au))) (eX iH (ae (bP (aq K "Chest") "given" (fU K) [] E0 (af 1) au) au)))) bB)
  (aH (bO (aZ (aN gY (af 2) (tC (.int 2)))) (bp (aN (kC K false) (aO (cj K) [] E0 (ae (af 0) (ae (tC (.str "spent")) au))) (eX iH (ae (bP (aq K "Chest") "spent" (gv K) [] E0 (af 1) au) au)))) bB)
  (aH (bO (aZ (aN gY (af 2) (tC (.int 3)))) (bp (aN (kC K false) (aO (cj K) [] E0 (ae (af 0) (ae (tC (.str "works")) au))) (aO (ku K) [] E0 (ae (af 1) au)))) bB)
  (bp (aN (kC K false) (aO (cj K) [] E0 (ae (af 0) (ae (aN cL (tC (.str "purse ")) (af 3)) au))) (aO (j9 K) [] E0 (ae (af 1) (ae (af 3) au)))))))))
noncomputable def nZ(K:Qj):TS:=
 (aH (bO (Aw (aZ (aN gY (aN oMod (aN (cP K) (af 2) (tC (.int 4))) (tC (.int 9))) (tC (.int 0)))) (aZ (aN oLt (af 5) (tC (.int 4))))) (bp (aN (kC K false) (aO (cj K) [] E0 (ae (af 0) (ae (tC (.str "close")) au))) (aO (gf K) [] E0 (ae (af 1) au)))) bB)
  (aH (bO (aZ (aN oLt (aN oMod (aN (cP K) (af 2) (tC (.int 4))) (tC (.int 9))) (tC (.int 3)))) (bp (aO (eG K) [] E0 (ae (af 0) (ae (af 1) (ae (aN oMod (aN (cP K) (af 2) (tC (.int 0))) (tC (.int 6))) (ae (aO (eh K) [] E0 (ae (aO (bN K) [] E0 (ae (af 3) (ae (aN oMod (aN (cP K) (af 2) (tC (.int 1))) (tC (.int 24))) au))) (ae (aN (cP K) (af 2) (tC (.int 5))) au))) au)))))) bB)
  (aH (bM (aO (ma K) [] E0 (ae (af 2) (ae (af 3) (ae (af 1) (ae (af 4) au))))) (d0 K 2 (bj (av 6) (bj (av 7) eB))))
  (aH (bM (zW K "str" (rJoin K) (tC (.str " ")) (ae (aN E7 (fK (ae (af 6) au)) (cy [none] (dm K (af 7)) (av 0) eA (eX pJ (ae (af 0) au)))) au)) (av 8))
  (bp (aN (kC K false) (aO (cj K) [] E0 (ae (af 0) (ae (af 8) au))) (aO (eF K) [] E0 (ae (af 1) (ae (af 6) (ae (af 7) au))))))))))
noncomputable def EU(K:Qj):TS:=
 (aH (bM (aO (jO K) [] E0 (ae (af 0) (ae (tC (.int 0)) au))) (av 1))
  (aH (bM (aO (jO K) [] E0 (ae (af 0) (ae (tC (.int 1)) au))) (av 2))
  (aH (bM (zx (aq K "Desk") (gU K) [] E0 au) (av 3))
  (aH (bM (zx (aq K "Chest") (d8 K) [] E0 au) (av 4))
  (aH (bO (Aw (aZ (aN gY (aN oMod (af 1) (tC (.int 8))) (tC (.int 3)))) (wa (tB (aO (mE K) [] E0 (ae (af 3) (ae (af 4) (ae (af 2) au))))))) (bp (tC (.bl false))) bB)
  (aH (bM (tC (.int 0)) (av 5))
  (aH (nA (dm K (Ik (GQ K) (af 0) (jV (tC (.int 2))) (jV (tC (.int 62))))) (av 6) (aH (bM (aO (hG K) [] E0 (ae (af 6) (ae (tC (.int 7)) au))) (av 7))
  (aH (bO (wa (tB (aO (oq K) [] E0 (ae (af 3) (ae (af 4) (ae (af 7) (ae (af 2) (ae (aN Ma (aN oMod (af 1) (tC (.int 8))) (tC (.int 3))) (ae (af 5) au))))))))) (bp (tC (.bl false))) bB)
  (bM (aN gC (af 5) (eX Cs (ae (aN gY (aN oMod (aN (cP K) (af 7) (tC (.int 4))) (tC (.int 9))) (tC (.int 0))) au))) (av 5)))))
  (aH (bO (aZ (aN (kC K true) (aO (cj K) [] E0 (ae (af 3) (ae (tC (.str "close")) au))) (aO (gf K) [] E0 (ae (af 4) au)))) (bp (tC (.bl false))) bB)
  (aH (bM (aN E7 (cy [none,none] (dm K (bP (aq K "Chest") "voters" (du K) [] E0 (af 4) au)) (d0 K 2 (bj (av 0) (bj (av 1) eB))) eA (af 0)) (fK (ae (aO (bN K) [] E0 (ae (af 2) (ae (tC (.int 24)) au))) (ae (aO (bN K) [] E0 (ae (af 2) (ae (tC (.int 25)) au))) au)))) (av 8))
  (aH (nA (uf (ae (aN gC (tC (.int 4)) (eX (jd K) (ae (af 8) au))) au)) (av 9) (aH (bM (aN oMod (aN gC (af 9) (af 1)) (aN gC (tC (.int 4)) (eX (jd K) (ae (af 8) au)))) (av 10))
  (bO (wa (tB (aO (eG K) [] E0 (ae (af 3) (ae (af 4) (ae (af 10) (ae (aN (cP K) (af 8) (eX O4 (ae (tC (.int 0)) (ae (aN zo (af 10) (tC (.int 4))) au)))) au))))))) (bp (tC (.bl false))) bB)))
  (bp (tC (.bl true)))))))))))))
section
variable {K:Qj}
theorem DR:∀vs H Q E,jO K vs H Q E->nQ K {nx:=fun _ H'=>Q .non H',rt:=Q} (start ["script","k","cell"] vs) H:=by
 rintro vs H Q E ⟨_,a,ns,k,rfl,hS,q⟩
 unfold nQ
 nofun
 symm
 rename_i p H1 f1 s1 h1
 obtain⟨ms,e,_,_⟩:=DB ns (some (k:Int)) (some ((k:Int)+1))
 rw[e]at h1
 refine oa (fh (K:=K) (xs:=ms.map V.int) 2) (fun i σ H'=>ar H1 H'/\∃v,σ=[some (.ref a),some (.int k),v]) ⟨ar.refl _,_,rfl⟩ (fun i σ H' h=>h.1.seq (bo.of h1)) ?_ ?_
 ·rintro i σ Ha Hb hi ⟨sa,v,rfl⟩ sb
  rw[Qw]at hi
  have et:(ms.map V.int).getD i .non=.int (ms.getD i 0):=by simp[QN,hi]
  rw[et]
  show bp _ _ _ _
  symm
  exact q _ Hb ((s1.trans sa).trans sb)
 ·rintro σ Ha ⟨sa,v,rfl⟩
  symm
  exact q 0 Ha (s1.trans sa)
theorem rp(C:il K):∀vs H Q E,d8 K vs H Q E->gj K {nx:=fun _ H'=>Q .non H',rt:=Q} (start ["self"] vs) H:=by
 rintro vs H Q E ⟨_,c,dx,rfl,hc,q⟩
 unfold gj
 nofun
 symm
 refine Kk fun d1 H1 f1 s1 h1=>?_
 symm
 have l0:([]:List (Qg×V)).length<=0:=QC _
 have l1:(cE "purses" (.ref d1) []).length<=1:=kM _ _ _
 refine mK (s1 _ _ hc) C.aQ C.aV (by decide) ?_
 have n1:d1≠c:=(gN hc f1).symm
 have b1:bS [c] H1 (upd H1 c (.ins (aq K "Chest") dx (cE "purses" (.ref d1) []))):=bS.upd (s1 _ _ hc) (by intro xs z;cases z) ⋯
 nofun
 symm
 refine Kk fun d2 H2 f2 s2 h2=>?_
 symm
 have l2:(cE "costs" (.ref d2) (cE "purses" (.ref d1) [])).length<=2:=Qt (kM _ _ _) (by omega)
 refine mK (s2 _ _ ay) C.aQ C.bW (by omega) ?_
 have n2:d2≠c:=(gN ay f2).symm
 have n12:d1≠d2:=gN (b1.1 d1 _ (by simpa using n1) h1) f2
 have b2:bS [c] H2 (upd H2 c (.ins (aq K "Chest") dx (cE "costs" (.ref d2) (cE "purses" (.ref d1) [])))):=bS.upd (s2 _ _ ay) (by intro xs z;cases z) ⋯
 nofun
 symm
 rename_i w H3 f3 s3 h3
 have l3:(cE "wishes" (.ref w) (cE "costs" (.ref d2) (cE "purses" (.ref d1) []))).length<=3:=Qt (kM _ _ _) (by omega)
 refine mK (s3 _ _ ay) C.aQ C.cc (by omega) ?_
 have n3:w≠c:=(gN ay f3).symm
 have b3:bS [c] H3 (upd H3 c (.ins (aq K "Chest") dx (cE "wishes" (.ref w) (cE "costs" (.ref d2) (cE "purses" (.ref d1) []))))):=bS.upd (s3 _ _ ay) (by intro xs z;cases z) ⋯
 nofun
 symm
 have l4:(cE "unshared" (.int 0) (cE "wishes" (.ref w) (cE "costs" (.ref d2) (cE "purses" (.ref d1) [])))).length<=4:=Qt (kM _ _ _) (by omega)
 refine mK ay C.aQ C.cR (by omega) ?_
 nofun
 symm
 have l5:(cE "gifts" (.int 0) (cE "unshared" (.int 0) (cE "wishes" (.ref w) (cE "costs" (.ref d2) (cE "purses" (.ref d1) []))))).length<=5:=Qt (kM _ _ _) (by omega)
 refine mK ay C.aQ C.km (by omega) ?_
 symm
 refine mK ay C.aQ C.jI (by omega) ?_
 rw[LS]
 have hI:∀(G:Hp)(o:List (Qg×V))(fs:List (Qg×V)),G c=some (.ins (aq K "Chest") dx o)->bS [c] G (upd G c (.ins (aq K "Chest") dx fs)):=fun G o fs h=>bS.upd h (by intro xs z;cases z) ⋯
 have key:∀Hf:Hp,bS [c] H3 Hf->Hf c=some (.ins (aq K "Chest") dx (iz d1 d2 w 0 0 0))->Q .non Hf:=fun Hf b4 hf=>by
  have b5:=(b2.trans (bS.of s3)).trans b4
  have b6:=(b1.trans (bS.of s2)).trans b5
  refine q _ [c,d1,d2,w] ⟨dx,d1,d2,w,[],⟨hf,b6.1 d1 _ (by simpa using n1) h1,b5.1 d2 _ (by simpa using n2) h2,b4.1 w _ (by simpa using n3) h3,.nil,n12,UK,UK⟩,rfl⟩ ((bS.of s1).trans b6) ?_
  intro a ha
  have g2:H1 d2=none:=b1.2.2 _ f2
  have g3:H1 w=none:=((b1.trans (bS.of s2)).trans b2).2.2 _ f3
  simp only[QI,RD,or_false]at ha
  rcases ha with rfl|rfl|rfl|rfl
  ·exact .inl ⋯
  ·exact .inr f1
  ·exact .inr (s1.free g2)
  ·exact .inr (s1.free g3)
 refine key _ ?_ ay
 exact((b3.trans (hI _ _ _ ay)).trans (hI _ _ _ ay)).trans (hI _ _ _ ay)
theorem tP(C:il K):∀vs H Q E,gU K vs H Q E->gM K {nx:=fun _ H'=>Q .non H',rt:=Q} (start ["self"] vs) H:=by
 rintro vs H Q E ⟨_,d,dx,rfl,hd,q⟩
 unfold gM
 symm
 refine Fc fun c cx f0 g0 n0=>?_
 refine⟨rfl,c,cx,rfl,ay,fun H1 fp x1 b1 w1=>⟨rfl,?_⟩⟩
 obtain⟨s1,e1⟩:=made f0 g0 b1 w1
 symm
 refine mK (s1 _ _ hd) C.B2 C.iQ (by decide) ?_
 have b2:bS [d] H1 (upd H1 d (.ins (aq K "Desk") dx (cE "chest" (.ref c) []))):=bS.upd (s1 _ _ hd) (by intro xs z;cases z) ⋯
 have dn:d∉fp:=fun m=>by rw[e1 d m]at hd;cases hd
 refine q _ (d::fp) ⟨dx,c,fp,ay,x1.but b2 (fun y hy m=>dn (by rw[<-Q8.mp m];exact hy)),dn,rfl⟩ ((bS.of s1).trans b2) ?_
 intro y hy
 rcases QI.mp hy with rfl|hy
 ·exact .inl ⋯
 ·exact .inr (e1 y hy)
theorem yQ:∀vs H Q E,hG K vs H Q E->kj K {nx:=fun _ H'=>Q .non H',rt:=Q} (start ["cell","many","spins","k","turn"] vs) H:=by
 rintro vs H Q E ⟨_,c,m,rfl,hm,q⟩
 unfold kj
 nofun
 symm
 rename_i l H1 f1 s1 h1
 nofun
 symm
 have en:((m:Int)).toNat=m:=by omega
 rw[en]
 refine gW (lo:=0) (n:=m) (fun i σ H'=>ar H H'/\∃(v3 v4:Option V),H' l=some (.lst ((gF c i).map V.int))/\σ=[some (.int c),some (.int m),some (.ref l),v3,v4]) ⟨s1,_,_,h1,rfl⟩ ?_ ?_
 ·rintro i σ H2 hi ⟨s2,v3,v4,h2,rfl⟩
  have fit:((gF c i).map V.int).length<Qr:=by rw[Qw,Ae];exact Q4 (show i<1000 by omega) bL
  show aH _ _ _ _ _
  nofun
  symm
  have t0:0<=c%900900929+2503*(0+(i:Int))+77:=by omega
  have t1:c%900900929+2503*(0+(i:Int))+77<=1000000000:=by omega
  have et:c%900900929+2503*(0+(i:Int))+77=c%900900929+2503*(i:Int)+77:=by omega
  have e:(c%900900929+2503*(0+(i:Int))+77)*(c%900900929+2503*(0+(i:Int))+77)*(c%900900929+2503*(0+(i:Int))+77+31*(0+(i:Int)))/13%700700003=eM c i:=by
   unfold eM
   rw[et,show(0+(i:Int))=(i:Int) by omega]
  generalize c%900900929+2503*(0+(i:Int))+77=t at *
  symm
  exists NU h2
  symm
  refine fI h2 fit ?_
  rw[e]
  refine⟨s2.upd f1,_,_,?_,rfl⟩
  rw[ay]
  unfold gF
  rw[TX]
  simp
 ·rintro σ Ha ⟨sa,v3,v4,h2,rfl⟩
  symm
  exact q l Ha f1 sa h2
structure Qd(K:Qj)(cl:Qg):Prop where
 i:(RN K (aq K cl)).isSome=true
 ek:nP K (aq K cl)
 m:Sa K (.ref (aq K cl)) (.ref (aq K "PurseError"))=some true
 t:QD K (.ref (aq K cl)) (.type "ValueError")=some true
 q1:QD K (.ref (aq K cl)) (.ref (aq K "NoRow"))=some (decide (cl="NoRow"))
 q2:QD K (.ref (aq K cl)) (.ref (aq K "NoVoter"))=some (decide (cl="NoVoter"))
 q3:QD K (.ref (aq K cl)) (.ref (aq K "NoName"))=some (decide (cl="NoName"))
 q4:QD K (.ref (aq K cl)) (.ref (aq K "Twice"))=some (decide (cl="Twice"))
 q5:QD K (.ref (aq K cl)) (.ref (aq K "NoWork"))=some (decide (cl="NoWork"))
 q6:QD K (.ref (aq K cl)) (.ref (aq K "TooMuch"))=some (decide (cl="TooMuch"))
 q7:QD K (.ref (aq K cl)) (.ref (aq K "Full"))=some (decide (cl="Full"))
theorem nq{o:Option Bool}{b c:Bool}(h:o=some b)(e:b=c:=by decide +kernel):o=some c:=e▸h
theorem il.fact(F:il K){cl:Qg}(h:cl="NoName"\/cl="Twice"\/cl="NoVoter"\/cl="NoWork"\/cl="TooMuch"\/cl="Full"\/cl="NoRow"):Qd K cl:=by
 rcases h with rfl|rfl|rfl|rfl|rfl|rfl|rfl
 ·exact⟨F.Je,F.GD,F.pb,F.px,nq F.vO,nq F.tH,nq F.u9,nq F.vV,nq F.uW,nq F.sN,nq F.zi⟩
 ·exact⟨F.Ll,F.Ke,F.qV,F.qj,nq F.yo,nq F.vf,nq F.vF,nq F.yS,nq F.xk,nq F.vj,nq F.Br⟩
 ·exact⟨F.HS,F.EH,F.oF,F.oj,nq F.uZ,nq F.rY,nq F.sO,nq F.vp,nq F.tm,nq F.sv,nq F.yc⟩
 ·exact⟨F.Jo,F.Gu,F.pf,F.pC,nq F.xr,nq F.tT,nq F.va,nq F.vK,nq F.vd,nq F.tD,nq F.yw⟩
 ·exact⟨F.HI,F.Fm,F.oA,F.oi,nq F.u4,nq F.rS,nq F.tR,nq F.uV,nq F.tE,nq F.rL,nq F.wF⟩
 ·exact⟨F.NI,F.Lb,F.rG,F.rB,nq F.BV,nq F.xp,nq F.zj,nq F.BA,nq F.yx,nq F.wM,nq F.DQ⟩
 ·exact⟨F.Ly,F.Kh,F.qF,F.qH,nq F.yG,nq F.ve,nq F.yh,nq F.zg,nq F.wO,nq F.vk,nq F.AA⟩
theorem u3(F:il K):∀vs H Q E,fi K vs H Q E->iE K {nx:=fun _ H'=>Q .non H',rt:=Q} (start ["e","kinds"] vs) H:=by
 rintro vs H Q E ⟨_,x,cl,rfl,hx,hcl,q⟩
 have C:=F.fact hcl
 have st:∀{H':Hp},ar H H'->ExcAt H' x (aq K cl):=fun s'=>by
  obtain⟨o,x1,x2⟩:=hx
  exact⟨o,s' _ _ x1,x2⟩
 unfold iE
 nofun
 symm
 exists x,_,aq K cl,_,rfl,rfl,hx,C.i,C.ek,C.q3
 symm
 exists x,_,aq K cl,_,rfl,rfl,hx,C.i,C.ek,C.q4
 symm
 exists x,_,aq K cl,_,rfl,rfl,hx,C.i,C.ek,C.q2
 symm
 exists x,_,aq K cl,_,rfl,rfl,hx,C.i,C.ek,C.q5
 symm
 rename_i l3 H3 f3 s3 h3
 have hx3:=st s3
 exists x,_,aq K cl,_,rfl,rfl,hx3,C.i,C.ek,C.q6
 symm
 exists x,_,aq K cl,_,rfl,rfl,hx3,C.i,C.ek,C.q7
 symm
 exists x,_,aq K cl,_,rfl,rfl,hx3,C.i,C.ek,C.q1
 symm
 exists x,_,aq K cl,_,rfl,rfl,hx3,C.i,C.ek,C.t
 symm
 rename_i l4 H4 f4 s4 h4
 refine xo (s4 _ _ h3) h4 (show 4+4<=Qr by decide) fun l5 H5 f5 s5 h5=>?_
 exact q l5 H5 (s3.free (s4.free f5)) (s3.trans (s4.trans s5)) (by rw[h5];rfl)
theorem zt:∀vs H Q E,kn K vs H Q E->kq K E {nx:=fun _ H'=>Q .non H',rt:=Q} (start ["row","words"] vs) H:=by
 rintro vs H Q E ⟨_,z,rfl,ha,hz,qn,qe⟩
 have hsz:=size_eq
 have hsl:=split_len z
 have hrp:=repr_fits ha hz
 unfold kq
 nofun
 symm
 refine⟨z," ",rfl,rfl,nofun,by omega,by omega,fun l hl=>?_⟩
 have s1:ar H (upd H l (.lst ((Q9 z " ").map V.str))):=ar.updN hl
 have h1:upd H l (.lst ((Q9 z " ").map V.str)) l=some (.lst ((Q9 z " ").map V.str)):=ay
 symm
 nofun
 symm
 exists l,_,rfl,.inl (bo.of h1),rfl,Ia _
 rw[if_neg (by decide),KS]
 exists _,rfl
 refine cQ (fun hm=>?_) (fun hm=>?_)
 ·have n1:(QO++("no row: ":Qg)).length=8:=nofun
  have n2:(QO++("no row: ":Qg)++UI z).length<=Qr:=by
   rw[QQ]
   omega
  exact⟨_,rfl,by omega,_,rfl,z,rfl,by omega,_,rfl,n2,n2,(by decide:1<=Qr),qe hm _ s1⟩
 ·symm
  exact qn hm l hl
theorem sf:∀vs H Q E,gu K vs H Q E->gs K {nx:=fun _ H'=>Q .non H',rt:=Q} (start ["step","number","multiple"] vs) H:=by
 rintro vs H Q E ⟨_,s,n,rfl,hs,hn,q⟩
 unfold gs
 walk_at "w"
 exists fun μ σ H'=>∃m:Nat,σ=[some (.int s),some (.int n),some (.int m)]/\H'=H/\0<m/\s∣m/\m<=Sl s n/\μ=Sl s n-m,⟨_,s,rfl,rfl,hs,WU s,XG (YV hs hn) (W5 s n),rfl⟩
 rintro μ σ H' ⟨m,rfl,rfl,h1,h2,h3,rfl⟩
 walk_at "w"
 refine LN (fun h=>?_) (fun h=>?_)
 ·have hne:m%n≠0:=fun e=>by
   have e':((m:Int)%(n:Int))=0:=by exact_mod_cast e
   rw[e']at h
   simp at h
  have hst:=Iy hs hn h2 h3 hne
  exists fun σ' H''=>∃m':Nat,σ'=[some (.int s),some (.int n),some (.int m')]/\H''=H'/\m'=m+s,?_
  ·rintro σ' H'' ⟨m',rfl,rfl,rfl⟩
   exact⟨_,(by omega),m+s,rfl,rfl,(by omega),Nat.dvd_add h2 (WU s),hst,rfl⟩
  ·walk_at "w"
   exact⟨m+s,rfl,rfl,rfl⟩
 ·have h0:m%n=0:=by
   rcases YY (m%n)with z|z
   ·exact z
   ·exfalso
    apply h
    have:¬((m:Int)%(n:Int))=0:=by
     intro e
     have e':m%n=0:=by exact_mod_cast e
     omega
    simp[this]
  walk_at "w"
  rw[LF h1 h2 h3 h0]
  exact q
theorem Dq:∀vs H Q E,oJ K vs H Q E->nK K {nx:=fun _ H'=>Q .non H',rt:=Q} (start ["n","least","number"] vs) H:=by
 rintro vs H Q E ⟨_,n,rfl,hn,q⟩
 unfold nK
 walk_at "w"
 refine gW (lo:=1) (n:=((n:Int)+1-1).toNat) (fun i σ H'=>H'=H/\∃v,σ=[some (.int n),some (.int (nF i:Nat)),v]) ⟨rfl,none,rfl⟩ ?_ ?_
 ·rintro i σ H' hi ⟨rfl,v,rfl⟩
  show bM _ _ _ _ _
  walk_at "w"
  exists rfl,nF i,i+1,?_,BW i,YI i
  ·have e:(1:Int)+(i:Int)=((i+1:Nat):Int):=by omega
   rw[e]
  ·exact⟨rfl,_,rfl⟩
 ·rintro σ H' ⟨rfl,v,rfl⟩
  walk_at "w"
  have e:((n:Int)+1-1).toNat=n:=by omega
  rw[e]
  exact q
theorem A4(a i:Nat):((a ^ (i+1):Nat):Int)*((a:Nat):Int)=((a ^ (i+1+1):Nat):Int):=by
 rw[Wl a (i+1)]
 push_cast
 rfl
theorem BM:∀vs H Q E,iY K vs H Q E->mj K {nx:=fun _ H'=>Q .non H',rt:=Q} (start ["voters","works","factor","grains","work"] vs) H:=by
 rintro vs H Q E ⟨_,v,w,rfl,h1,h2,h3,q⟩
 have ts:=z0 v (by omega)
 unfold mj
 walk_at "w"
 exists rfl,v,rfl,h2
 walk_at "w"
 refine gW (lo:=0) (n:=((w:Int)).toNat) (fun i σ H'=>H=H'/\∃u,σ=[some (.int v),some (.int w),some (.int (nF v:Nat)),some (.int (nF v ^ (i+1):Nat)),u]) ⟨rfl,none,by rw[Nat.pow_one];rfl⟩ ?_ ?_
 ·rintro i σ H' hi ⟨rfl,u,rfl⟩
  show Er _ _ _ _ _ _
  walk_at "w"
  rw[A4]
  exact⟨rfl,_,rfl⟩
 ·rintro σ H' ⟨rfl,u,rfl⟩
  walk_at "w"
  exact q
theorem E6:∀vs H Q E,qM K vs H Q E->qC K {nx:=fun _ H'=>Q .non H',rt:=Q} (start ["steps","voter"] vs) H:=by
 rintro vs H Q E ⟨_,a,sts,i,rfl,hA,hl,hi,q⟩
 obtain⟨ts,bs,B⟩:=hA.b
 have qA:bo K H a (ts.map V.ref):=(B.ys (ar.refl _)).1
 unfold qC
 symm
 refine b7 (ik (ts:=ts) (u:=fun i=>.int ((sts.getD i stN).1:Nat)) (v:=fun i=>.int (sts.getD i stN).2.1) (w:=fun i=>.ref (bs.getD i 0)) 0 1 2) (fun j=>[some (.int ((sts.getD j stN).1:Nat)),some (.int (sts.getD j stN).2.1),some (.ref (bs.getD j 0)),some (.int (i:Int))]) (by rintro j σ' (rfl|⟨k,rfl⟩)<;>rfl) (fun H' s=>B.ys s) (by rw[B.tl];exact Qt (show sts.length<=1000 by omega) bL) (fun j=>.int ((sts.getD j stN).2.2.getD i 0)) ?_ ?_
 ·intro j hj H' G s kk
  rw[B.tl]at hj
  have hp:bo K H' (bs.getD j 0) ((sts.getD j stN).2.2.map V.int):=B.paid s hj
  have hil:=hi (sts.getD j stN) (by simp[QN,hj])
  symm
  refine cY hp (bI (v:=.int ((sts.getD j stN).2.2.getD i 0)) (by generalize (sts.getD j stN).2.2=xs at *;simp[QN,hil])) ?_
  exact kk H' (ar.refl _)
 intro l H1 f1 s1 h1
 have e1:(QM ts.length).map (fun j=>V.int ((sts.getD j stN).2.2.getD i 0))=(sts.map fun x=>x.2.2.getD i 0).map V.int:=by
  rw[B.tl,br (fun x:Nat×Int×List Int=>V.int (x.2.2.getD i 0)) stN sts,QR]
  rfl
 rw[e1]at h1
 symm
 exact q H1 s1
theorem D7:∀vs H Q E,lz K vs H Q E->qt K {nx:=fun _ H'=>Q .non H',rt:=Q} (start ["purses","steps"] vs) H:=by
 rintro vs H Q E ⟨_,a,b,ps,sts,rfl,hA,hB,hl,hsl,hsp,q⟩
 have hlp:(ps.map V.int).length=ps.length:=Qw _
 unfold qt
 symm
 try refine⟨a,rfl,⟨_,hA⟩,?_⟩
 refine b7 (sJ (xs:=ps.map V.int) 0 1) (fun j=>[some (.int j),some ((ps.map V.int).getD j .non),some (.ref b)]) (by rintro j σ' (rfl|⟨k,rfl⟩)<;>rfl) (fun H' s=>s.seq hA) (by rw[hlp];exact Qt (show _<=1000 by omega) bL) (fun j=>.int (ps.getD j 0-(sts.map fun x=>x.2.2.getD j 0).sum)) ?_ ?_
 ·intro j hj H' G s kk
  rw[hlp]at hj
  have e:(ps.map V.int).getD j .non=.int (ps.getD j 0):=by simp[QN,hj]
  rw[e]
  symm
  refine⟨rfl,b,sts,j,rfl,lR s hB,by omega,fun x hx=>by rw[hsp x hx];exact hj,fun H2 s2=>?_⟩
  symm
  exact kk H2 s2
 ·intro l H' f s h
  rw[hlp]at h
  refine q l H' f s ?_
  rw[h]
  unfold bY
  rw[QR]
  rfl
theorem A6:∀vs H Q E,lO K vs H Q E->lg K {nx:=fun _ H'=>Q .non H',rt:=Q} (start ["costs","wishes","grains"] vs) H:=by
 rintro vs H Q E ⟨_,a,b,cs,rows,rfl,hA,⟨bs,hB,hP⟩,hl,hb,hv1,hv,q⟩
 have hlc:(cs.map V.int).length=cs.length:=Qw _
 have hlb:(bs.map V.ref).length=rows.length:=by rw[Qw];exact(QU hP).symm
 have pi:=qz (v:=rows.length) (w:=cs.length+1) hv (by omega)
 unfold lg
 walk_at "v"
 exists rfl,rows.length,cs.length,by rw[hlc,hlb],hv1,hv,hl
 walk_at "v"
 generalize ((nF rows.length ^ (cs.length+1):Nat):Int)=g at *
 refine b7 (fh (xs:=cs.map V.int) 0) (fun j=>[some ((cs.map V.int).getD j .non),some (.int g)]) (by rintro j σ' (rfl|⟨k,rfl⟩)<;>rfl) (fun H' s=>s.seq hA) (by rw[hlc];exact Qt (show cs.length<=1000 by omega) bL) (fun j=>.int (cs.getD j 0*g)) ?_ ?_
 ·intro j hj H' G s k
  rw[hlc]at hj
  have e:(cs.map V.int).getD j .non=.int (cs.getD j 0):=by simp[QN,hj]
  have hbj:=hb (cs.getD j 0) (by simp[QN,hj])
  rw[e]
  walk_at "v"
  exact k H' (ar.refl _)
 ·intro l H' f s h
  refine q l H' f s ?_
  rw[h,hlc,br (fun x=>V.int (x*g)) 0 cs,QR]
  rfl
theorem yL:∀vs H Q E,kx K vs H Q E->kc K {nx:=fun _ H'=>Q .non H',rt:=Q} (start ["amount","shares"] vs) H:=by
 rintro vs H Q E ⟨_,m,p,rfl,h0,h1,q⟩
 unfold kc
 walk_at "w"
 exact q
theorem pairwise_split{ms:List Int}(h:ms.Pairwise (·<=·)){i:Nat}(hi:i<ms.length):(∀y∈ms.take i,y<=ms[i])/\(∀y∈ms.drop (i+1),ms[i]<=y):=by
 have e:ms=ms.take i++ms[i]::ms.drop (i+1):=by
  rw[Yq,YA]
 have h':=h
 rw[e]at h'
 obtain⟨_,h2,h3⟩:=List.pairwise_append.mp h'
 exact⟨fun y hy=>h3 y hy _ Ri,fun y hy=>(List.pairwise_cons.mp h2).1 y hy⟩
theorem BP:∀vs H Q E,lD K vs H Q E->lE K {nx:=fun _ H'=>Q .non H',rt:=Q} (start ["purses","price","missing","payers","purse"] vs) H:=by
 rintro vs H Q E ⟨_,a,ps,price,rfl,hS,hl,hp,hpr,qn,qs⟩
 have hL:(ps.map V.int).length=ps.length:=Qw _
 unfold lE
 walk_at "w"
 refine LN (fun h=>?_) (fun h=>?_)
 ·walk_at "w"
  exact qn (of_decide_eq_true h) H (ar.refl _)
 have hsum:price<=ps.sum:=by
  rcases SF ps.sum price with z|z
  ·exact absurd (decide_eq_true z) h
  ·exact z
 walk_at "w"
 refine⟨a,ps,rfl,hS,by omega,fun l ms h0 perm pw=>?_⟩
 have s1:=ar.updN (o:=.lst (ms.map V.int)) h0
 have hq:bo K (upd H l (.lst (ms.map V.int))) l (ms.map V.int):=bo.of ay
 generalize upd H l (.lst (ms.map V.int))=H1 at *
 have hlen:ms.length=ps.length:=perm.length_eq
 have hms:∀y∈ms,0<=y:=fun y hy=>hp y (perm.mem_iff.mp hy)
 have hsm:ms.sum=ps.sum:=Cm perm
 walk_at "w"
 refine JQ (K:=K) (a:=l) (xs:=ms.map V.int) (fun i σ H'=>H1=H'/\i<=ms.length/\∃(m:Int)(v:Option V),m=price-(ms.take i).sum/\0<m/\(∀y∈ms.take i,y*((ms.length:Int)-(i:Int))<m)/\
  σ=[some (.ref a),some (.int price),some (.int m),some (.int ((ms.length:Int)-(i:Int))),v]) ⟨rfl,Rm _,price,none,⋯,by omega,⋯,?_⟩ ?_ ?_ ?_
 ·rw[hL,hlen]
  show _=[_,_,_,some (V.int ((ps.length:Int)-((0:Nat):Int))),_]
  rw[show((ps.length:Int)-((0:Nat):Int))=(ps.length:Int) by omega]
  rfl
 ·rintro i σ H' _ ⟨rfl,_⟩
  exact hq
 ·rintro i x σ H' hx ⟨rfl,hil,m,v,hm,hm0,hA,rfl⟩
  have hi:i<ms.length:=by
   have:=(Q0.mp hx).1
   rwa [Qw]at this
  have hx':x=V.int ms[i]:=by
   rw[SM,Qz hi]at hx
   exact(Rk hx).symm
  subst hx'
  have hmi:0<=ms[i]:=hms _ (Sz hi)
  obtain⟨b1,b2⟩:=pairwise_split pw hi
  have htk:ms.take (i+1)=ms.take i++[ms[i]]:=by
   rw[Uu,Qz hi]
   rfl
  show aH _ _ _ _ _
  walk_at "w"
  refine LN (fun h=>?_) (fun h=>?_)
  ·have h:=of_decide_eq_true h
   walk_at "w"
   exists rfl,m,(ms.length:Int)-(i:Int),rfl,by omega,by omega
   have e:ms=ms.take i++ms[i]::ms.drop (i+1):=by
    rw[Yq,YA]
   have key:=GW (pre:=ms.take i) (post:=ms.drop (i+1)) (x:=ms[i]) (m:=m) (p:=(ms.length:Int)-(i:Int)) (price:=price)
    (by rw[SE];omega) hm hm0 hA h b2
   rw[<-e]at key
   refine qs hsum _ _ ?_ s1
   unfold IU at key ⊢
   rw[Dk perm,Dk perm]at key
   exact key
  ·have h:¬m<=ms[i]*((ms.length:Int)-(i:Int)):=fun z=>h (decide_eq_true z)
   obtain⟨c1,c2⟩:=JP (p:=(ms.length:Int)-(i:Int)) (by omega) hmi b1 h
   walk_at "w"
   exists rfl,hi,m-ms[i],some (.int ms[i]),?_,c1,?_
   ·rw[htk,Jc]
    omega
   ·rw[htk]
    have e:(ms.length:Int)-((i+1:Nat):Int)=(ms.length:Int)-(i:Int)-1:=by omega
    rw[e]
    exact c2
   ·have e:(ms.length:Int)-((i+1:Nat):Int)=(ms.length:Int)-(i:Int)-1:=by omega
    rw[e]
    rfl
 ·rintro σ H' ⟨rfl,_,m,v,hm,hm0,hA,rfl⟩
  exfalso
  rw[Qw,Ur]at hm
  omega
theorem range_getD{α β:Type}(f:α->β)(d:α)(xs:List α):(QM xs.length).map (fun i=>f (xs.getD i d))=xs.map f:=by
 apply Tv
 ·simp
 ·intro k h1 h2
  have hk:k<xs.length:=by simpa using h1
  simp[QN,hk]
theorem A5:∀vs H Q E,mm K vs H Q E->mq K {nx:=fun _ H'=>Q .non H',rt:=Q} (start ["wanted","works"] vs) H:=by
 rintro vs H Q E ⟨_,a,b,ws,ks,rfl,hA,hB,hl,q⟩
 have hlm:(ks.map V.int).length=ks.length:=Qw _
 unfold mq
 walk_at "v"
 refine b7 (fh (xs:=ks.map V.int) 0) (fun j=>[some ((ks.map V.int).getD j .non),some (.ref a)]) (by rintro j σ' (rfl|⟨k,rfl⟩)<;>rfl) (fun H' s=>s.seq hB) (by rw[hlm];exact Qt (show ks.length<=1000 by omega) bL) (fun j=>.bl (decide (ks.getD j 0∈ws))) ?_ ?_
 ·intro j hj H' G s k
  rw[hlm]at hj
  have e:(ks.map V.int).getD j .non=.int (ks.getD j 0):=by simp[QN,hj]
  rw[e]
  walk_at "v"
  exact k H' (ar.refl _)
 ·intro l H' f s h
  have e:(QM (ks.map V.int).length).map (fun j=>V.bl (decide (ks.getD j 0∈ws)))=(ks.map fun k=>decide (k∈ws)).map V.bl:=by
   rw[hlm,range_getD (fun k=>V.bl (decide (k∈ws))) 0 ks,QR]
   rfl
  rw[e]at h
  walk_at "v"
  have e2:(ks.map fun k=>decide (k∈ws)).all id=ks.all fun k=>decide (k∈ws):=by
   rw[Ul]
   rfl
  rw[e2]
  exact q H' s
theorem AW:∀vs H Q E,mF K vs H Q E->lF K {nx:=fun _ H'=>Q .non H',rt:=Q} (start ["wishes","works"] vs) H:=by
 rintro vs H Q E ⟨_,a,b,rows,ks,rfl,⟨bs,hA,hP⟩,hB,hl1,hl2,q⟩
 have hbl:bs.length=rows.length:=(QU hP).symm
 have hlm:(bs.map V.ref).length=bs.length:=Qw _
 unfold lF
 walk_at "v"
 refine qP (sJ (xs:=bs.map V.ref) 0 1) (fun i=>[some (.int i),some ((bs.map V.ref).getD i .non),some (.ref b)]) (by rintro i σ' (rfl|⟨k,rfl⟩)<;>rfl) (fun H' s=>s.seq hA) (by rw[hlm];exact Qt (show bs.length<=1000 by omega) bL) (fun i=>ks.all fun k=>decide (k∈rows.getD i [])) (fun i=>.int i) ?_ ?_ ?_
 ·intro i hi H' G s k
  rw[hlm]at hi
  obtain⟨row,hr,hq⟩:=lQ hP (show bs[i]?=some bs[i] by simp[hi])
  have e:(bs.map V.ref).getD i .non=.ref bs[i]:=by simp[QN,hi]
  have e2:rows.getD i []=row:=by simp[QN,hr]
  rw[e2]at k
  rw[e]
  walk_at "v"
  refine⟨rfl,bs[i],b,row,ks,rfl,s.seq hq,s.seq hB,hl2,fun H'' s'=>?_⟩
  walk_at "v"
  exact k H'' s'
 ·intro i hi _ H' G s k
  walk_at "v"
  exact k H' (ar.refl _)
 ·intro l H' f s h
  rw[hlm,hbl]at h
  refine q l H' f s ?_
  rw[h]
  unfold mx
  rw[QR]
  rfl
theorem yF:∀vs H Q E,hZ K vs H Q E->ko K {nx:=fun _ H'=>Q .non H',rt:=Q} (start ["wishes","work"] vs) H:=by
 rintro vs H Q E ⟨_,a,rows,k,rfl,hR,hl,q⟩
 unfold ko
 walk_at "v"
 rename_i l1 H1 f1 s1 h1
 refine⟨rfl,a,l1,rows,[k],rfl,by walk_at "rows",bo.of h1,hl,WJ rfl,fun l H' f s h=>?_⟩
 exact q l H' (s1.free f) (s1.trans s) h
theorem DG:∀vs H Q E,oQ K vs H Q E->oy K {nx:=fun _ H'=>Q .non H',rt:=Q} (start ["purses","wishes","work","price"] vs) H:=by
 rintro vs H Q E ⟨_,a,b,ps,rows,k,price,rfl,hA,hB,hv,hl,hp,hpr,qn,qs⟩
 unfold oy
 walk_at "v"
 refine⟨rfl,b,rows,(k:Int),rfl,hB,by omega,fun lw H1 f1 s1 h1=>?_⟩
 rw[wy]at h1
 have hwl:=GY rows k
 have hA1:=s1.seq hA
 have q1:bo K H1 lw (((dI rows k).map fun i:Nat=>(i:Int)).map V.int):=bo.of h1
 have hlw:(((dI rows k).map fun i:Nat=>(i:Int)).map V.int).length=(dI rows k).length:=⋯
 walk_at "v"
 refine b7 (fh (xs:=((dI rows k).map fun i:Nat=>(i:Int)).map V.int) 0) (fun j=>[some ((((dI rows k).map fun i:Nat=>(i:Int)).map V.int).getD j .non),some (.ref a)]) (by rintro j σ' (rfl|⟨k,rfl⟩)<;>rfl) (fun H' s=>s.seq q1) (by rw[hlw];exact Qt (show _<=1000 by omega) bL) (fun j=>.int (PF ps ((dI rows k).getD j 0))) ?_ ?_
 ·intro j hj H' G s kk
  rw[hlw]at hj
  have e:(((dI rows k).map fun i:Nat=>(i:Int)).map V.int).getD j .non=.int (((dI rows k).getD j 0:Nat):Int):=by simp[QN,hj]
  have hm:(dI rows k).getD j 0∈dI rows k:=by simp[QN,hj]
  have hi:=J5 hm
  rw[e]
  generalize (dI rows k).getD j 0=i at *
  walk_at "v"
  refine cY (s.seq hA1) (bI (EJ (by omega))) ?_
  exact kk H' (ar.refl _)
 intro l H2 f2 s2 h2
 have e2:(QM (((dI rows k).map fun i:Nat=>(i:Int)).map V.int).length).map (fun j=>V.int (PF ps ((dI rows k).getD j 0)))=((dI rows k).map (PF ps)).map V.int:=by
  rw[hlw,br (fun i=>V.int (PF ps i)) 0 (dI rows k),QR]
  rfl
 rw[e2]at h2
 walk_at "v"
 refine⟨rfl,l,(dI rows k).map (PF ps),price,rfl,bo.of h2,by rw[Qw];omega,fun p h=>?_,hpr,fun h H3 s3=>?_,fun h L H3 hL s3=>?_⟩
 ·obtain⟨i,_,e⟩:=Qu.mp h
  rw[<-e]
  exact KJ hp i
 ·rw[CY]at h
  exact qn h H3 (s1.trans (s2.trans s3))
 ·rw[CY]at h
  obtain⟨z1,z2,z3⟩:=hL
  rw[JM]at z2 z3
  exact qs h L H3 z1 z2 z3 (s1.trans (s2.trans s3))
theorem BJ:∀vs H Q E,lx K vs H Q E->lN K {nx:=fun _ H'=>Q .non H',rt:=Q} (start ["purses","costs","wishes","done","offers","work","price"] vs) H:=by
 rintro vs H Q E ⟨_,a,b,c,d,ps,cs,rows,done,rfl,hA,hB,hC,hD,hl,hb,hv1,hv,hpl,hp,hdl,q⟩
 unfold lN
 nofun
 symm
 rename_i lo H1 f1 s1 h1
 nofun
 symm
 refine⟨rfl,b,c,cs,rows,rfl,s1.seq hB,s1.rows hC,hl,hb,hv1,hv,fun lp H2 f2 s2 h2=>?_⟩
 have hpr:∀j,j<cs.length->(((cs.map (· * ((nF rows.length ^ (cs.length+1):Nat):Int))).map V.int)).getD j .non=.int ((bZ cs rows).c j):=fun j hj=>by
  simp[QN,hj,bZ]
 have hlx:((cs.map (· * ((nF rows.length ^ (cs.length+1):Nat):Int))).map V.int).length=cs.length:=⋯
 generalize (cs.map (· * ((nF rows.length ^ (cs.length+1):Nat):Int))).map V.int=xs at *
 have q2:bo K H2 lp xs:=bo.of h2
 have hne:lp≠lo:=fun z=>by
  rw[z,h1]at f2
  cases f2
 have h1':=s2 _ _ h1
 have s12:=s1.trans s2
 symm
 refine oa (sJ (xs:=xs) 5 6) (fun i σ H'=>ar H H'/\H' lp=some (.lst xs)/\∃(os:List (Option Int))(v5 v6:Option V),H' lo=some (.lst (os.map oV))/\os.length=i/\i<=cs.length/\(∀j o,os[j]?=some o->DF (bZ cs rows) (PF ps) done j o)/\σ=[some (.ref a),some (.ref b),some (.ref c),some (.ref d),some (.ref lo),v5,v6]) ⟨s12,h2,[],_,_,h1',rfl,Rm _,(fun j o h=>by simp at h),rfl⟩ (fun i σ H' h=>bo.of h.2.1) ?_ ?_
 ·rintro i σ Ha Hb hi ⟨sa,hpa,os,v5,v6,ho,hol,hil,hok,rfl⟩ sb
  rw[hlx]at hi
  rw[hpr i hi]
  have sab:=sa.trans sb
  have fit:(os.map oV).length<Qr:=by rw[Qw,hol];exact Q4 (show i<1000 by omega) bL
  have add:∀(o:Option Int)(Hc:Hp),ar Hb Hc->DF (bZ cs rows) (PF ps) done i o->ar H (upd Hc lo (.lst (os.map oV++[oV o])))/\(upd Hc lo (.lst (os.map oV++[oV o]))) lp=some (.lst xs)/\∃(os':List (Option Int))(v5 v6:Option V),(upd Hc lo (.lst (os.map oV++[oV o]))) lo=some (.lst (os'.map oV))/\os'.length=i+1/\i+1<=cs.length/\(∀j o,os'[j]?=some o->DF (bZ cs rows) (PF ps) done j o)/\[some (V.ref a),some (.ref b),some (.ref c),some (.ref d),some (.ref lo),some (.int (i:Int)),some (.int ((bZ cs rows).c i))]=[some (.ref a),some (.ref b),some (.ref c),some (.ref d),some (.ref lo),v5,v6]:=by
   intro o Hc sc hoff
   refine⟨(sab.trans sc).upd f1,by rw[ax hne];exact sc _ _ (sb _ _ hpa),os++[o],_,_,by rw[ay];simp,by simp[hol],hi,fun j o' hj=>?_,rfl⟩
   by_cases hjl:j<os.length
   ·rw[S6 hjl]at hj
    exact hok j o' hj
   ·rw[TV (by omega)]at hj
    cases e:j-os.length with
    |zero=>
     rw[e]at hj
     have e1:o=o':=by simpa using hj
     have e2:j=i:=by omega
     rw[<-e1,e2]
     exact hoff
    |succ n=>rw[e]at hj;simp at hj
  have hD':=sab.seq hD
  have hA':=sab.seq hA
  have hC':=sab.rows hC
  have ho':=sb _ _ ho
  show cZ _ _ _ _
  symm
  exists NU ho'
  symm
  refine cQ (fun h=>?_) (fun h=>?_)
  ·symm
   refine fI ho' fit ?_
   exact add none Hb (ar.refl _) (.inl (nU.mp h))
  ·have hn:i∉done:=fun z=>h (nU.mpr z)
   symm
   refine⟨rfl,a,c,ps,rows,i,_,rfl,hA',hC',hv,hpl,hp,Mg hb i hi,fun hlt Hc sc=>?_,fun hle L Hc z1 z2 z3 sc=>?_⟩
   ·symm
    refine fI (sc _ _ ho') fit ?_
    exact add none Hc sc (.inr hlt)
   ·symm
    refine fI (sc _ _ ho') fit ?_
    exact add (some L) Hc sc ⟨hn,z1,z2,z3⟩
 rintro σ Ha ⟨sa,_,os,v5,v6,ho,hol,_,hok,rfl⟩
 rw[hlx]at hol
 symm
 exact q lo Ha os f1 sa ho hol hok
theorem Eo:∀vs H Q E,qr K vs H Q E->qy K {nx:=fun _ H'=>Q .non H',rt:=Q} (start ["offers","best","work","offer"] vs) H:=by
 rintro vs H Q E ⟨_,a,os,rfl,hA,hl,q⟩
 have hlo:(os.map oV).length=os.length:=Qw _
 unfold qy
 nofun
 symm
 nofun
 symm
 try refine⟨a,rfl,⟨_,hA⟩,?_⟩
 refine oa (sJ (xs:=os.map oV) 2 3) (fun i σ H'=>ar H H'/\∃(k:Option Nat)(v2 v3:Option V),iA (os.take i) k/\σ=[some (.ref a),some (oV (k.map fun j:Nat=>(j:Int))),v2,v3]) ⟨ar.refl _,none,_,_,Kr,rfl⟩ (fun i σ H' h=>h.1.seq hA) ?_ ?_
 ·rintro i σ Ha Hb hi ⟨sa,k,v2,v3,hk,rfl⟩ sb
  rw[hlo]at hi
  have hi':os[i]?=some os[i]:=by simp[hi]
  have e:(os.map oV).getD i .non=oV os[i]:=by simp[QN,hi]
  have htk:=take_snoc hi'
  have htl:(os.take i).length=i:=by rw[Rw];omega
  rw[e]
  have sab:=sa.trans sb
  show bO _ _ _ _ _ _
  cases ho:os[i]with
  |none=>
   rw[ho]at htk
   show bO _ _ _ _ [some (V.ref a),some (oV (k.map fun j:Nat=>(j:Int))),some (.int (i:Int)),some .non] _
   symm
   refine L7 rfl ?_
   symm
   exact⟨sab,k,_,_,by rw[htk];exact GI hk,rfl⟩
  |some M=>
   rw[ho]at htk
   cases k with
   |none=>
    show bO _ _ _ _ [some (V.ref a),some .non,some (.int (i:Int)),some (.int M)] _
    symm
    refine Kc ⋯ ?_
    symm
    refine vo rfl ?_
    symm
    refine⟨sab,some i,_,_,?_,rfl⟩
    have:=EZ (M:=M) hk
    rw[htl]at this
    rw[htk]
    exact this
   |some j=>
    show bO _ _ _ _ [some (V.ref a),some (.int (j:Int)),some (.int (i:Int)),some (.int M)] _
    have hk':=hk
    obtain⟨L,hL,_⟩:=hk'
    have hLo:os[j]?=some (some L):=by
     have h:=hL
     rw[List.getElem?_take]at h
     split at h
     ·exact h
     ·cases h
    have hix:(os.map oV)[j]?=some (.int L):=by
     rw[SM,hLo]
     rfl
    symm
    refine Kc ⋯ ?_
    symm
    refine gB ⋯ ?_
    symm
    refine cY (sab.seq hA) (bI hix) ?_
    symm
    refine cQ (fun h=>?_) (fun h=>?_)
    ·symm
     refine⟨sab,some i,_,_,?_,rfl⟩
     have:=GH hk hL h
     rw[htl]at this
     rw[htk]
     exact this
    ·symm
     refine⟨sab,some j,_,_,?_,rfl⟩
     rw[htk]
     exact G5 hk hL h
 rintro σ Ha ⟨sa,k,v2,v3,hk,rfl⟩
 rw[hlo,Ur]at hk
 symm
 exact q k Ha hk sa
theorem Hq{ms:List Int}{ks:List Nat}(h:ms.Perm (ks.map fun k:Nat=>(k:Int))):∃ws:List Nat,ms=ws.map fun k:Nat=>(k:Int):=by
 exists ms.map XJ
 rw[QR]
 conv=>lhs;rw[<-List.map_id ms]
 refine Tc fun x hx=>?_
 obtain⟨k,_,e⟩:=Qu.mp (h.mem_iff.mp hx)
 rw[<-e]
 rfl
theorem C7:∀vs H Q E,oz K vs H Q E->og K {nx:=fun _ H'=>Q .non H',rt:=Q} (start ["steps"] vs) H:=by
 rintro vs H Q E ⟨_,a,sts,rfl,hA,hl,hw,hn,q⟩
 obtain⟨ts,bs,B⟩:=hA.b
 have qA:bo K H a (ts.map V.ref):=(B.ys (ar.refl _)).1
 unfold og
 symm
 refine b7 (ik (ts:=ts) (u:=fun i=>.int ((sts.getD i stN).1:Nat)) (v:=fun i=>.int (sts.getD i stN).2.1) (w:=fun i=>.ref (bs.getD i 0)) 0 1 2) (fun j=>[some (.int ((sts.getD j stN).1:Nat)),some (.int (sts.getD j stN).2.1),some (.ref (bs.getD j 0))]) (by rintro j σ' (rfl|⟨k,rfl⟩)<;>rfl) (fun H' s=>B.ys s) (by rw[B.tl];exact Qt (show sts.length<=1000 by omega) bL) (fun j=>.int ((sts.getD j stN).1:Nat)) ?_ ?_
 ·intro j hj H' G s kk
  symm
  exact kk H' (ar.refl _)
 intro l H1 f1 s1 h1
 have e1:(QM ts.length).map (fun j=>V.int ((sts.getD j stN).1:Nat))=((sts.map (·.1)).map fun k:Nat=>(k:Int)).map V.int:=by
  rw[B.tl,br (fun x:Nat×Int×List Int=>V.int ((x.1:Nat):Int)) stN sts,QR,QR]
  rfl
 rw[e1]at h1
 symm
 refine⟨l,(sts.map (·.1)).map fun k:Nat=>(k:Int),rfl,bo.of h1,by simp;omega,fun p ms hp perm pw=>?_⟩
 have s2:=ar.updN (o:=.lst (ms.map V.int)) hp
 have h2:(upd H1 p (.lst (ms.map V.int))) p=some (.lst (ms.map V.int)):=ay
 generalize upd H1 p (.lst (ms.map V.int))=H2 at *
 obtain⟨ws,rfl⟩:=Hq perm
 have hmem:∀k,k∈ws↔k∈sts.map (·.1):=fun k=>by
  rw[<-nU,perm.mem_iff,nU]
 have hnd:ws.Nodup:=by
  have h3:((sts.map (·.1)).map fun k:Nat=>(k:Int)).Nodup:=Y2 _ (fun x y hxy z=>hxy (by omega)) hn
  have h4:=(perm.nodup_iff).mpr h3
  exact Yp _ (fun x y hxy z=>hxy (by rw[z])) h4
 have hpw:ws.Pairwise (· < ·):=by
  have h5:ws.Pairwise (·<=·):=Yp _ (fun x y h=>by omega) pw
  exact aa8 (fun x y h6 h7=>Nat.lt_of_le_of_ne h6 h7) h5 hnd
 exact q p H2 ws (s1.free hp) (s1.trans s2) h2 hpw hmem
theorem Es:∀vs H Q E,qR K vs H Q E->qG K {nx:=fun _ H'=>Q .non H',rt:=Q} (start ["purses","level"] vs) H:=by
 rintro vs H Q E ⟨_,a,ps,lev,rfl,hS,hl,q⟩
 unfold qG
 walk_at "w"
 refine HH (K:=K) (xs:=ps.map V.int) (fun x v=>∃p,x=.int p/\v=.int (min p lev)) [some (.int lev)] rfl hS (by rw[Qw];exact Qt hl (by decide)) ?_ ?_
 ·intro x hx H' G s k
  obtain⟨p,_,rfl⟩:=JT hx
  walk_at "w"
  exact k _ _ ⟨p,rfl,rfl⟩ (ar.refl _)
 ·intro l ys H' h0 s h1 pr
  have e:=wu pr Lc
  subst e
  refine q l H' h0 s ?_
  rw[h1,QR]
  rfl
theorem wK:∀vs H Q E,ju K vs H Q E->ja K {nx:=fun _ H'=>Q .non H',rt:=Q} (start ["purses","wishes","work","level","wanters"] vs) H:=by
 rintro vs H Q E ⟨_,a,b,ps,rows,k,L,rfl,hA,hB,hl,hl64,q⟩
 have hlp:((ps.map (min · L)).map V.int).length=ps.length:=⋯
 unfold ja
 nofun
 symm
 refine⟨rfl,b,rows,(k:Int),rfl,hB,by omega,fun lw H1 f1 s1 h1=>?_⟩
 have hA1:=s1.seq hA
 symm
 refine⟨rfl,a,ps,L,rfl,hA1,hl64,fun lq H2 f2 s2 h2=>?_⟩
 have q1:bo K H2 lw ((mx rows [(k:Int)]).map V.int):=bo.of (s2 _ _ h1)
 have q2:bo K H2 lq ((ps.map (min · L)).map V.int):=bo.of h2
 symm
 try refine⟨lq,rfl,⟨_,q2⟩,?_⟩
 refine b7 (sJ (xs:=(ps.map (min · L)).map V.int) 0 1) (fun j=>[some (.int j),some (((ps.map (min · L)).map V.int).getD j .non),some (.ref lw)]) (by rintro j σ' (rfl|⟨k,rfl⟩)<;>rfl) (fun H' s=>s.seq q2) (by rw[hlp];exact Qt (show _<=1000 by omega) bL) (fun j=>.int (B7 (WR rows) (PF ps) k L j)) ?_ ?_
 ·intro j hj H' G s kk
  rw[hlp]at hj
  have e:((ps.map (min · L)).map V.int).getD j .non=.int (min (PF ps j) L):=by unfold PF;simp[QN,hj]
  have q1':=s.seq q1
  rw[e]
  symm
  unfold B7 at kk
  refine cQ (fun h=>?_) (fun h=>?_)
  ·rw[if_pos (xm.mp h)]at kk
   symm
   exact kk H' (ar.refl _)
  ·rw[if_neg fun z=>h (xm.mpr z)]at kk
   symm
   exact kk H' (ar.refl _)
 ·intro l H' f s h
  rw[hlp]at h
  refine q l H' (s1.free (s2.free f)) (s1.trans (s2.trans s)) ?_
  rw[h]
  unfold nD
  rw[QR]
  rfl
theorem wH:∀vs H Q E,el K vs H Q E->jj K {nx:=fun _ H'=>Q .non H',rt:=Q} (start ["purses","costs","wishes","steps","left","offers","work","level"] vs) H:=by
 rintro vs H Q E ⟨_,a,b,c,d,ps,cs,rows,sts,rfl,hA,hB,hC,hD,hl,hb,hv1,hv,hpl,hsl,hsw,hsn,hsp,hnn,qn,qs⟩
 have hll:(bY ps sts).length=ps.length:=by unfold bY;rw[Qw,Uz]
 unfold jj
 nofun
 symm
 refine⟨rfl,a,d,ps,sts,rfl,hA,hD,by omega,hsl,hsp,fun l1 H1 f1 s1 h1=>?_⟩
 symm
 nofun
 symm
 refine⟨rfl,d,sts,rfl,lR s1 hD,hsl,hsw,hsn,fun l2 H2 ws f2 s2 h2 hpw hmem=>?_⟩
 symm
 have s02:=s1.trans s2
 have hwl:ws.length<=12:=by
  have:=zM (l:=ws) (m:=sts.map (·.1)) (Xg (fun h=>QV h) hpw) fun x hx=>(hmem x).mp hx
  rw[Qw]at this
  omega
 refine⟨rfl,l1,b,c,l2,bY ps sts,cs,rows,ws,rfl,bo.of (s2 _ _ h1),s02.seq hB,s02.rows hC,bo.of h2,hl,hb,hv1,hv,by rw[hll];exact hpl,hnn,hwl,fun l3 H3 os f3 s3 h3 hol hok=>?_⟩
 have s03:=s02.trans s3
 have h13:H3 l1=some (.lst ((bY ps sts).map V.int)):=s3 _ _ (s2 _ _ h1)
 symm
 nofun
 symm
 refine⟨rfl,l3,os,rfl,bo.of h3,by omega,fun k H4 hnx s4=>?_⟩
 have s04:=s03.trans s4
 symm
 nofun
 cases k with
 |none=>
  show bO _ _ _ _ [some (V.ref a),some (.ref b),some (.ref c),some (.ref d),some (.ref l1),some (.ref l3),some .non,none] _
  symm
  refine vo rfl ?_
  symm
  refine qn (fun k hk hkn=>?_) H4 s04
  have hko:os[k]?=some os[k]:=by simp[hol,hk]
  have h5:=hok k os[k] hko
  rw[hnx os[k] (SH hko)]at h5
  rcases h5 with z|z
  ·exact absurd ((hmem k).mp z) hkn
  ·exact z
 |some k=>
  have hnx':=hnx
  obtain⟨L,hkL,_⟩:=hnx'
  show bO _ _ _ _ [some (V.ref a),some (.ref b),some (.ref c),some (.ref d),some (.ref l1),some (.ref l3),some (.int (k:Int)),none] _
  symm
  refine gB ⋯ ?_
  symm
  nofun
  symm
  have hix:(os.map oV)[k]?=some (.int L):=by
   rw[SM,hkL]
   rfl
  refine cY (bo.of (s4 _ _ h3)) (bI hix) ?_
  symm
  refine⟨rfl,l1,c,bY ps sts,rows,k,L,rfl,bo.of (s4 _ _ h13),s04.rows hC,by omega,by omega,fun lp H5 f5 s5 h5=>?_⟩
  symm
  rename_i t H6 f6 s6 h6
  have N:=BS (T:=bZ cs rows) hol hok (fun i _=>KJ hnn i) (Mg hb) hkL hnx
  exact qs k L (Dt (fun j=>(hmem j).symm) N) t lp H6 (s04.free (s5.free f6)) (s04.free f5) (s04.trans (s5.trans s6)) h6 (s6 _ _ h5)
theorem HE:∀vs H Q E,sT K vs H Q E->tX K {nx:=fun _ H'=>Q .non H',rt:=Q} (start ["purses","costs","wishes","steps","step"] vs) H:=by
 rintro vs H Q E ⟨_,a,b,c,ps,cs,rows,rfl,hA,hB,hC,G,q⟩
 have h12:=G.c12
 unfold tX
 nofun
 symm
 rename_i ls H1 f1 s1 h1
 have ask:∀(r:List (Nat×Int))(Ha:Hp)(R:VK),Pre cs rows ps r->ar H Ha->jy H Ha ls (aX rows ps r)->
   (∀(Hb:Hp)(v:V),ar Ha Hb->((v=.non/\∀k,k<cs.length->k∉r.map (·.1)->Ij rows.length (WR rows) (PF (cT rows ps r)) k<(bZ cs rows).c k)\/∃(k:Nat)(L:Int)(t:Qh),v=.ref t/\Nx (bZ cs rows) (PF (cT rows ps r)) (r.map (·.1)) k L/\t≠ls/\rO H Hb ls (k,L,nD rows (cT rows ps r) k L) t)->R v Hb)->
   el K [.ref a,.ref b,.ref c,.ref ls] Ha R E0:=by
  intro r Ha R hr sa hst hR
  have hrl:=hr.len
  have hls:∃o,Ha ls=some o:=by
   obtain⟨ts,z,_⟩:=hst
   exact⟨_,z⟩
  obtain⟨o,ho⟩:=hls
  have e1:=iP rows ps r
  have e2:=vJ rows ps r
  refine⟨rfl,a,b,c,ls,ps,cs,rows,aX rows ps r,rfl,sa.seq hA,sa.seq hB,sa.rows hC,hst.at,h12,G.cb,G.v1,G.v20,G.pl,by rw[jk];omega,fun x hx=>?_,by rw[e2];exact hr.nd,j1 rows ps r,by rw[e1];exact CT G.p0,fun h H' s'=>?_,fun k L n t b' H' ft fb s' ht hb'=>?_⟩
  ·have:x.1∈r.map (·.1):=by rw[<-e2];exact Qu.mpr ⟨x,hx,rfl⟩
   obtain⟨y,hy,e⟩:=Qu.mp this
   have:=hr.lt y hy
   omega
  ·rw[e1,e2]at h
   exact hR H' .non s' (.inl ⟨rfl,h⟩)
  ·rw[e1,e2]at n
   rw[e1]at hb'
   refine hR H' (.ref t) s' (.inr ⟨k,L,t,rfl,n,fun z=>?_,b',sa.free ft,sa.free fb,fun z=>?_,ht,hb'⟩)
   ·rw[z,ho]at ft
    cases ft
   ·rw[z,ho]at fb
    cases fb
 let St:List (Nat×Int)->V->Hp->Prop:=fun r v Hb=>(v=.non/\∀k,k<cs.length->k∉r.map (·.1)->Ij rows.length (WR rows) (PF (cT rows ps r)) k<(bZ cs rows).c k)\/∃(k:Nat)(L:Int)(t:Qh),v=.ref t/\Nx (bZ cs rows) (PF (cT rows ps r)) (r.map (·.1)) k L/\t≠ls/\rO H Hb ls (k,L,nD rows (cT rows ps r) k L) t
 nofun
 symm
 refine ask [] H1 _ (FQ cs rows ps) s1 ⟨[],h1,.nil⟩ fun H2 v s2 hv=>?_
 symm
 nofun
 exists fun μ σ H'=>∃(r:List (Nat×Int))(v:V),σ=[some (.ref a),some (.ref b),some (.ref c),some (.ref ls),some v]/\Pre cs rows ps r/\ar H H'/\jy H H' ls (aX rows ps r)/\St r v H'/\μ=cs.length-r.length,⟨_,[],v,rfl,FQ cs rows ps,s1.trans s2,⟨[],s2 _ _ h1,.nil⟩,hv,rfl⟩
 rintro μ σ Ha ⟨r,v,rfl,hr,sa,hst,hv,rfl⟩
 rcases hv with⟨rfl,hstop⟩|⟨k,L,t,rfl,n,htl,b',z1,z2,z3,z4,z5⟩
 ·symm
  refine L7 rfl ?_
  symm
  exact q ls Ha r f1 sa hst (HD G (hr.stop hstop))
 ·symm
  refine Kc ⋯ ?_
  have hr':=hr.snoc G.pl n
  have hlen:=hr'.len
  rw[Rz]at hlen
  have hlen:r.length+1<=cs.length:=hlen
  exists fun σ' H'=>∃(v:V),σ'=[some (.ref a),some (.ref b),some (.ref c),some (.ref ls),some v]/\ar H H'/\jy H H' ls (aX rows ps (r++[(k,L)]))/\St (r++[(k,L)]) v H',?_
  ·rintro σ' H' ⟨v,rfl,s',hst',hv'⟩
   exact⟨_,(by rw[Rz];show cs.length-(r.length+1)<cs.length-r.length;omega),r++[(k,L)],v,rfl,hr',s',hst',hv',rfl⟩
  obtain⟨ts,ht,hpt⟩:=hst
  have hpl:=QU hpt
  rw[jk]at hpl
  nofun
  symm
  exists NU ht
  symm
  refine fI ht (by rw[Qw];exact Q4 (show ts.length<1000 by omega) bL) ?_
  have sb:ar H (upd Ha ls (.lst (ts.map V.ref++[.ref t]))):=sa.upd f1
  have hst2:jy H (upd Ha ls (.lst (ts.map V.ref++[.ref t]))) ls (aX rows ps (r++[(k,L)])):=by
   exists ts++[t],by rw[ay,R4];rfl
   rw[wm]
   refine xC (BQ hpt ht) (.cons ⟨b',z1,z2,z3,by rw[ax htl];exact z4,by rw[ax z3];exact z5⟩ .nil)
  generalize upd Ha ls (.lst (ts.map V.ref++[.ref t]))=Hb at *
  symm
  refine ask (r++[(k,L)]) Hb _ hr' sb hst2 fun H3 v s3 hv3=>?_
  symm
  obtain⟨ts3,y1,y2⟩:=hst2
  exact⟨v,rfl,sb.trans s3,⟨ts3,s3 _ _ y1,Paired.mapP y2 fun _ _ ⟨b3,w1,w2,w3,w4,w5⟩=>⟨b3,w1,w2,w3,s3 _ _ w4,s3 _ _ w5⟩⟩,hv3⟩
theorem pq(C:il K):∀vs H Q E,eP K vs H Q E->eR K {nx:=fun _ H'=>Q .non H',rt:=Q} (start ["self","left","grains"] vs) H:=by
 rintro vs H Q E ⟨_,c,b,g,left,fp,s,rfl,⟨dx,d1,d2,w,wt,X,rfl⟩,hb,hg,hH,hll,hv,q⟩
 have hlm:(left.map V.int).length=left.length:=Qw _
 unfold eR
 nofun
 symm
 refine zD X.at_ C.aQ C.cR fF ?_
 symm
 try refine cV (bo.of hb) ?_
 refine b7 (fh (K:=K) (xs:=left.map V.int) 0) (fun j=>[some ((left.map V.int).getD j .non),some (.int g)]) (by rintro j σ' (rfl|⟨k,rfl⟩)<;>rfl) (fun H' s=>s.seq (bo.of hb)) (by rw[hlm];exact Qt (show _<=1000 by omega) bL) (fun j=>.int (left.getD j 0%g)) ?_ ?_
 ·intro j hj H' G s' kk
  rw[hlm]at hj
  have e:(left.map V.int).getD j .non=.int (left.getD j 0):=by simp[QN,hj]
  rw[e]
  symm
  exact kk H' (ar.refl _)
 intro l1 H1 f1 s1 h1
 rw[hlm]at h1
 have e1:(QM left.length).map (fun j=>V.int (left.getD j 0%g))=(left.map (· % g)).map V.int:=by
  rw[QR];exact br (fun x:Int=>V.int (x%g)) 0 left
 rw[e1]at h1
 have X1:=X.same s1
 have q1:bo K H1 l1 ((left.map (· % g)).map V.int):=bo.of h1
 symm
 refine IK hg hH ?_
 exists _,_,rfl,rfl,dx,_,X1.at_,(show 6<1000 by decide)
 rw[jW]
 have X2:=X1.setF (a:=s.pot+(left.map (· % g)).sum/g) (b:=s.giv) (e:=s.spt)
 have b2:bS [c,d1,d2,w] H1 (upd H1 c (.ins (aq K "Chest") dx (iz d1 d2 w (s.pot+(left.map (· % g)).sum/g) s.giv s.spt))):=bS.upd X1.at_ (by intro xs z;cases z) ⋯
 have hb1:=s1 _ _ hb
 have hb2:upd H1 c (.ins (aq K "Chest") dx (iz d1 d2 w (s.pot+(left.map (· % g)).sum/g) s.giv s.spt)) b=some (.lst (left.map V.int)):=by rw[ax (aR hb1 X1.at_ ⋯)];exact hb1
 generalize upd H1 c (.ins (aq K "Chest") dx (iz d1 d2 w (s.pot+(left.map (· % g)).sum/g) s.giv s.spt))=H2 at *
 symm
 unfold Ey
 symm
 refine cq X2.at_ C.aQ C.aV cv ?_
 symm
 try refine cV (bo.of hb2) ?_
 refine b7 (fh (K:=K) (xs:=left.map V.int) 0) (fun j=>[some ((left.map V.int).getD j .non),some (.int g)]) (by rintro j σ' (rfl|⟨k,rfl⟩)<;>rfl) (fun H' s=>s.seq (bo.of hb2)) (by rw[hlm];exact Qt (show _<=1000 by omega) bL) (fun j=>.int (left.getD j 0/g)) ?_ ?_
 ·intro j hj H' G s' kk
  rw[hlm]at hj
  have e:(left.map V.int).getD j .non=.int (left.getD j 0):=by simp[QN,hj]
  rw[e]
  symm
  refine IK hg hH ?_
  exact kk H' (ar.refl _)
 intro l3 H3 f3 s3 h3
 rw[hlm]at h3
 have e3:(QM left.length).map (fun j=>V.int (left.getD j 0/g))=(left.map (· / g)).map V.int:=by
  rw[QR];exact br (fun x:Int=>V.int (x/g)) 0 left
 rw[e3]at h3
 have X3:=X2.same s3
 symm
 have eK:(eV s.ps).map (·.1)=(s.ps.map (·.1)).map R7:=by unfold eV;rw[QR,QR];rfl
 refine⟨d1,l3,_,_,rfl,X3.p1,bo.of h3,by rw[dh];simp;exact Ui hll.symm,by rw[dh];show s.ps.length<=1000;omega,?_,fun e f4=>?_⟩
 ·show((eV s.ps).map (·.1)).Nodup
  rw[eK]
  exact List.pairwise_map.mpr (Xg (fun h e=>h (by injection e)) X.nd)
 have eZ:B8 (eV s.ps) ((left.map (· / g)).map V.int)=eV ((s.ps.map (·.1)).zip (left.map (· / g))):=by
  unfold B8 eV
  apply Tv ⋯
  intro i g1 g2
  simp
 rw[show B8 (eV (aL.mk s.ps s.cs s.ws (s.pot+(left.map (· % g)).sum/g) s.giv s.spt).ps) ((left.map (· / g)).map V.int)=_ from eZ]
 have s4:ar H3 (upd H3 e (.dK (eV ((s.ps.map (·.1)).zip (left.map (· / g)))))):=ar.updN f4
 have h4:upd H3 e (.dK (eV ((s.ps.map (·.1)).zip (left.map (· / g))))) e=some (.dK (eV ((s.ps.map (·.1)).zip (left.map (· / g))))):=ay
 generalize upd H3 e (.dK (eV ((s.ps.map (·.1)).zip (left.map (· / g)))))=H4 at *
 have X4:=X3.same s4
 symm
 refine mK X4.at_ C.aQ C.aV (show 6<1000 by decide) ?_
 rw[zH]
 have nd:(((s.ps.map (·.1)).zip (left.map (· / g))).map (·.1)).Nodup:=by
  rw[Ym (by simp[hll])]
  exact X.nd
 have X5:=X4.setD h4 (gN X3.p2 f4).symm nd
 refine q _ [c,e,d2,w] ⟨dx,e,d2,w,wt,X5,rfl⟩ (((((bS.of s1).trans b2).trans (bS.of s3)).trans (bS.of s4)).trans (bS.upd X4.at_ (by intro xs z;cases z) ⋯)) ?_
 intro a ha
 simp only[QI,RD,or_false]at ha
 rcases ha with rfl|rfl|rfl|rfl
 ·exact .inl ⋯
 ·exact .inr (s1.free (b2.2.2 _ (s3.free f4)))
 ·exact .inl ⋯
 ·exact .inl ⋯
theorem lr(C:il K):∀vs H Q E,dS K vs H Q E->dR K {nx:=fun _ H'=>Q .non H',rt:=Q} (start ["self","voter"] vs) H:=by
 rintro vs H Q E ⟨_,c,dx,d1,d2,w,n,wt,s,rfl,hc,hd,hw,hp,an,ac,aw,hl,q⟩
 have n1:c≠d2:=aR hc hd ⋯
 have n2:w≠d2:=aR hw hd ⋯
 have hk:=dh s.cs
 unfold dR
 with_reducible refine FH ?_
 refine D6 (d:=d2) (kvs:=eV s.cs) (fun k hk=>⟨_,rfl,cq hc C.aQ C.bW dU hk⟩) hd fun o Hf F=>?_
 refine zC F hd (JV 0 1 (fun i=>.str (s.cs.getD i ("",0)).1) ?_) (fun i=>[some (.int i),some (.str (s.cs.getD i ("",0)).1),some (.str n),some (.ref c)]) (by rintro j σ' (rfl|⟨k,rfl⟩)<;>rfl) (fun H' h _=>h) (by rw[hk];exact Qt (show _<=1000 by omega) bL)
  (fun i=>decide ((n,(s.cs.getD i ("",0)).1)∈s.ws)) (fun i=>.int i) ?_ ?_ ?_
 ·intro i p hp'
  have hi:i<s.cs.length:=by rw[<-hk];exact(Q0.mp hp').1
  rw[j3 (Qz hi)]at hp'
  cases hp'
  rw[QZ,Qz hi]
  rfl
 ·intro i hi H' G sx kk
  rw[hk]at hi
  have ai:aT (s.cs.getD i ("",0)).1:=ac _ (getD_mem _ hi)
  symm
  rename_i t H2 f2 s2 h2
  refine cq (s2 _ _ (sx c _ n1 hc)) C.aQ C.cc gX ?_
  refine D5 (p:=(n,(s.cs.getD i ("",0)).1)) h2 (s2 _ _ (sx w _ n2 hw)) (Paired.mapP hp fun _ a z=>s2 _ _ (sx a _ (aR z hd ⋯) z)) an ai aw ?_
  rw[TL]
  symm
  exact kk H2 s2
 ·intro i hi hb H' G sx kk
  symm
  exact kk H' (ar.refl _)
 intro l H2 f2 s2 h2
 rw[hk]at h2
 refine q l H2 f2 s2 ?_
 rw[h2]
 unfold intsOf CO
 rw[QR]
 rfl
theorem qB(C:il K):∀vs H Q E,fu K vs H Q E->fA K {nx:=fun _ H'=>Q .non H',rt:=Q} (start ["self","place","paid","name","rows"] vs) H:=by
 rintro vs H Q E ⟨_,c,b,k,L,paid,fp,s,rfl,⟨dx,d1,d2,w,wt,X,rfl⟩,hk,hb,hpl,hv,hn,q⟩
 have hkp:=dh s.ps
 have hgd:s.cs.getD k ("",0)=s.cs[k]:=by rw[QZ,Qz hk];rfl
 unfold fA
 nofun
 symm
 refine cq X.at_ C.aQ C.bW dU ?_
 symm
 refine⟨d2,_,rfl,X.p2,fun l0 f0=>?_⟩
 have s1:ar H (upd H l0 (.lst ((eV s.cs).map fun p=>kV p.1))):=ar.updN f0
 have h1:upd H l0 (.lst ((eV s.cs).map fun p=>kV p.1)) l0=some (.lst ((eV s.cs).map fun p=>kV p.1)):=ay
 generalize upd H l0 (.lst ((eV s.cs).map fun p=>kV p.1))=H1 at *
 symm
 refine cY (bo.of h1) (v:=.str (s.cs.getD k ("",0)).1) (bI (by rw[SM,j3 (Qz hk),hgd];rfl)) ?_
 symm
 have X1:=X.same s1
 have hb1:=s1 _ _ hb
 nofun
 with_reducible refine FC ?_
 refine HZ (K:=K) (d:=d1) (l:=b) (kvs:=eV s.ps) (ys:=paid.map V.int) ?_ X1.p1 (bo.of hb1) (aR X1.p1 hb1 ⋯) fun o Hf F=>?_
 ·intro kk hkk
  symm
  refine cq X1.at_ C.aQ C.aV cv ?_
  symm
  exact hkk
 refine Aj F X1.p1 (KY (K:=K) (ys:=paid.map V.int) 0 1 (fun i=>.str (s.ps.getD i ("",0)).1) ?_ (by rw[hkp,Qw,hpl];exact QC _)) (fun i=>[some (.str (s.ps.getD i ("",0)).1),some ((paid.map V.int).getD i .non)]) (by rintro j σ' (rfl|⟨k,rfl⟩)<;>rfl)
  (fun H' h sx=>⟨h,bo.of (sx b _ (aR X1.p1 hb1 ⋯).symm hb1)⟩) (by rw[hkp];exact Qt (show _<=1000 by omega) bL) (fun i=>decide (0<paid.getD i 0)) (fun i=>.tup [.str (s.ps.getD i ("",0)).1,.int (paid.getD i 0)]) ?_ ?_ ?_
 ·intro i p hp'
  have hi:i<s.ps.length:=by rw[<-hkp];exact(Q0.mp hp').1
  rw[j3 (Qz hi)]at hp'
  cases hp'
  rw[QZ,Qz hi]
  rfl
 ·intro i hi H' G sx kk
  rw[hkp]at hi
  have e:(paid.map V.int).getD i .non=.int (paid.getD i 0):=by simp[QN,show i<paid.length by omega]
  rw[e]
  symm
  exact kk H' (ar.refl _)
 ·intro i hi hb' H' G sx kk
  rw[hkp]at hi
  have e:(paid.map V.int).getD i .non=.int (paid.getD i 0):=by simp[QN,show i<paid.length by omega]
  rw[e]
  symm
  rename_i a H'' f s'' h
  exact kk a H'' f s'' h
 intro r bs H2 f2 s2 h2 pr
 rw[hkp]at pr
 have X2:=X1.same s2
 symm
 refine cq X2.at_ C.aQ C.bW dU ?_
 symm
 refine Kl X2.p2 (v:=.int (s.cs.getD k ("",0)).2) (ox X.nd2 (getD_mem _ hk)) ?_
 symm
 rename_i t H3 f3 s3 h3
 refine q t r H3 (s1.free (s2.free f3)) (s1.free f2) (fun e=>by rw[e,h2]at f3;cases f3) ((s1.trans s2).trans s3) h3 ⟨bs,s3 _ _ h2,?_⟩
 have e:(bT s (k,L,paid)).2.2=((QM s.ps.length).filter fun i=>decide (0<paid.getD i 0)).map fun i=>((s.ps.getD i ("",0)).1,paid.getD i 0):=by
  show((s.ps.map (·.1)).zip paid).filter (fun p=>decide (0<p.2))=_
  have hz:((s.ps.map (·.1)).zip paid)=(QM s.ps.length).map fun i=>((s.ps.getD i ("",0)).1,paid.getD i 0):=by
   apply Tv (by simp;omega)
   intro i g1 g2
   have gi:i<s.ps.length:=by simpa using g2
   simp[QZ,gi,show i<paid.length by omega]
  rw[hz,U1]
  rfl
 rw[e]
 exact fG (Paired.mapP pr fun i a z=>⟨s1.free z.1,s3 _ _ z.2.2⟩)
theorem pA(C:il K):∀vs H Q E,c8 K vs H Q E->eS K E {nx:=fun _ H'=>Q .non H',rt:=Q} (start ["self","work"] vs) H:=by
 rintro vs H Q E ⟨_,c,n,fp,s,rfl,⟨dx,d1,d2,w,wt,x,rfl⟩,h⟩
 unfold eS
 symm
 refine cq x.at_ C.aQ C.bW dU ?_
 refine FE x.p2 ?_
 rcases h with⟨hn,q⟩|⟨hn,hz,q⟩
 ·obtain⟨p,hp,rfl⟩:=Qu.mp hn
  rw[ox x.nd2 (show(p.1,p.2)∈s.cs from hp)]
  symm
  exact q
 ·rw[oZ hn]
  symm
  obtain⟨n1,n2,n3⟩:=xv hz (show(QO++("no work: ":Qg)).length=9 by decide +kernel) (by decide)
  exact⟨_,rfl,n1,_,rfl,n,rfl,n2,_,rfl,n3,n3,(by decide:1<=Qr),q _ (ar.refl _)⟩
theorem rJ(C:il K):∀vs H Q E,dz K vs H Q E->gz K E {nx:=fun _ H'=>Q .non H',rt:=Q} (start ["self","work"] vs) H:=by
 rintro vs H Q E ⟨_,c,n,fp,s,rfl,⟨dx,d1,d2,w,wt,X,rfl⟩,hw,qn,qe⟩
 unfold gz
 nofun
 symm
 refine bJ X.at_ (cn nofun) ?_
 symm
 by_cases hin:n∈s.cs.map (·.1)
 rotate_left
 ·exact⟨rfl,c,n,_,s,rfl,⟨dx,d1,d2,w,wt,X,rfl⟩,.inr ⟨hin,qe _ (by rw[bA.due,if_neg hin])⟩⟩
 have q:=qn (by rw[bA.due,if_pos hin])
 have hm:=qv hin
 generalize vP s.cs n=x at *
 refine⟨rfl,c,n,_,s,rfl,⟨dx,d1,d2,w,wt,X,rfl⟩,.inl ⟨hin,?_⟩⟩
 symm
 nofun
 symm
 refine cq X.at_ C.aQ C.bW dU ?_
 exists d2,rfl,.inl ⟨_,.inl X.p2⟩
 symm
 exists _,.inr n,.int x,X.p2,rfl,ox X.nd2 hm
 rw[CS]
 have X2:=X.setC (cs:=s.cs.filter fun p=>decide (p.1≠n)) (sI X.nd2)
 have b1:bS [c,d1,d2,w] H (upd H d2 (.dK (eV (s.cs.filter fun p=>decide (p.1≠n))))):=bS.upd X.p2 (by intro xs z;cases z) ⋯
 generalize upd H d2 (.dK (eV (s.cs.filter fun p=>decide (p.1≠n))))=H2 at *
 symm
 refine cq X2.at_ C.aQ C.cc gX ?_
 exists w,rfl,⟨_,bo.of X2.w_⟩
 have hwl:s.ws.length=wt.length:=QU X.wt
 refine nC (js (K:=K) (a:=w) (ts:=wt) (u:=fun i=>.str (s.ws.getD i ("","")).1) (v:=fun i=>.str (s.ws.getD i ("","")).2) 0 1) (fun i=>[some (.str (s.ws.getD i ("","")).1),some (.str (s.ws.getD i ("","")).2),some (.str n)]) (by rintro j σ' (rfl|⟨k,rfl⟩)<;>rfl) ?_ (Qt (show _<=1000 by omega) bL)
  (fun i=>!decide ((s.ws.getD i ("","")).2=n)) (fun i=>[.str (s.ws.getD i ("","")).1,.str (s.ws.getD i ("","")).2]) ?_ ?_ ?_
 ·intro H' s'
  refine⟨s'.seq (bo.of X2.w_),fun i b hb=>?_⟩
  have hi:i<s.ws.length:=by rw[hwl];exact(Q0.mp hb).1
  obtain⟨b',z1,z2⟩:=dy X2.wt (Qz hi)
  rw[hb]at z1
  cases z1
  rw[QZ,Qz hi]
  exact s'.seqT (iM.of z2)
 ·intro i hi H' G s' kk
  symm
  exact kk H' (ar.refl _)
 ·intro i hi hb H' G s' kk
  symm
  rename_i a H'' f s'' h
  exact kk a H'' f s'' h
 intro l bs H3 f3 s3 h3 pr
 have X3:=X2.same s3
 rw[<-hwl]at pr
 have hp:QE (B6 H3) (s.ws.filter fun p=>!decide (p.2=n)) bs:=by
  rw[<-lM (fun p:Qg×Qg=>!decide (p.2=n)) ("","") s.ws]
  exact fG pr
 symm
 refine mK X3.at_ C.aQ C.cc (show 6<1000 by decide) ?_
 rw[tF]
 have X4:=X3.setW h3 hp
 refine q _ [c,d1,d2,l] ⟨dx,d1,d2,l,bs,X4,rfl⟩ ((b1.trans (bS.of s3)).trans (bS.upd X3.at_ (by intro xs z;cases z) ⋯)) ?_
 intro a ha
 simp only[QI,RD,or_false]at ha
 rcases ha with rfl|rfl|rfl|rfl
 ·exact .inl ⋯
 ·exact .inl ⋯
 ·exact .inl ⋯
 ·exact .inr (b1.2.2 _ f3)
theorem xT(C:il K):∀vs H Q E,fN K vs H Q E->i7 K {nx:=fun _ H'=>Q .non H',rt:=Q} (start ["self","grains","purses","wishes","steps","told","name","cost","rows"] vs) H:=by
 rintro vs H Q E ⟨_,c,fp,s,rfl,CH,G,qa,qb⟩
 obtain⟨dx,d1,d2,w,wt,X,rfl⟩:=id CH
 have hkp:=dh s.ps
 have hkc:=dh s.cs
 have hv:=G.v20
 have hn:=G.n12
 obtain⟨g0,gH⟩:=Lh ⟨hv,hn⟩
 unfold i7
 nofun
 symm
 refine cq X.at_ C.aQ C.aV cv ?_
 exists d1,_,rfl,X.p1
 by_cases hp:s.ps=[]
 ·rw[show(!(eV s.ps).isEmpty)=false by rw[hp];rfl]
  symm
  rename_i l H1 f1 s1 h1 t H2 f2 s2 h2
  exact qa (.inl hp) t l H2 (s1.free f2) f1 (fun e=>by rw[e,h1]at f2;cases f2) (s1.trans s2) h2 (s2 _ _ h1)
 have hpos:0<s.ps.length:=UB.mpr hp
 have e:(!(eV s.ps).isEmpty)=true:=by
  cases hh:s.ps with
  |nil=>exact absurd hh hp
  |cons=>rfl
 rw[e]
 symm
 refine cq X.at_ C.aQ C.bW dU ?_
 exists d2,_,rfl,X.p2
 by_cases hc:s.cs=[]
 ·rw[show(!(eV s.cs).isEmpty)=false by rw[hc];rfl]
  symm
  rename_i l H1 f1 s1 h1 t H2 f2 s2 h2
  exact qa (.inr hc) t l H2 (s1.free f2) f1 (fun e=>by rw[e,h1]at f2;cases f2) (s1.trans s2) h2 (s2 _ _ h1)
 have e:(!(eV s.cs).isEmpty)=true:=by
  cases hh:s.cs with
  |nil=>exact absurd hh hc
  |cons=>rfl
 rw[e]
 have qb:=qb hp hc
 have GT:=G.town hp
 symm
 nofun
 symm
 refine cq X.at_ C.aQ C.aV cv ?_
 symm
 refine xX X.p1 ?_
 rw[hkp]
 symm
 refine cq X.at_ C.aQ C.bW dU ?_
 symm
 refine xX X.p2 ?_
 rw[hkc]
 symm
 exists rfl,s.ps.length,s.cs.length,rfl,hpos,hv,hn
 rw[show((nF s.ps.length ^ (s.cs.length+1):Nat):Int)=(fE s:Int)from rfl]
 symm
 nofun
 with_reducible refine FC ?_
 refine HV (d:=d1) (kvs:=eV s.ps) (fun k hk=>⟨_,rfl,cq X.at_ C.aQ C.aV cv hk⟩) X.p1 fun o Hf F=>?_
 refine zC F X.p1 (LH 0 (fun i=>.int (s.ps.getD i ("",0)).2) ?_) (fun i=>[some (.int (s.ps.getD i ("",0)).2),some (.int (fE s:Int))]) (by rintro j σ' (rfl|⟨k,rfl⟩)<;>rfl) (fun H' h _=>h) (by rw[hkp];exact Qt (show _<=1000 by omega) bL)
  (fun _=>true) (fun i=>.int ((s.ps.getD i ("",0)).2*(fE s:Int))) (fun i hi H' G s k=>k H' (ar.refl _)) ?_ ?_
 ·intro i p hp'
  have hi:i<s.ps.length:=by rw[<-hkp];exact(Q0.mp hp').1
  rw[j3 (Qz hi)]at hp'
  cases hp'
  rw[QZ,Qz hi]
  rfl
 ·intro i hi hb H' F' sx kk
  rw[hkp]at hi
  have hpi:=G.p0 _ (getD_mem (xs:=s.ps) ("",0) hi)
  symm
  try refine JF (by omega) (by omega) ?_
  exact kk H' (ar.refl _)
 intro la H1 f1 s1 h1
 rw[SI.mpr (fun _ _=>rfl),hkp]at h1
 have e1:(QM s.ps.length).map (fun i=>V.int ((s.ps.getD i ("",0)).2*(fE s:Int)))=(aP s).map V.int:=by
  unfold aP
  rw[QR]
  exact br (fun p:Qg×Int=>V.int (p.2*(fE s:Int))) ("",0) s.ps
 rw[e1]at h1
 have X1:=X.same s1
 nofun
 with_reducible refine FC ?_
 refine G9 (d:=d1) (kvs:=eV s.ps) (fun k hk=>⟨_,rfl,cq X1.at_ C.aQ C.aV cv hk⟩) X1.p1 fun o Hf F=>?_
 refine Aj F X1.p1 (Gm 0 (fun i=>.str (s.ps.getD i ("",0)).1) ?_) (fun i=>[some (.str (s.ps.getD i ("",0)).1),some (.ref c)]) (by rintro j σ' (rfl|⟨k,rfl⟩)<;>rfl) (fun H' h _=>h) (by rw[hkp];exact Qt (show _<=1000 by omega) bL)
  (fun _=>true) (fun i=>.lst ((intsOf (CO s (s.ps.getD i ("",0)).1)).map V.int)) (fun i hi H' G s k=>k H' (ar.refl _)) ?_ ?_
 ·intro i p hp'
  have hi:i<s.ps.length:=by rw[<-hkp];exact(Q0.mp hp').1
  rw[j3 (Qz hi)]at hp'
  cases hp'
  rw[QZ,Qz hi]
  rfl
 ·intro i hi hb H' F' sx kk
  rw[hkp]at hi
  have hpi:=G.ap _ (getD_mem (xs:=s.ps) ("",0) hi)
  have n1:c≠d1:=aR X1.at_ X1.p1 ⋯
  have n2:w≠d1:=aR X1.w_ X1.p1 ⋯
  symm
  refine bJ (sx c _ n1 X1.at_) (cn nofun) ?_
  symm
  refine⟨rfl,c,dx,d1,d2,w,_,wt,s,rfl,sx c _ n1 X1.at_,sx d2 _ (QT X.ne) X1.p2,sx w _ n2 X1.w_,Paired.mapP X1.wt fun _ a z=>sx a _ (aR z X1.p1 ⋯) z,hpi,G.ac,G.aw,by omega,fun l' H2 f2 s2 h2=>?_⟩
  exact kk l' H2 f2 s2 h2
 intro lb bs H2 f2 s2 h2 pr
 rw[SI.mpr (fun _ _=>rfl),hkp]at pr
 have X2:=X1.same s2
 have hR:iC K H2 lb (bq s):=by
  exists bs,bo.of h2
  unfold bq
  rw[<-br (fun p:Qg×Int=>intsOf (CO s p.1)) ("",0) s.ps]
  exact fG (Paired.mapP pr fun i a z=>bo.of z.2.2)
 nofun
 symm
 refine cq X2.at_ C.aQ C.bW dU ?_
 refine NO X2.p2 fun v H3 f3 s3 h3=>?_
 symm
 refine⟨v,d2,_,rfl,h3,s3 _ _ X2.p2,fun lc f4=>?_⟩
 have e4:(eV s.cs).map (·.2)=(cD s).map V.int:=by unfold eV cD;rw[QR,QR];rfl
 rw[e4]
 have s4:ar H3 (upd H3 lc (.lst ((cD s).map V.int))):=ar.updN f4
 have h4:upd H3 lc (.lst ((cD s).map V.int)) lc=some (.lst ((cD s).map V.int)):=ay
 generalize upd H3 lc (.lst ((cD s).map V.int))=H4 at *
 have s24:=s3.trans s4
 symm
 refine⟨rfl,la,lc,lb,aP s,cD s,bq s,rfl,bo.of ((s2.trans s24) _ _ h1),bo.of h4,s24.rows hR,GT,fun ls H5 run f5 s5 n5 rx=>?_⟩
 have qb:=qb run
 have hst:=n5.at
 have hrw:=zF rx.run
 have hsl:(aX (bq s) (aP s) run).length=run.length:=jk _ _ _
 have hs1:(aX (bq s) (aP s) run).map (·.1)=run.map (·.1):=vJ _ _ _
 have hcl:(cD s).length=s.cs.length:=by simp[cD]
 have hpl:(aP s).length=s.ps.length:=by simp[aP]
 have hrn:run.length<=s.cs.length:=by
  have:=iZ s.cs.length (run.map (·.1)) hrw.2 (fun x hx=>by
   obtain⟨y,hy,rfl⟩:=Qu.mp hx
   have:=(hrw.1 y hy).1
   rw[<-hcl];exact this)
  simpa using this
 have hst1:∀x∈aX (bq s) (aP s) run,x.1<s.cs.length/\x.2.2.length=s.ps.length:=fun x hx=>by
  refine⟨?_,by rw[j1 _ _ _ x hx,hpl]⟩
  have hm:x.1∈run.map (·.1):=by rw[<-hs1];exact Qu.mpr ⟨x,hx,rfl⟩
  obtain⟨y,hy,e⟩:=Qu.mp hm
  have:=(hrw.1 y hy).1
  rw[<-e,<-hcl];exact this
 have hnd:((aX (bq s) (aP s) run).map (·.1)).Nodup:=by rw[hs1];exact hrw.2
 generalize aX (bq s) (aP s) run=sts at *
 have s25:=s24.trans s5
 have s15:=s2.trans s25
 have s05:=s1.trans s15
 have X5:=X2.same s25
 obtain⟨ts,bs',B⟩:=hst.b
 symm
 nofun
 symm
 try refine cV (B.ys (ar.refl _)).1 ?_
 refine gL (ik (K:=K) (a:=ls) (ts:=ts) (u:=fun i=>.int ((sts.getD i stN).1:Nat)) (v:=fun i=>.int (sts.getD i stN).2.1) (w:=fun i=>.ref (bs'.getD i 0)) 0 1 2) (fun j=>[some (.int ((sts.getD j stN).1:Nat)),some (.int (sts.getD j stN).2.1),some (.ref (bs'.getD j 0)),some (.ref c)]) (by rintro j σ' (rfl|⟨k,rfl⟩)<;>rfl) (fun H' s=>B.ys s) (by rw[B.tl];exact Qt (show sts.length<=1000 by omega) bL)
  (fun _=>true) (fun l i v H'=>∃t r us,v=V.ref t/\(t≠l/\r≠l/\H5 r=none)/\H' t=some (.tup [.str (bT s (sts.getD i stN)).1,.int (bT s (sts.getD i stN)).2.1,.ref r])/\H' r=some (.lst (RO V.ref us))/\QE (fun p b=>b≠l/\Pj H' p b) (bT s (sts.getD i stN)).2.2 us)
  (fun l i v Ha Hb sx ⟨t,r,us,e,n,h1,h2,h3⟩=>⟨t,r,us,e,n,sx _ _ n.1 h1,sx _ _ n.2.1 h2,Paired.mapP h3 fun _ b z=>⟨z.1,sx _ _ z.1 z.2⟩⟩) (fun i hi H' G s k=>k H' (ar.refl _)) ?_ ?_
 ·intro l i hi _ H' F' h0 ⟨o,ho⟩ sx kk
  rw[B.tl]at hi
  have X6:=X5.same sx
  have hm:=hst1 _ (getD_mem stN hi)
  obtain⟨t',b',a1,a2,_,a4⟩:=B.ats i sts[i] (by simp[hi])
  have g1:sts.getD i stN=sts[i]:=by simp[QN,hi]
  have g2:bs'.getD i 0=b':=by rw[QN,a2];rfl
  simp only[g1]at hm kk ⊢
  rw[g2]
  symm
  refine bJ X6.at_ (cn nofun) ?_
  symm
  refine⟨rfl,c,b',_,(sts[i]).2.1,(sts[i]).2.2,_,s,rfl,⟨dx,d1,d2,w,wt,X6,rfl⟩,hm.1,sx _ _ a4,hm.2,hv,hn,fun t r H7 ft fr ntr s7 h7 hr=>?_⟩
  obtain⟨us,hr1,hr2⟩:=hr
  have nl:∀{a:Qh},H' a=none->a≠l:=fun {a} ha e=>by rw[e,ho]at ha;cases ha
  exact kk _ H7 ⟨t,r,us,rfl,⟨nl ft,nl fr,sx.free fr⟩,h7,hr1,Paired.mapP hr2 fun _ b z=>⟨nl z.1,z.2⟩⟩ s7
 intro l ys H6 f6 s6 h6 pr6
 rw[SI.mpr (fun _ _=>rfl),B.tl]at pr6
 obtain⟨tt,e6,p6,q6⟩:=rZ (P:=fun r=>r≠l/\H5 r=none) (f:=fun i=>bT s (sts.getD i stN)) (Paired.mapP pr6 fun i v ⟨t,r,us,e,n,h1,h2,h3⟩=>⟨t,r,e,n.2,h1,us,h2,Paired.mapP h3 fun _ _ z=>z.2⟩)
 rw[br (bT s) stN sts]at p6
 subst e6
 have T6:mH H6 l tt (sts.map (bT s)):=⟨h6,p6⟩
 have s06:=s05.trans s6
 have X6:=X5.same s6
 have hl0:H l=none:=s05.free f6
 have hlfp:l∉[c,d1,d2,w]:=fun m=>(aF.there ⟨dx,d1,d2,w,wt,X,rfl⟩:∀a∈[c,d1,d2,w],H a≠none) l m hl0
 have hrfp:∀t∈tt,∀y z r,H6 t=some (.tup [y,z,.ref r])->r∉[c,d1,d2,w]:=fun t ht y z r e m=>(aF.there ⟨dx,d1,d2,w,wt,X,rfl⟩:∀a∈[c,d1,d2,w],H a≠none) r m (s05.free (q6 t ht y z r e).2)
 symm
 nofun
 symm
 refine bJ X6.at_ (cn nofun) ?_
 symm
 refine⟨rfl,la,ls,aP s,sts,rfl,bo.of ((s15.trans s6) _ _ h1),lR s6 hst,by omega,by omega,fun x hx=>by rw[(hst1 x hx).2,hpl],fun ll H7 f7 s7 h7=>?_⟩
 have X7:=X6.same s7
 have s67:=s7
 symm
 have hlo:(bY (aP s) sts).length=s.ps.length:=by simp[bY,hpl]
 refine⟨rfl,c,ll,(fE s:Int),bY (aP s) sts,_,s,rfl,⟨dx,d1,d2,w,wt,X7,rfl⟩,h7,g0,gH,hlo,hv,fun H8 fp8 x8 b8 n8=>?_⟩
 rw[<-ET]at x8
 symm
 have b68:bS [c,d1,d2,w] H6 H8:=(bS.of s7).trans b8
 have n68:fL [c,d1,d2,w] fp8 H6:=fun a ha=>by
  rcases n8 a ha with z|z
  ·exact .inl z
  ·exact .inr (s7.free z)
 obtain⟨rs,hys⟩:=T6.ys (K:=K)
 generalize hLf:bY (aP s) sts=left at *
 have htl:tt.length=sts.length:=by rw[<-QU p6,Qw]
 nofun
 symm
 try refine cV (hys _ _ b68 hlfp).1 ?_
 refine oa (ik (K:=K) (a:=l) (ts:=tt) (u:=fun i=>.str ((sts.map (bT s)).getD i zY).1) (v:=fun i=>.int ((sts.map (bT s)).getD i zY).2.1) (w:=fun i=>.ref (rs.getD i 0)) 6 7 8)
  (fun i σ H'=>(∃fpi,aF K H' c fpi (c9 s left (fE s) ((sts.map (bT s)).take i))/\fL [c,d1,d2,w] fpi H6)/\bS [c,d1,d2,w] H6 H'/\∃v6 v7 v8,σ=[some (.ref c),some (.int (fE s:Int)),some (.ref la),some (.ref lb),some (.ref ls),some (.ref l),v6,v7,v8])
  ⟨⟨fp8,x8,n68⟩,b68,_,_,_,rfl⟩ (fun i σ H' p=>hys _ _ p.2.1 hlfp) ?_ ?_
 ·rintro i σ Ha Hb hi ⟨⟨fpi,xa,na⟩,ba,v6,v7,v8,rfl⟩ sb
  rw[htl]at hi
  have bb:bS [c,d1,d2,w] H6 Hb:=ba.trans (bS.of sb)
  have xb:=xa.same sb
  have hil:i<(sts.map (bT s)).length:=by rw[Qw];exact hi
  have gi:(sts.map (bT s)).getD i zY=bT s (sts.getD i stN):=by simp[QN,hi]
  rw[gi]
  obtain⟨dx',a1,a2,a3,at',XX,efp⟩:=id xb
  show aH _ _ _ _ _
  nofun
  symm
  refine zD XX.at_ C.aQ C.jI zP ?_
  symm
  exists _,_,rfl,rfl,dx',_,XX.at_,(show 6<1000 by decide)
  rw[Gr]
  have XY:=XX.setF (a:=(c9 s left (fE s) ((sts.map (bT s)).take i)).pot) (b:=(c9 s left (fE s) ((sts.map (bT s)).take i)).giv) (e:=(c9 s left (fE s) ((sts.map (bT s)).take i)).spt+(bT s (sts.getD i stN)).2.1)
  have by':bS fpi Hb (upd Hb c (.ins (aq K "Chest") dx' (iz a1 a2 a3 (c9 s left (fE s) ((sts.map (bT s)).take i)).pot (c9 s left (fE s) ((sts.map (bT s)).take i)).giv ((c9 s left (fE s) ((sts.map (bT s)).take i)).spt+(bT s (sts.getD i stN)).2.1)))):=bS.upd XX.at_ (by intro xs z;cases z) (by rw[efp];simp)
  generalize upd Hb c (.ins (aq K "Chest") dx' (iz a1 a2 a3 (c9 s left (fE s) ((sts.map (bT s)).take i)).pot (c9 s left (fE s) ((sts.map (bT s)).take i)).giv ((c9 s left (fE s) ((sts.map (bT s)).take i)).spt+(bT s (sts.getD i stN)).2.1)))=Hc at *
  have hm:=hst1 _ (getD_mem stN hi)
  have hgd:s.cs.getD (sts.getD i stN).1 ("",0)∈s.cs:=getD_mem _ hm.1
  symm
  refine bJ XY.at_ (cn nofun) ?_
  symm
  have hmemw:((bT s (sts.getD i stN)).1,(bT s (sts.getD i stN)).2.1)∈(c9 s left (fE s) ((sts.map (bT s)).take i)).cs:=by
   show _∈s.cs.filter _
   refine Rb.mpr ⟨hgd,?_⟩
   rw[decide_eq_true_eq]
   intro m
   rw[<-V3,QR]at m
   obtain⟨x,hx,ex⟩:=Qu.mp m
   obtain⟨j,hj,ej⟩:=SX hx
   have hj':j<i/\j<sts.length:=by rw[Rw]at hj;omega
   rw[Wr]at ej
   have hmj:=hst1 x (TK hx)
   have ex:(s.cs.getD x.1 ("",0)).1=(s.cs.getD (sts.getD i stN).1 ("",0)).1:=ex
   have e1:=JC X.nd2 hmj.1 hm.1 ex
   have g1:sts.getD i stN=sts[i]:=by simp[QN,hi]
   have:=TU.mp hnd j i (by simp;omega) (by simp;omega) hj'.1
   simp only[V5]at this
   rw[ej,<-g1]at this
   exact this e1
  have hdw:(bA.withdraw (bT s (sts.getD i stN)).1).due {c9 s left (fE s) ((sts.map (bT s)).take i)with spt:=(c9 s left (fE s) ((sts.map (bT s)).take i)).spt+(bT s (sts.getD i stN)).2.1}=none:=by
   rw[bA.due,if_pos]
   exact Qu.mpr ⟨_,hmemw,rfl⟩
  refine⟨rfl,c,(bT s (sts.getD i stN)).1,fpi,_,rfl,⟨dx',a1,a2,a3,at',XY,efp⟩,Qt (RU _ _) (by have:=G.wl;omega),fun _ Hd fpd xd bd nd'=>?_,fun cl e=>by rw[hdw]at e;cases e⟩
  have et:(sts.map (bT s)).take (i+1)=(sts.map (bT s)).take i++[bT s (sts.getD i stN)]:=by
   rw[Uu,<-gi,QZ,Qz hil]
   rfl
  symm
  have bad:bS [c,d1,d2,w] H6 Hd:=by
   refine⟨fun a o n h=>?_,fun a xs h=>bd.2.1 _ _ (by'.2.1 _ _ (bb.2.1 _ _ h)),fun a h=>bb.2.2 _ (by'.2.2 _ (bd.2.2 _ h))⟩
   have n2:a∉fpi:=fun m=>by
    rcases na a m with z|z
    ·exact n z
    ·rw[h]at z;cases z
   exact bd.1 _ _ n2 (by'.1 _ _ n2 (bb.1 _ _ n h))
  refine⟨⟨fpd,?_,fun a ha=>?_⟩,bad,_,_,_,rfl⟩
  ·rw[et,C5]
   exact xd
  ·rcases nd' a ha with z|z
   ·exact na a z
   ·exact .inr (bb.2.2 _ (by'.2.2 _ z))
 ·rintro σ Ha ⟨⟨fpi,xa,na⟩,ba,v6,v7,v8,rfl⟩
  rw[htl,S7 ⋯]at xa
  have tot:∀a∈fpi,a∈[c,d1,d2,w]\/H6 a=none:=na
  have n1:∀{a:Qh}{o:HO},H a=none->H6 a=some o->a∉fpi:=fun {a o} h0 h1 m=>by
   rcases na a m with z|z
   ·exact(aF.there ⟨dx,d1,d2,w,wt,X,rfl⟩:∀a∈[c,d1,d2,w],H a≠none) a z h0
   ·rw[h1]at z;cases z
  symm
  rename_i t H9 f9 s9 h9
  have T9:=T6.but (ba.trans (bS.of s9)) hlfp hrfp
  refine qb t l tt H9 fpi rx (((bS.of s06).trans ba).trans (bS.of s9)) (fun a ha=>?_) (xa.same s9) (s06.free (ba.2.2 _ f9)) hl0 (n1 hl0 h6) h9 T9 fun t' ht y z r e=>?_
  ·rcases na a ha with z|z
   ·exact .inl z
   ·exact .inr (s06.free z)
  ·have e6:=T6.tup (ba.trans (bS.of s9)) t' ht y z r e
   obtain⟨q1,q2⟩:=q6 t' ht y z r e6
   exists q1,s05.free q2
   obtain⟨o,ho⟩:∃o,H6 r=some o:=by
    have:∀{rows:List je}{ts:List Qh},QE (MN H6) rows ts->t'∈ts->∃o,H6 r=some o:=by
     intro rows ts hh hm
     induction hh with
     |nil=>cases hm
     |cons q _ ih=>
      rcases QI.mp hm with rfl|hm
      ·obtain⟨r',g1,us,g2,_⟩:=q
       rw[g1]at e6
       injection e6 with e6
       injection e6 with e6
       simp at e6
       rw[<-e6.2.2]
       exact⟨_,g2⟩
      ·exact ih hm
    exact this p6 ht
   exact n1 (s05.free q2) ho
theorem AX:∀vs H Q E,lu K vs H Q E->lW K {nx:=fun _ H'=>Q .non H',rt:=Q} (start ["rows"] vs) H:=by
 rintro vs H Q E ⟨_,l,rs,rfl,⟨ts,v1,v2⟩,hr,hs,q⟩
 have hsz:=size_eq
 obtain⟨ec,es,e1,e2,eo,ep,em,e0⟩:=dQ
 have hvl:rs.length=ts.length:=QU v2
 unfold lW
 symm
 try refine cV (bo.of v1) ?_
 refine b7 (js (K:=K) (a:=l) (ts:=ts) (u:=fun i=>.str (rs.getD i ("",0)).1) (v:=fun i=>.int (rs.getD i ("",0)).2) 0 1) (fun i=>[some (.str (rs.getD i ("",0)).1),some (.int (rs.getD i ("",0)).2)]) (by rintro j σ' (rfl|⟨k,rfl⟩)<;>rfl) ?_ (Qt (show _<=1000 by omega) bL)
   (fun i=>.str (oP (rs.getD i ("",0)))) ?_ ?_
 ·intro H' s'
  refine⟨s'.seq (bo.of v1),fun i b hb=>?_⟩
  have hi:i<rs.length:=by rw[hvl];exact(Q0.mp hb).1
  obtain⟨b',z1,z2⟩:=dy v2 (Qz hi)
  rw[hb]at z1
  cases z1
  rw[QZ,Qz hi]
  exact s'.seqT (iM.of z2)
 ·intro i hi H' G s' kk
  have hm:=getD_mem (xs:=rs) ("",0) (show i<rs.length by omega)
  have hb:=hs _ hm
  have hln:=hb.2.len
  have hlx:(rs.getD i ("",0)).1.length<=8:=hb.1
  have hrow:=sm hb.1 hb.2
  symm
  refine⟨_,rfl,_,rfl,by omega,_,rfl,?_,_,rfl,?_,_,rfl,_,rfl,hb.2.log,_,rfl,?_,?_,kk H' (ar.refl _)⟩
  ·rw[QQ];omega
  ·rw[QQ,QQ];omega
  ·show(oP _).length<=_;omega
  ·show(oP _).length<=_;omega
 intro l7 H7 f7 s7 h7
 rw[<-hvl,br (fun p:Qg×Int=>V.str (oP p)) ("",0) rs,show rs.map (fun p=>V.str (oP p))=(rs.map oP).map V.str by rw[QR];rfl]at h7
 symm
 refine ky 609 (bo.of h7) (fun x hx=>?_) ?_ ?_
 ·obtain⟨p,hp,rfl⟩:=Qu.mp hx
  exact sm (hs p hp).1 (hs p hp).2
 ·rw[Qw,ec]
  have:rs.length*(609+2)<=20*611:=RY _ hr
  omega
 ·exact q H7 s7
theorem Bk:∀vs H Q E,k8 K vs H Q E->l6 K {nx:=fun _ H'=>Q .non H',rt:=Q} (start ["work","cost","rows","payers"] vs) H:=by
 rintro vs H Q E ⟨_,l,r,rfl,h1,hx,hc,hr,hs,q⟩
 have hsz:=size_eq
 obtain⟨ec,es,e1,e2,eo,ep,em,e0⟩:=dQ
 unfold l6
 nofun
 symm
 refine⟨rfl,l,r.2.2,rfl,h1,hr,hs,fun H1 s1=>?_⟩
 have hln:=hc.len
 have hlx:r.1.length<=8:=hx
 have hpl:=sM hr hs
 have hd:=o3 hx hc hr hs
 symm
 refine⟨_,rfl,_,rfl,by omega,_,rfl,?_,_,rfl,?_,_,rfl,_,rfl,hc.log,_,rfl,?_,_,rfl,?_,_,rfl,_,rfl,by omega,_,rfl,?_,?_,q H1 s1⟩
 ·rw[QQ];omega
 ·rw[QQ,QQ];omega
 ·show(QO++r.1++(" ":Qg)++iT r.2.1).length<=_
  simp only[QQ];omega
 ·show(QO++r.1++(" ":Qg)++iT r.2.1++(": ":Qg)).length<=_
  simp only[QQ];omega
 ·show(dX r).length<=_;omega
 ·show(dX r).length<=_;omega
theorem vn:∀vs H Q E,iB K vs H Q E->iD K {nx:=fun _ H'=>Q .non H',rt:=Q} (start ["done","grains","told"] vs) H:=by
 rintro vs H Q E ⟨_,l,ts,rs,g,rfl,⟨v1,v2⟩,hr,hg,hs,q⟩
 have hsz:=size_eq
 obtain⟨ec,es,e1,e2,eo,ep,em,e0⟩:=dQ
 have hvl:rs.length=ts.length:=QU v2
 unfold iD
 nofun
 symm
 exists _,rfl,l,_,rfl,bo.of v1
 by_cases hn:rs=[]
 ·have hz:ts=[]:=U4.mp (by rw[<-hvl,hn];rfl)
  rw[hz,show(!(RO V.ref ([]:List Qh)).isEmpty)=false from rfl]
  symm
  have e:jR rs g="none":=if_pos hn
  rw[<-e]
  exact q _ (ar.refl _)
 have hz:(!(RO V.ref ts).isEmpty)=true:=by
  cases ts with
  |nil=>exact absurd (U4.mp hvl) hn
  |cons=>rfl
 rw[hz]
 symm
 nofun
 symm
 try refine cV (bo.of v1) ?_
 have pick:∀i:Nat,∃a:Qh,∀t,ts[i]?=some t->H t=some (.tup [.str (rs.getD i ("",0,[])).1,.int (rs.getD i ("",0,[])).2.1,.ref a])/\ij H a (rs.getD i ("",0,[])).2.2:=fun i=>by
  by_cases hi:i<rs.length
  ·obtain⟨b',z1,a,z2,z3⟩:=dy v2 (Qz hi)
   refine⟨a,fun t ht=>?_⟩
   rw[z1]at ht
   cases ht
   rw[QZ,Qz hi]
   exact⟨z2,z3⟩
  ·refine⟨0,fun t ht=>?_⟩
   have:=(Q0.mp ht).1
   omega
 obtain⟨la,hla⟩:=VD pick
 refine b7 (ik (K:=K) (a:=l) (ts:=ts) (u:=fun i=>.str (rs.getD i ("",0,[])).1) (v:=fun i=>.int (rs.getD i ("",0,[])).2.1) (w:=fun i=>.ref (la i)) 0 1 2) (fun i=>[some (.str (rs.getD i ("",0,[])).1),some (.int (rs.getD i ("",0,[])).2.1),some (.ref (la i))]) (by rintro j σ' (rfl|⟨k,rfl⟩)<;>rfl) ?_ (Qt (show _<=1000 by omega) bL)
   (fun i=>.str (dX (rs.getD i ("",0,[])))) ?_ ?_
 ·intro H' s'
  exact⟨s'.seq (bo.of v1),fun i b hb=>s'.seqT (iM.of (hla i b hb).1)⟩
 ·intro i hi H' G s' kk
  have hm:=getD_mem (xs:=rs) ("",0,[]) (show i<rs.length by omega)
  obtain⟨b1,b2,b3,b4⟩:=hs _ hm
  symm
  exact⟨rfl,la i,rs.getD i ("",0,[]),rfl,(hla i ts[i] (Qz hi)).2.same s',b1,b2,b3,b4,fun H'' s''=>kk H'' s''⟩
 intro l7 H7 f7 s7 h7
 rw[<-hvl,br (fun p:je=>V.str (dX p)) ("",0,[]) rs,show rs.map (fun p=>V.str (dX p))=(rs.map dX).map V.str by rw[QR];rfl]at h7
 have hmx:∀x∈rs.map dX,x.length<=12840:=fun x hx=>by
  obtain⟨p,hp,rfl⟩:=Qu.mp hx
  obtain⟨b1,b2,b3,b4⟩:=hs p hp
  exact o3 b1 b2 b3 b4
 have hml:(rs.map dX).length*(12840+("; ":Qg).length)<=154104:=by
  rw[Qw,es]
  have:rs.length*(12840+2)<=12*12842:=RY _ hr
  omega
 have hjl:=Qt (gy (sep:="; ") hmx) hml
 symm
 refine ky 12840 (bo.of h7) hmx (by omega) ?_
 symm
 have e:jR rs g=QO++Q3 "; " (rs.map dX)++" of "++iT g:=if_neg hn
 have hgl:=hg.len
 have hcl:(jR rs g).length<=16777216:=by rw[e];simp only[QQ];omega
 rw[e]at hcl q
 refine⟨_,rfl,_,rfl,by omega,_,rfl,?_,_,rfl,?_,_,rfl,_,rfl,hg.log,_,rfl,?_,?_,q H7 s7⟩
 ·rw[QQ];omega
 ·rw[QQ,QQ];omega
 ·rw[hsz];exact hcl
 ·rw[hsz];exact hcl
theorem xN:∀vs H Q E,jA K vs H Q E->jo K {nx:=fun _ H'=>Q .non H',rt:=Q} (start ["chest","closing"] vs) H:=by
 rintro vs H Q E ⟨_,c,fp,s,rfl,CH,G,q⟩
 obtain⟨dx,d1,d2,w,wt,X,efp⟩:=id CH
 unfold jo
 nofun
 symm
 refine bJ X.at_ (cn nofun) ?_
 symm
 refine⟨rfl,c,fp,s,rfl,CH,G.g,fun hno t l H1 ft fl tl s1 ht hl=>?_,fun hp hc run t l ts H1 fp1 rx b1 n1 c1 ft fl lf ht hl nr=>?_⟩
 ·have e1:fS s=s:=if_pos hno
  have e2:eU s="none":=if_pos hno
  rw[e1,e2]at q
  symm
  refine Di (iM.of ht) (bI (j:=0) rfl) ?_
  symm
  refine Di (iM.of ht) (bI (j:=1) rfl) ?_
  symm
  refine⟨rfl,l,[],[],1,rfl,⟨hl,.nil⟩,Rm _,ka (by decide) (by decide),(fun r hr=>by cases hr),fun H2 s2=>?_⟩
  rw[show jR [] 1="none" from if_pos rfl]
  exact q H2 fp (CH.same (s1.trans s2)) (bS.of (s1.trans s2)) fL.refl
 ·have hno:¬(s.ps=[]\/s.cs=[]):=fun z=>by rcases z with z|z;exact hp z;exact hc z
  have er:=si rx
  have e1:fS s=d5 s run:=by rw[<-er];exact if_neg hno
  have e2:eU s=jR ((aX (bq s) (aP s) run).map (bT s)) (fE s):=by
   rw[<-er];exact if_neg hno
  rw[e1,e2]at q
  symm
  refine Di (iM.of ht) (bI (j:=0) rfl) ?_
  symm
  refine Di (iM.of ht) (bI (j:=1) rfl) ?_
  symm
  have hrb:=gS rx
  refine⟨rfl,l,ts,_,_,rfl,hl,by rw[Qw];exact Qt hrb.1 G.g.n12,LY G.g,BZ G rx,fun H2 s2=>?_⟩
  exact q H2 fp1 (c1.same s2) (b1.trans (bS.of s2)) n1
theorem B5:∀vs H Q E,lK K vs H Q E->lS K {nx:=fun _ H'=>Q .non H',rt:=Q} (start ["work","cost","wanters","names"] vs) H:=by
 rintro vs H Q E ⟨_,l,r,rfl,h1,hx,hc,hr,hs,q⟩
 have hsz:=size_eq
 obtain⟨ec,es,e1,e2,eo,ep,em,e0⟩:=dQ
 have hln:=hc.len
 have hlx:r.1.length<=8:=hx
 have hpl:=qD hr hs
 have hd:=tU hx hc hr hs
 unfold lS
 with_reducible refine rQ (fun σ H'=>ar H H'/\σ=[some (.str r.1),some (.int r.2.1),some (.ref l),some (.str (qY r.2.2))]) (fun F hF=>?_) ?_
 ·symm
  cases hn:r.2.2 with
  |nil=>
   exists _,rfl,l,_,rfl,h1
   rw[hn]
   symm
   refine hF _ _ ⟨ar.refl _,?_⟩
   rw[hn]
   rfl
  |cons a t=>
   exists _,rfl,l,_,rfl,h1
   rw[hn,show(!(RO V.str (a::t)).isEmpty)=true from rfl]
   symm
   rw[hn]at h1 hs hr
   refine ky 8 h1 hs ?_ ?_
   ·rw[ep]
    have:(a::t).length*(8+1)<=20*9:=RY _ hr
    omega
   ·symm
    refine hF _ _ ⟨ar.refl _,?_⟩
    rw[hn]
    rfl
 rintro σ H1 ⟨s1,rfl⟩
 symm
 refine⟨_,rfl,_,rfl,by omega,_,rfl,?_,_,rfl,?_,_,rfl,_,rfl,hc.log,_,rfl,?_,_,rfl,?_,_,rfl,_,rfl,by omega,_,rfl,?_,?_,q H1 s1⟩
 ·rw[QQ];omega
 ·rw[QQ,QQ];omega
 ·show(QO++r.1++(" ":Qg)++iT r.2.1).length<=_
  simp only[QQ];omega
 ·show(QO++r.1++(" ":Qg)++iT r.2.1++(" ":Qg)).length<=_
  simp only[QQ];omega
 ·show(d9 r).length<=_;omega
 ·show(d9 r).length<=_;omega
theorem yK:∀vs H Q E,ke K vs H Q E->kA K {nx:=fun _ H'=>Q .non H',rt:=Q} (start ["works"] vs) H:=by
 rintro vs H Q E ⟨_,l,ts,rs,rfl,⟨v1,v2⟩,hr,hs,q⟩
 have hsz:=size_eq
 obtain⟨ec,es,e1,e2,eo,ep,em,e0⟩:=dQ
 have hvl:rs.length=ts.length:=QU v2
 unfold kA
 nofun
 symm
 exists _,rfl,l,_,rfl,bo.of v1
 by_cases hn:rs=[]
 ·have hz:ts=[]:=U4.mp (by rw[<-hvl,hn];rfl)
  rw[hz,show(!(RO V.ref ([]:List Qh)).isEmpty)=false from rfl]
  symm
  have e:jL rs="none":=if_pos hn
  rw[<-e]
  exact q _ (ar.refl _)
 have hz:(!(RO V.ref ts).isEmpty)=true:=by
  cases ts with
  |nil=>exact absurd (U4.mp hvl) hn
  |cons=>rfl
 rw[hz]
 symm
 try refine cV (bo.of v1) ?_
 have pick:∀i:Nat,∃a:Qh,∀t,ts[i]?=some t->H t=some (.tup [.str (rs.getD i ("",0,[])).1,.int (rs.getD i ("",0,[])).2.1,.ref a])/\H a=some (.lst ((rs.getD i ("",0,[])).2.2.map V.str)):=fun i=>by
  by_cases hi:i<rs.length
  ·obtain⟨b',z1,a,z2,z3⟩:=dy v2 (Qz hi)
   refine⟨a,fun t ht=>?_⟩
   rw[z1]at ht
   cases ht
   rw[QZ,Qz hi]
   exact⟨z2,z3⟩
  ·refine⟨0,fun t ht=>?_⟩
   have:=(Q0.mp ht).1
   omega
 obtain⟨la,hla⟩:=VD pick
 refine b7 (ik (K:=K) (a:=l) (ts:=ts) (u:=fun i=>.str (rs.getD i ("",0,[])).1) (v:=fun i=>.int (rs.getD i ("",0,[])).2.1) (w:=fun i=>.ref (la i)) 0 1 2) (fun i=>[some (.str (rs.getD i ("",0,[])).1),some (.int (rs.getD i ("",0,[])).2.1),some (.ref (la i))]) (by rintro j σ' (rfl|⟨k,rfl⟩)<;>rfl) ?_ (Qt (show _<=1000 by omega) bL)
   (fun i=>.str (d9 (rs.getD i ("",0,[])))) ?_ ?_
 ·intro H' s'
  exact⟨s'.seq (bo.of v1),fun i b hb=>s'.seqT (iM.of (hla i b hb).1)⟩
 ·intro i hi H' G s' kk
  have hm:=getD_mem (xs:=rs) ("",0,[]) (show i<rs.length by omega)
  obtain⟨b1,b2,b3,b4⟩:=hs _ hm
  symm
  exact⟨rfl,la i,rs.getD i ("",0,[]),rfl,s'.seq (bo.of (hla i ts[i] (Qz hi)).2),b1,b2,b3,b4,fun H'' s''=>kk H'' s''⟩
 intro l7 H7 f7 s7 h7
 rw[<-hvl,br (fun p:Qg×Int×List Qg=>V.str (d9 p)) ("",0,[]) rs,show rs.map (fun p=>V.str (d9 p))=(rs.map d9).map V.str by rw[QR];rfl]at h7
 symm
 refine ky 800 (bo.of h7) (fun x hx=>?_) ?_ ?_
 ·obtain⟨p,hp,rfl⟩:=Qu.mp hx
  obtain⟨b1,b2,b3,b4⟩:=hs p hp
  exact tU b1 b2 b3 b4
 ·rw[Qw,ec]
  have:rs.length*(800+2)<=12*802:=RY _ hr
  omega
 ·have e:jL rs=Q3 ", " (rs.map d9):=if_neg hn
  rw[<-e]
  exact q H7 s7
theorem sX(C:il K):∀vs H Q E,gK K vs H Q E->gO K {nx:=fun _ H'=>Q .non H',rt:=Q} (start ["self","work"] vs) H:=by
 rintro vs H Q E ⟨_,c,dx,d1,d2,w,n,wt,s,rfl,hc,hd,hw,hp,an,ap,aw,hl,q⟩
 have n1:c≠d1:=aR hc hd ⋯
 have n2:w≠d1:=aR hw hd ⋯
 have hk:=dh s.ps
 unfold gO
 with_reducible refine FH ?_
 refine G8 (d:=d1) (kvs:=eV s.ps) (fun k hk=>⟨_,rfl,cq hc C.aQ C.aV cv hk⟩) hd (by rw[hk];exact Qt (show _<=1000 by omega) bL) (fun i=>.str (s.ps.getD i ("",0)).1) ?_
  (fun i=>[some (.str (s.ps.getD i ("",0)).1),some (.str n),some (.ref c)]) (by rintro j σ' (rfl|⟨k,rfl⟩)<;>rfl) (fun i=>decide (((s.ps.getD i ("",0)).1,n)∈s.ws)) (fun i=>.str (s.ps.getD i ("",0)).1) ?_ ?_ ?_
 ·intro i p hp'
  have hi:i<s.ps.length:=by rw[<-hk];exact(Q0.mp hp').1
  rw[j3 (Qz hi)]at hp'
  cases hp'
  rw[QZ,Qz hi]
  rfl
 ·intro i hi H' G sx kk
  rw[hk]at hi
  have ai:aT (s.ps.getD i ("",0)).1:=by
   rw[QZ,Qz hi]
   exact ap _ (Sz hi)
  symm
  rename_i t H2 f2 s2 h2
  refine cq (s2 _ _ (sx c _ n1 hc)) C.aQ C.cc gX ?_
  refine D5 (p:=((s.ps.getD i ("",0)).1,n)) h2 (s2 _ _ (sx w _ n2 hw)) (Paired.mapP hp fun _ a z=>s2 _ _ (sx a _ (aR z hd ⋯) z)) ai an aw ?_
  rw[TL]
  symm
  exact kk H2 s2
 ·intro i hi hb H' G sx kk
  symm
  exact kk H' (ar.refl _)
 intro l H2 f2 s2 h2
 rw[hk,EN s.ps (fun v=>decide ((v,n)∈s.ws))]at h2
 exact q l H2 f2 s2 h2
theorem wC(C:il K):∀vs H Q E,dH K vs H Q E->jf K {nx:=fun _ H'=>Q .non H',rt:=Q} (start ["self"] vs) H:=by
 rintro vs H Q E ⟨_,c,fp,s,rfl,⟨dx,d1,d2,w,wt,X,rfl⟩,ap,ac,aw,hl,hlc,q⟩
 have n1:c≠d2:=aR X.at_ X.p2 ⋯
 have n2:w≠d2:=aR X.w_ X.p2 ⋯
 have hk:=dh s.cs
 unfold jf
 with_reducible refine FH ?_
 refine DS (d:=d2) (kvs:=eV s.cs) (fun k hk=>⟨_,rfl,cq X.at_ C.aQ C.bW dU hk⟩) X.p2 (by rw[hk];exact Qt (show _<=1000 by omega) bL) (fun i=>.str (s.cs.getD i ("",0)).1) (fun i=>.int (s.cs.getD i ("",0)).2) ?_
  (fun i=>[some (.str (s.cs.getD i ("",0)).1),some (.int (s.cs.getD i ("",0)).2),some (.ref c)]) (by rintro j σ' (rfl|⟨k,rfl⟩)<;>rfl)
  (fun l i v H'=>∃t w',v=V.ref t/\((w'≠l/\H w'=none)/\t≠l)/\H' t=some (.tup [.str (iK s (s.cs.getD i ("",0))).1,.int (iK s (s.cs.getD i ("",0))).2.1,.ref w'])/\H' w'=some (.lst ((iK s (s.cs.getD i ("",0))).2.2.map V.str)))
  (fun l i v H1 H2 sx ⟨t,w',e,⟨hw,ht⟩,h1,h2⟩=>⟨t,w',e,⟨hw,ht⟩,sx t _ ht h1,sx w' _ hw.1 h2⟩)
  (fun l i v H1 o hd ⟨t,w',e,hw,h1,h2⟩=>⟨t,w',e,hw,by rw[ax (aR h1 hd ⋯)];exact h1,by rw[ax (aR h2 hd ⋯)];exact h2⟩) ?_ ?_
 ·intro i p hp'
  have hi:i<s.cs.length:=by rw[<-hk];exact(Q0.mp hp').1
  rw[j3 (Qz hi)]at hp'
  cases hp'
  rw[QZ,Qz hi]
  exact⟨rfl,rfl⟩
 ·intro l i hi H' G h0 ⟨o,ho⟩ ⟨od,hod⟩ sx kk
  rw[hk]at hi
  have ai:aT (s.cs.getD i ("",0)).1:=by
   rw[QZ,Qz hi]
   exact ac _ (Sz hi)
  symm
  refine bJ (sx c _ n1 X.at_) (cn nofun) ?_
  symm
  refine⟨rfl,c,dx,d1,d2,w,_,wt,s,rfl,sx c _ n1 X.at_,sx d1 _ X.ne X.p1,sx w _ n2 X.w_,Paired.mapP X.wt fun _ a z=>sx a _ (aR z X.p2 ⋯) z,ai,ap,aw,hl,fun l' H1 f1 s1 h1=>?_⟩
  symm
  rename_i t H2 f2 s2 h2
  refine kk _ H2 ⟨t,l',rfl,⟨⟨fun e=>?_,?_⟩,fun e=>?_⟩,h2,s2 _ _ h1⟩ (s1.trans s2)
  ·rw[e,ho]at f1;cases f1
  ·cases z:H l' with
   |none=>rfl
   |some x=>
    by_cases e:l'=d2
    ·rw[e,hod]at f1;cases f1
    ·rw[sx l' _ e z]at f1;cases f1
  ·rw[e,s1 _ _ ho]at f2;cases f2
 intro l ys H2 f2 s2 h2 pr
 rw[hk]at pr
 obtain⟨ts,e,p2,q2⟩:=uE (P:=fun w'=>w'≠l/\H w'=none) (f:=fun i=>iK s (s.cs.getD i ("",0))) (Paired.mapP pr fun i v ⟨t,w',e,hw,h1,h2⟩=>⟨t,w',e,hw.1,h1,h2⟩)
 rw[br (iK s) ("",0) s.cs]at p2
 exact q l ts H2 f2 s2 ⟨by rw[h2,e],p2⟩ q2
theorem BG(C:il K):∀vs H Q E,iR K vs H Q E->mo K {nx:=fun _ H'=>Q .non H',rt:=Q} (start ["self"] vs) H:=by
 rintro vs H Q E ⟨_,c,fp,s,rfl,⟨dx,d1,d2,w,wt,x,rfl⟩,q⟩
 unfold mo
 symm
 exact cq x.at_ C.aQ C.cR fF q
theorem xB(C:il K):∀vs H Q E,fU K vs H Q E->i8 K {nx:=fun _ H'=>Q .non H',rt:=Q} (start ["self"] vs) H:=by
 rintro vs H Q E ⟨_,c,fp,s,rfl,⟨dx,d1,d2,w,wt,x,rfl⟩,q⟩
 unfold i8
 symm
 exact cq x.at_ C.aQ C.km CZ q
theorem xq(C:il K):∀vs H Q E,gv K vs H Q E->jn K {nx:=fun _ H'=>Q .non H',rt:=Q} (start ["self"] vs) H:=by
 rintro vs H Q E ⟨_,c,fp,s,rfl,⟨dx,d1,d2,w,wt,x,rfl⟩,q⟩
 unfold jn
 symm
 exact cq x.at_ C.aQ C.jI zP q
theorem Fq:∀vs H Q E,qo K vs H Q E->qZ K E {nx:=fun _ H'=>Q .non H',rt:=Q} (start ["chest","deed"] vs) H:=by
 rintro vs H Q E ⟨_,c,w,fp,s,rfl,CH,G,tw,q⟩
 obtain⟨dx,d1,d2,wl,wt,X,efp⟩:=id CH
 unfold qZ
 unfold nk at q
 nofun
 symm
 refine cQ (fun h=>?_) (fun h=>?_)
 ·rw[if_pos h]at q
  symm
  exact⟨rfl,c,fp,s,rfl,CH,G,q⟩
 rw[if_neg h]at q
 symm
 nofun
 symm
 refine cQ (fun h=>?_) (fun h=>?_)
 ·rw[if_pos h]at q
  symm
  refine bJ X.at_ (cn nofun) ?_
  symm
  have hp1:=G.g.v20
  have hc1:=G.g.n12
  refine⟨rfl,c,fp,s,rfl,CH,G.g.ap,G.g.ac,G.g.aw,by omega,by omega,fun l ts H1 fl s1 w1 _=>?_⟩
  symm
  refine⟨rfl,l,ts,_,rfl,w1,by rw[Qw];exact hc1,fun r hr=>?_,fun H2 s2=>q H2 (s1.trans s2)⟩
  obtain⟨p,hp,rfl⟩:=Qu.mp hr
  have hb:=G.g.cb p hp
  refine⟨(ix (G.nc p hp)).2,ka (by show(0:Int)<=p.2;omega) hb.2,?_,fun x hx=>?_⟩
  ·refine Qt (RU _ _) ?_
   rw[Qw]
   exact hp1
  ·obtain⟨v,hv,rfl⟩:=Qu.mp (Rb.mp hx).1
   exact(ix (G.nv v hv)).2
 rw[if_neg h]at q
 symm
 nofun
 symm
 refine cQ (fun h=>?_) (fun h=>?_)
 ·rw[if_pos h]at q
  symm
  refine bJ X.at_ (cn nofun) ?_
  symm
  exists rfl,c,fp,s,rfl,CH
  symm
  exact iq G.pot.log (q H (ar.refl _))
 rw[if_neg h]at q
 symm
 nofun
 symm
 refine cQ (fun h=>?_) (fun h=>?_)
 ·rw[if_pos h]at q
  symm
  refine bJ X.at_ (cn nofun) ?_
  symm
  exists rfl,c,fp,s,rfl,CH
  symm
  exact iq G.giv.log (q H (ar.refl _))
 rw[if_neg h]at q
 symm
 nofun
 symm
 refine cQ (fun h=>?_) (fun h=>?_)
 ·rw[if_pos h]at q
  symm
  refine bJ X.at_ (cn nofun) ?_
  symm
  exists rfl,c,fp,s,rfl,CH
  symm
  exact iq G.spt.log (q H (ar.refl _))
 rw[if_neg h]at q
 symm
 obtain⟨f1,f2,f3⟩:=xv tw (a:="no row of one word: ") (n:=20) nofun (by decide)
 exact⟨_,rfl,f1,_,rfl,w,rfl,f2,_,rfl,f3,f3,(by decide:1<=Qr),q _ (ar.refl _)⟩
theorem Ef:∀vs H Q E,qx K vs H Q E->qL K {nx:=fun _ H'=>Q .non H',rt:=Q} (start ["name"] vs) H:=by
 rintro vs H Q E ⟨_,z,rfl,ha,hz,q⟩
 have hl:=bE z
 have hsz:z.cps.size=z.length:=rfl
 have e:dE z=((decide (1<=z.length)&&decide (z.length<=8))&&z.cps.toList.all isLet):=rfl
 unfold qL
 walk_at "v"
 refine cQ (fun h1=>?_) (fun h1=>?_)
 ·symm
  refine cQ (fun h2=>?_) (fun h2=>?_)
  ·symm
   exists z,rfl,ha
   refine b7 (Gg (x:=z) 0) (fun j=>[some (.str ⟨#[z.cps.getD j 0]⟩)]) (by rintro j σ' (rfl|⟨k,rfl⟩)<;>rfl) (fun _ _=>trivial) (Qt (show _<=1000 by omega) bL) (fun j=>.bl (isLet (z.cps.getD j 0))) ?_ ?_
   ·intro j hj H' F s kk
    symm
    rw[Lq]
    exact kk H' (ar.refl _)
   intro l1 H1 f1 s1 h1
   have e1:(QM z.cps.size).map (fun j=>V.bl (isLet (z.cps.getD j 0)))=(z.cps.toList.map isLet).map V.bl:=by
    rw[QR]
    have:=br (fun c=>V.bl (isLet c)) 0 z.cps.toList
    rw[hl]at this
    rw[hsz]
    refine Uw ?_ this
    refine Tc fun j hj=>?_
    simp[YD,QZ]
   rw[e1]at h1
   have q1:bo K H1 l1 ((z.cps.toList.map isLet).map V.bl):=bo.of h1
   symm
   have e2:(z.cps.toList.map isLet).all id=dE z:=by
    rw[e,Ul,decide_eq_true (by omega),decide_eq_true (by omega)]
    rfl
   rw[e2]
   exact q H1 s1
  ·symm
   rw[decide_eq_false (show ¬z.length<=8 by omega),V4,TB]at e
   rw[<-e]
   exact q H (ar.refl _)
 ·symm
  rw[decide_eq_false (show ¬1<=z.length by omega),TB,TB]at e
  rw[<-e]
  exact q H (ar.refl _)
theorem rK:∀vs H Q E,d7 K vs H Q E->fO K E {nx:=fun _ H'=>Q .non H',rt:=Q} (start ["name","names"] vs) H:=by
 rintro vs H Q E ⟨_,z,d,kvs,rfl,hd,hz,h⟩
 have hsz:=size_eq
 have hz2:=hz.2
 unfold fO
 nofun
 symm
 refine⟨rfl,z,rfl,hz.1,by omega,fun H1 s1=>?_⟩
 rcases h with⟨hn,hv,q⟩|⟨hn,q⟩|⟨hn,hv,q⟩
 ·rw[hn]
  symm
  refine FE (s1 _ _ hd) ?_
  rw[hv]
  symm
  exact q H1 s1
 ·rw[hn]
  symm
  obtain⟨n1,n2,n3⟩:=xv hz (show(QO++("no name: ":Qg)).length=9 by decide +kernel) (by decide)
  exact⟨_,rfl,n1,_,rfl,z,rfl,n2,_,rfl,n3,n3,(by decide:1<=Qr),q _ s1⟩
 ·rw[hn]
  symm
  refine FE (s1 _ _ hd) ?_
  rw[hv]
  symm
  have n1:(QO++("there already: ":Qg)).length=15:=nofun
  have n2:(QO++("there already: ":Qg)++z).length<=Qr:=by
   rw[QQ]
   omega
  exact⟨_,rfl,by omega,_,rfl,z,rfl,by omega,_,rfl,n2,n2,(by decide:1<=Qr),q _ s1⟩
theorem GN:∀y:Int,y=12\/y=20->(QO++("there are ":Qg)).length<=Qr/\y.natAbs.log2<1920/\(QO++("there are ":Qg)++((toString y:String):Qg)).length<=Qr/\(QO++("there are ":Qg)++((toString y:String):Qg)++(" already":Qg)).length<=Qr:=by
 rintro y (rfl|rfl)<;>decide +kernel
theorem wJ:∀vs H Q E,gh K vs H Q E->jK K E {nx:=fun _ H'=>Q .non H',rt:=Q} (start ["names","most"] vs) H:=by
 rintro vs H Q E ⟨_,d,kvs,n,rfl,hd,hn,h⟩
 obtain⟨n1,n2,n3,n4⟩:=GN n hn
 unfold jK
 symm
 refine xX hd ?_
 symm
 rcases h with⟨h1,q⟩|⟨h1,q⟩
 ·refine gB (by omega) ?_
  symm
  exact q
 ·refine vo (by omega) ?_
  exact⟨_,rfl,n1,_,rfl,n,rfl,n2,_,rfl,n3,_,rfl,n4,n4,(by decide:1<=Qr),q _ (ar.refl _)⟩
theorem yi(C:il K):∀vs H Q E,gd K vs H Q E->jB K E {nx:=fun _ H'=>Q .non H',rt:=Q} (start ["self","name"] vs) H:=by
 rintro vs H Q E ⟨_,c,n,fp,s,rfl,⟨dx,d1,d2,w,wt,x,rfl⟩,hz,qn,qe⟩
 unfold jB
 nofun
 symm
 refine cq x.at_ C.aQ C.aV cv ?_
 symm
 by_cases hn:dE n=true
 ·by_cases hm:n∈s.ps.map (·.1)
  ·exact⟨rfl,n,d1,_,rfl,x.p1,hz,.inr (.inr ⟨hn,DD x.nd hm,qe _ (by rw[bA.due,if_neg (by rw[hn];simp),if_pos hm])⟩)⟩
  refine⟨rfl,n,d1,_,rfl,x.p1,hz,.inl ⟨hn,oZ hm,fun H1 s1=>?_⟩⟩
  have x1:=x.same s1
  symm
  nofun
  symm
  refine cq x1.at_ C.aQ C.aV cv ?_
  symm
  by_cases hl:20<=s.ps.length
  ·exact⟨rfl,d1,_,20,rfl,x1.p1,.inr rfl,.inr ⟨by rw[dh];omega,fun H' s'=>qe _ (by rw[bA.due,if_neg (by rw[hn];simp),if_neg hm,if_pos hl]) H' (s1.trans s')⟩⟩
  refine⟨rfl,d1,_,20,rfl,x1.p1,.inr rfl,.inl ⟨by rw[dh];omega,?_⟩⟩
  symm
  refine cq x1.at_ C.aQ C.aV cv ?_
  symm
  refine Ji x1.p1 (by rw[dh];exact Q4 (show _<1000 by omega) bL) ?_
  rw[F5 hm]
  refine qn (by rw[bA.due,if_neg (by rw[hn];simp),if_neg hm,if_neg hl]) _ [c,d1,d2,w] ⟨dx,d1,d2,w,wt,x1.setP (ps:=s.ps++[(n,0)]) ?_,rfl⟩ ((bS.of s1).trans (bS.upd x1.p1 (by intro xs z;cases z) ⋯)) fL.refl
  rw[R4]
  exact vE x.nd hm
 ·have hn:dE n=false:=by simpa using hn
  exact⟨rfl,n,d1,_,rfl,x.p1,hz,.inr (.inl ⟨hn,qe _ (by rw[bA.due,if_pos hn])⟩)⟩
theorem oO(C:il K):∀vs H Q E,cB K vs H Q E->ef K E {nx:=fun _ H'=>Q .non H',rt:=Q} (start ["self","voter"] vs) H:=by
 rintro vs H Q E ⟨_,c,n,fp,s,rfl,⟨dx,d1,d2,w,wt,x,rfl⟩,h⟩
 unfold ef
 symm
 refine cq x.at_ C.aQ C.aV cv ?_
 refine FE x.p1 ?_
 rcases h with⟨hn,q⟩|⟨hn,hz,q⟩
 ·obtain⟨p,hp,rfl⟩:=Qu.mp hn
  rw[ox x.nd (show(p.1,p.2)∈s.ps from hp)]
  symm
  exact q
 ·rw[oZ hn]
  symm
  obtain⟨n1,n2,n3⟩:=xv hz (show(QO++("no voter: ":Qg)).length=10 by decide +kernel) (by decide)
  exact⟨_,rfl,n1,_,rfl,n,rfl,n2,_,rfl,n3,n3,(by decide:1<=Qr),q _ (ar.refl _)⟩
theorem rM(C:il K):∀vs H Q E,fX K vs H Q E->fW K E {nx:=fun _ H'=>Q .non H',rt:=Q} (start ["self","voter"] vs) H:=by
 rintro vs H Q E ⟨_,c,n,fp,s,rfl,⟨dx,d1,d2,w,wt,X,rfl⟩,tx,qn,qe⟩
 unfold fW
 nofun
 symm
 refine bJ X.at_ (cn nofun) ?_
 symm
 by_cases hin:n∈s.ps.map (·.1)
 rotate_left
 ·exact⟨rfl,c,n,_,s,rfl,⟨dx,d1,d2,w,wt,X,rfl⟩,.inr ⟨hin,tx,qe hin⟩⟩
 refine⟨rfl,c,n,_,s,rfl,⟨dx,d1,d2,w,wt,X,rfl⟩,.inl ⟨hin,?_⟩⟩
 symm
 refine cq X.at_ C.aQ C.aV cv ?_
 symm
 exact Kl X.p1 (ox X.nd (qv hin)) (qn hin)
theorem xP(C:il K):∀vs H Q E,fQ K vs H Q E->jw K E {nx:=fun _ H'=>Q .non H',rt:=Q} (start ["self","name"] vs) H:=by
 rintro vs H Q E ⟨_,c,n,fp,s,rfl,⟨dx,d1,d2,w,wt,X,rfl⟩,hz,hw,qn,qe⟩
 unfold jw
 nofun
 symm
 refine bJ X.at_ (cn nofun) ?_
 symm
 by_cases hin:n∈s.ps.map (·.1)
 rotate_left
 ·exact⟨rfl,c,n,_,s,rfl,⟨dx,d1,d2,w,wt,X,rfl⟩,.inr ⟨hin,hz,qe _ (by rw[bA.due,if_neg hin])⟩⟩
 have q:=qn (by rw[bA.due,if_pos hin])
 have hm:=qv hin
 generalize vP s.ps n=x at *
 refine⟨rfl,c,n,_,s,rfl,⟨dx,d1,d2,w,wt,X,rfl⟩,.inl ⟨hin,?_⟩⟩
 symm
 nofun
 symm
 refine zD X.at_ C.aQ C.cR fF ?_
 symm
 refine cq X.at_ C.aQ C.aV cv ?_
 exists d1,rfl,.inl ⟨_,.inl X.p1⟩
 symm
 exists _,.inr n,.int x,X.p1,rfl,ox X.nd hm
 rw[CS]
 have X1:=X.setP (ps:=s.ps.filter fun p=>decide (p.1≠n)) (sI X.nd)
 have b1:bS [c,d1,d2,w] H (upd H d1 (.dK (eV (s.ps.filter fun p=>decide (p.1≠n))))):=bS.upd X.p1 (by intro xs z;cases z) ⋯
 generalize upd H d1 (.dK (eV (s.ps.filter fun p=>decide (p.1≠n))))=H1 at *
 exists _,_,rfl,rfl,dx,_,X1.at_,(show 6<1000 by decide)
 rw[jW]
 have X2:=X1.setF (a:=s.pot+x) (b:=s.giv) (e:=s.spt)
 have b2:bS [c,d1,d2,w] H1 (upd H1 c (.ins (aq K "Chest") dx (iz d1 d2 w (s.pot+x) s.giv s.spt))):=bS.upd X1.at_ (by intro xs z;cases z) ⋯
 generalize upd H1 c (.ins (aq K "Chest") dx (iz d1 d2 w (s.pot+x) s.giv s.spt))=H2 at *
 symm
 refine cq X2.at_ C.aQ C.cc gX ?_
 exists w,rfl,⟨_,bo.of X2.w_⟩
 have hwl:s.ws.length=wt.length:=QU X.wt
 refine nC (js (K:=K) (a:=w) (ts:=wt) (u:=fun i=>.str (s.ws.getD i ("","")).1) (v:=fun i=>.str (s.ws.getD i ("","")).2) 0 1) (fun i=>[some (.str (s.ws.getD i ("","")).1),some (.str (s.ws.getD i ("","")).2),some (.str n)]) (by rintro j σ' (rfl|⟨k,rfl⟩)<;>rfl) ?_ (Qt (show _<=1000 by omega) bL)
  (fun i=>!decide ((s.ws.getD i ("","")).1=n)) (fun i=>[.str (s.ws.getD i ("","")).1,.str (s.ws.getD i ("","")).2]) ?_ ?_ ?_
 ·intro H' s'
  refine⟨s'.seq (bo.of X2.w_),fun i b hb=>?_⟩
  have hi:i<s.ws.length:=by rw[hwl];exact(Q0.mp hb).1
  obtain⟨b',z1,z2⟩:=dy X2.wt (Qz hi)
  rw[hb]at z1
  cases z1
  rw[QZ,Qz hi]
  exact s'.seqT (iM.of z2)
 ·intro i hi H' G s' kk
  symm
  exact kk H' (ar.refl _)
 ·intro i hi hb H' G s' kk
  symm
  rename_i a H'' f s'' h
  exact kk a H'' f s'' h
 intro l bs H3 f3 s3 h3 pr
 have X3:=X2.same s3
 rw[<-hwl]at pr
 have hp:QE (B6 H3) (s.ws.filter fun p=>!decide (p.1=n)) bs:=by
  rw[<-lM (fun p:Qg×Qg=>!decide (p.1=n)) ("","") s.ws]
  exact fG pr
 symm
 refine mK X3.at_ C.aQ C.cc (show 6<1000 by decide) ?_
 rw[tF]
 have X4:=X3.setW h3 hp
 refine q _ [c,d1,d2,l] ⟨dx,d1,d2,l,bs,X4,rfl⟩ (((b1.trans b2).trans (bS.of s3)).trans (bS.upd X3.at_ (by intro xs z;cases z) ⋯)) ?_
 intro a ha
 simp only[QI,RD,or_false]at ha
 rcases ha with rfl|rfl|rfl|rfl
 ·exact .inl ⋯
 ·exact .inl ⋯
 ·exact .inl ⋯
 ·exact .inr ((b1.trans b2).2.2 _ f3)
theorem Gw:∀y:Int,y=0\/y=1->(QO++("not from ":Qg)).length<=Qr/\y.natAbs.log2<1920/\(QO++("not from ":Qg)++((toString y:String):Qg)).length<=Qr/\(QO++("not from ":Qg)++((toString y:String):Qg)++(" to ":Qg)).length<=Qr/\
  (1000000000:Int).natAbs.log2<1920/\(QO++("not from ":Qg)++((toString y:String):Qg)++(" to ":Qg)++((toString (1000000000:Int):String):Qg)).length<=Qr/\(QO++("not from ":Qg)++((toString y:String):Qg)++(" to ":Qg)++((toString (1000000000:Int):String):Qg)++(" coins":Qg)).length<=Qr:=by
 rintro y (rfl|rfl)<;>decide +kernel
theorem xx:∀vs H Q E,gA K vs H Q E->jb K E {nx:=fun _ H'=>Q .non H',rt:=Q} (start ["coins","least"] vs) H:=by
 rintro vs H Q E ⟨_,x,y,rfl,hy,h⟩
 obtain⟨n1,n2,n3,n4,n5,n6,n7⟩:=Gw y hy
 unfold jb
 symm
 rcases h with⟨h1,h2,q⟩|⟨h1,q⟩
 ·refine gB (by omega) ?_
  symm
  refine gB (by omega) ?_
  symm
  exact q
 ·have fin:fq (aq K "TooMuch") E (ae (zG [(tC (.str "not from ")),(yE (af 1)),(tC (.str " to ")),(yE (tC (.int 1000000000))),(tC (.str " coins"))] QO) au) {nx:=fun _ H'=>Q .non H',rt:=Q} (start ["coins","least"] [.int x,.int y]) H:=
   ⟨_,rfl,n1,_,rfl,y,rfl,n2,_,rfl,n3,_,rfl,n4,_,rfl,n5,_,rfl,n6,_,rfl,n7,n7,(by decide:1<=Qr),q _ (ar.refl _)⟩
  refine cQ (fun _=>?_) (fun h3=>?_)
  ·symm
   exact fin
  ·symm
   refine vo (by omega) ?_
   exact fin
theorem yd(C:il K):∀vs H Q E,jv K vs H Q E->i9 K {nx:=fun _ H'=>Q .non H',rt:=Q} (start ["self","part"] vs) H:=by
 rintro vs H Q E ⟨_,c,x,fp,s,rfl,⟨dx,d1,d2,w,wt,X,rfl⟩,hl,q⟩
 unfold i9
 nofun
 symm
 refine zD X.at_ C.aQ C.cR fF ?_
 symm
 refine cq X.at_ C.aQ C.aV cv ?_
 symm
 refine xX X.p1 ?_
 rw[dh]
 symm
 exists _,_,rfl,rfl,dx,_,X.at_,(show 6<1000 by decide)
 rw[jW]
 have X1:=X.setF (a:=s.pot-x*s.ps.length) (b:=s.giv) (e:=s.spt)
 have b1:bS [c,d1,d2,w] H (upd H c (.ins (aq K "Chest") dx (iz d1 d2 w (s.pot-x*s.ps.length) s.giv s.spt))):=bS.upd X.at_ (by intro xs z;cases z) ⋯
 generalize upd H c (.ins (aq K "Chest") dx (iz d1 d2 w (s.pot-x*s.ps.length) s.giv s.spt))=H1 at *
 symm
 have hk:=dh s.ps
 refine EX (d:=d1) (kvs:=eV s.ps) (fun k hk=>⟨_,rfl,cq X1.at_ C.aQ C.aV cv hk⟩) X1.p1 (by rw[hk];exact Qt (show _<=1000 by omega) bL) (fun i=>.str (s.ps.getD i ("",0)).1) (fun i=>.int (s.ps.getD i ("",0)).2) ?_
  (fun i=>[some (.str (s.ps.getD i ("",0)).1),some (.int (s.ps.getD i ("",0)).2),some (.int x)]) (by rintro j σ' (rfl|⟨k,rfl⟩)<;>rfl) (fun i=>[.str (s.ps.getD i ("",0)).1,.int ((s.ps.getD i ("",0)).2+x)]) ?_ ?_
 ·intro i p hp
  have hi:i<s.ps.length:=by rw[<-hk];exact(Q0.mp hp).1
  rw[j3 (Qz hi)]at hp
  cases hp
  rw[QZ,Qz hi]
  exact⟨rfl,rfl⟩
 ·intro i hi H' G kk
  symm
  rename_i a H'' f s' h
  exact kk a H'' f s' h
 intro l bs H2 f2 s2 h2 pr
 rw[hk]at pr
 have X2:=X1.same s2
 symm
 have nd':((s.ps.map fun p=>(p.1,p.2+x)).map (·.1)).Nodup:=by rw[map_fst];exact X.nd
 refine⟨l,bs,eV (s.ps.map fun p=>(p.1,p.2+x)),rfl,h2,?_,?_,?_,fun d f3=>?_⟩
 ·have e:eV (s.ps.map fun p=>(p.1,p.2+x))=(QM s.ps.length).map fun i=>((.inr (s.ps.getD i ("",0)).1:Key),V.int ((s.ps.getD i ("",0)).2+x)):=by
   rw[br (fun p:Qg×Int=>((.inr p.1:Key),V.int (p.2+x))) ("",0) s.ps]
   unfold eV
   rw[QR]
   rfl
  rw[e]
  exact fG (Paired.mapP pr fun i a z=>iM.of z)
 ·unfold eV
  rw[QR]
  have:((fun p:Qg×Int=>((.inr p.1:Key),V.int p.2)))=fun p:Qg×Int=>((.inr p.1:Key),V.int p.2):=rfl
  show QK (RO (fun p:Qg×Int=>(R7 p.1:Key)) _)
  have e2:RO (fun p:Qg×Int=>(R7 p.1:Key)) (s.ps.map fun p=>(p.1,p.2+x))=((s.ps.map fun p=>(p.1,p.2+x)).map (·.1)).map R7:=by rw[QR,QR,QR];rfl
  rw[e2]
  exact Y2 _ (fun a b h z=>h (WT z)) nd'
 ·rw[dh,Qw];omega
 have s3:ar H2 (upd H2 d (.dK (eV (s.ps.map fun p=>(p.1,p.2+x))))):=ar.updN f3
 have X3:=X2.same s3
 have h3:upd H2 d (.dK (eV (s.ps.map fun p=>(p.1,p.2+x)))) d=some (.dK (eV (s.ps.map fun p=>(p.1,p.2+x)))):=ay
 generalize upd H2 d (.dK (eV (s.ps.map fun p=>(p.1,p.2+x))))=H3 at *
 symm
 refine mK X3.at_ C.aQ C.aV (show 6<1000 by decide) ?_
 rw[zH]
 have X4:=X3.setD h3 (QT (gN X2.p2 f3)) nd'
 refine q _ [c,d,d2,w] ⟨dx,d,d2,w,wt,X4,rfl⟩ (((b1.trans (bS.of s2)).trans (bS.of s3)).trans (bS.upd X3.at_ (by intro xs z;cases z) ⋯)) ?_
 intro a ha
 simp only[QI,RD,or_false]at ha
 rcases ha with rfl|rfl|rfl|rfl
 ·exact .inl ⋯
 ·exact .inr (b1.2.2 _ (s2.free f3))
 ·exact .inl ⋯
 ·exact .inl ⋯
theorem yz(C:il K):∀vs H Q E,g9 K vs H Q E->kl K E {nx:=fun _ H'=>Q .non H',rt:=Q} (start ["self","coins"] vs) H:=by
 rintro vs H Q E ⟨_,c,x,fp,s,rfl,⟨dx,d1,d2,w,wt,X,rfl⟩,hl,qn,qe⟩
 unfold kl
 nofun
 symm
 by_cases hx:x<0\/1000000000<x
 ·exact⟨rfl,x,0,rfl,.inl rfl,.inr ⟨hx,qe _ (by rw[bA.due,if_pos hx])⟩⟩
 have h0:0<=x:=by omega
 have h1:x<=1000000000:=by omega
 have q:=qn (by rw[bA.due,if_neg hx])
 refine⟨rfl,x,0,rfl,.inl rfl,.inl ⟨h0,h1,?_⟩⟩
 symm
 nofun
 symm
 refine zD X.at_ C.aQ C.km CZ ?_
 symm
 exists _,_,rfl,rfl,dx,_,X.at_,(show 6<1000 by decide)
 rw[Js]
 have X1:=X.setF (a:=s.pot) (b:=s.giv+x) (e:=s.spt)
 have b1:bS [c,d1,d2,w] H (upd H c (.ins (aq K "Chest") dx (iz d1 d2 w s.pot (s.giv+x) s.spt))):=bS.upd X.at_ (by intro xs z;cases z) ⋯
 generalize upd H c (.ins (aq K "Chest") dx (iz d1 d2 w s.pot (s.giv+x) s.spt))=H1 at *
 nofun
 symm
 refine zD X1.at_ C.aQ C.cR fF ?_
 symm
 exists _,_,rfl,rfl,dx,_,X1.at_,(show 6<1000 by decide)
 rw[jW]
 have X2:=X1.setF (a:=s.pot+x) (b:=s.giv+x) (e:=s.spt)
 have b2:bS [c,d1,d2,w] H1 (upd H1 c (.ins (aq K "Chest") dx (iz d1 d2 w (s.pot+x) (s.giv+x) s.spt))):=bS.upd X1.at_ (by intro xs z;cases z) ⋯
 generalize upd H1 c (.ins (aq K "Chest") dx (iz d1 d2 w (s.pot+x) (s.giv+x) s.spt))=H2 at *
 symm
 refine cq X2.at_ C.aQ C.aV cv ?_
 exists d1,_,rfl,X2.p1
 by_cases hp:s.ps=[]
 ·have e:(!(eV s.ps).isEmpty)=false:=by rw[hp];rfl
  rw[show(!List.isEmpty (eV (aL.mk s.ps s.cs s.ws (s.pot+x) (s.giv+x) s.spt).ps))=false from e]
  symm
  have hS:uq s x=⟨s.ps,s.cs,s.ws,s.pot+x,s.giv+x,s.spt⟩:=by unfold uq;rw[if_pos hp]
  exact q H2 _ (by rw[hS];exact⟨dx,d1,d2,w,wt,X2,rfl⟩) (b1.trans b2) fL.refl
 ·have hpos:0<s.ps.length:=UB.mpr hp
  have e:(!(eV s.ps).isEmpty)=true:=by
   cases hh:s.ps with
   |nil=>exact absurd hh hp
   |cons=>rfl
  rw[show(!List.isEmpty (eV (aL.mk s.ps s.cs s.ws (s.pot+x) (s.giv+x) s.spt).ps))=true from e]
  symm
  refine bJ X2.at_ (cn nofun) ?_
  symm
  refine cq X2.at_ C.aQ C.cR fF ?_
  symm
  refine cq X2.at_ C.aQ C.aV cv ?_
  symm
  refine xX X2.p1 ?_
  rw[dh]
  have e3:(aL.mk s.ps s.cs s.ws (s.pot+x) (s.giv+x) s.spt).ps.length=s.ps.length:=rfl
  refine LZ (by rw[e3];omega) (by rw[e3];omega) ?_
  symm
  have hS:uq s x=vI ⟨s.ps,s.cs,s.ws,s.pot+x,s.giv+x,s.spt⟩ ((s.pot+x)/(s.ps.length:Int)):=by unfold uq;rw[if_neg hp]
  refine⟨rfl,c,_,[c,d1,d2,w],⟨s.ps,s.cs,s.ws,s.pot+x,s.giv+x,s.spt⟩,rfl,⟨dx,d1,d2,w,wt,X2,rfl⟩,hl,fun H3 fp3 x3 b3 n3=>?_⟩
  symm
  exact q H3 fp3 (by rw[hS];exact x3) ((b1.trans b2).trans b3) (fL.refl.trans n3 (b1.trans b2))
theorem AL:∀vs H Q E,mB K vs H Q E->lL K {nx:=fun _ H'=>Q .non H',rt:=Q} (start ["word"] vs) H:=by
 rintro vs H Q E ⟨_,z,rfl,ha,hz,q⟩
 have hl:=bE z
 have hsz:z.cps.size=z.length:=rfl
 unfold lL
 nofun
 symm
 refine cQ (fun h0=>?_) (fun h0=>?_)
 ·symm
  have e:iJ z=decide (z=("0":Qg)):=by
   unfold iJ HU
   rw[if_pos h0,An,RF,decide_eq_true_eq,decide_eq_true_eq,eD]
  rw[<-e]
  exact q H (ar.refl _)
 have e:iJ z=((decide (1<=z.length)&&decide (z.length<=13))&&z.cps.toList.all kU):=by
  unfold iJ HU
  rw[if_neg h0,hl]
 walk_at "v"
 refine cQ (fun h1=>?_) (fun h1=>?_)
 ·symm
  refine cQ (fun h2=>?_) (fun h2=>?_)
  ·symm
   exists z,rfl,ha
   refine b7 (Gg (x:=z) 0) (fun j=>[some (.str ⟨#[z.cps.getD j 0]⟩)]) (by rintro j σ' (rfl|⟨k,rfl⟩)<;>rfl) (fun _ _=>trivial) (Qt (show _<=1000 by omega) bL) (fun j=>.bl (kU (z.cps.getD j 0))) ?_ ?_
   ·intro j hj H' F s kk
    symm
    rw[LU]
    exact kk H' (ar.refl _)
   intro l1 H1 f1 s1 h1
   have e1:(QM z.cps.size).map (fun j=>V.bl (kU (z.cps.getD j 0)))=(z.cps.toList.map kU).map V.bl:=by
    rw[QR]
    have:=br (fun c=>V.bl (kU c)) 0 z.cps.toList
    rw[hl]at this
    rw[hsz]
    refine Uw ?_ this
    refine Tc fun j hj=>?_
    simp[YD,QZ]
   rw[e1]at h1
   have q1:bo K H1 l1 ((z.cps.toList.map kU).map V.bl):=bo.of h1
   symm
   have e2:(z.cps.toList.map kU).all id=iJ z:=by
    rw[e,Ul,decide_eq_true (by omega),decide_eq_true (by omega)]
    rfl
   rw[e2]
   exact q H1 s1
  ·symm
   rw[decide_eq_false (show ¬z.length<=13 by omega),V4,TB]at e
   rw[<-e]
   exact q H (ar.refl _)
 ·symm
  rw[decide_eq_false (show ¬1<=z.length by omega),TB,TB]at e
  rw[<-e]
  exact q H (ar.refl _)
theorem vZ:∀vs H Q E,gk K vs H Q E->jr K E {nx:=fun _ H'=>Q .non H',rt:=Q} (start ["word"] vs) H:=by
 rintro vs H Q E ⟨_,z,rfl,ha,hz,qn,qe⟩
 have hsz:=size_eq
 have hrp:=repr_fits ha hz
 unfold jr
 nofun
 symm
 refine⟨rfl,z,rfl,ha,hz,fun H1 s1=>?_⟩
 symm
 cases hn:iJ z
 ·symm
  have n1:(QO++("no number: ":Qg)).length=11:=nofun
  have n2:(QO++("no number: ":Qg)++UI z).length<=Qr:=by
   rw[QQ]
   omega
  exact⟨_,rfl,by omega,_,rfl,z,rfl,by omega,_,rfl,n2,n2,(by decide:1<=Qr),qe hn _ s1⟩
 ·obtain⟨n,h0,h1,h2,h3,h4⟩:=rf hn
  symm
  exact⟨z,n,rfl,h2,by omega,qn hn n H1 h0 h1 h3 s1⟩
theorem Fw:∀vs H Q E,ql K vs H Q E->qE K E {nx:=fun _ H'=>Q .non H',rt:=Q} (start ["chest","deed","word"] vs) H:=by
 rintro vs H Q E ⟨_,c,w,a,fp,s,rfl,CH,G,tw,ta,q⟩
 obtain⟨dx,d1,d2,wl,wt,X,efp⟩:=id CH
 have hwl:=G.g.wl
 unfold qE
 unfold act2 at q
 nofun
 symm
 refine cQ (fun h=>?_) (fun h=>?_)
 ·rw[if_pos h]at q
  symm
  refine bJ X.at_ (cn nofun) ?_
  symm
  refine⟨rfl,c,a,fp,s,rfl,CH,ta,fun hin=>?_,fun hin=>?_⟩
  ·rw[if_pos hin]at q
   symm
   have hb:=G.g.p0 _ (qv hin)
   exact iq (ka hb.1 hb.2).log (q H (ar.refl _))
  ·rw[if_neg hin]at q
   exact q
 rw[if_neg h]at q
 symm
 nofun
 symm
 refine cQ (fun h=>?_) (fun h=>?_)
 ·rw[if_pos h]at q
  symm
  refine bJ X.at_ (cn nofun) ?_
  symm
  refine⟨rfl,c,a,fp,s,rfl,CH,ta,fun hd H2 fp2 x2 b2 n2=>?_,q.2⟩
  symm
  exact q.1 hd H2 fp2 x2 b2 n2
 rw[if_neg h]at q
 symm
 refine cQ (fun h=>?_) (fun h=>?_)
 ·rw[if_pos h]at q
  symm
  refine bJ X.at_ (cn nofun) ?_
  symm
  refine⟨rfl,c,a,fp,s,rfl,CH,ta,by omega,fun hd H2 fp2 x2 b2 n2=>?_,q.2⟩
  symm
  exact q.1 hd H2 fp2 x2 b2 n2
 rw[if_neg h]at q
 symm
 refine cQ (fun h=>?_) (fun h=>?_)
 ·rw[if_pos h]at q
  symm
  refine bJ X.at_ (cn nofun) ?_
  symm
  refine⟨rfl,a,rfl,ta.1,Qt ta.2 (by decide),fun hn n H1 n0 nl hz s1=>?_,fun hn H1 s1=>?_⟩
  ·rw[if_pos hn]at q
   have en:yP a=n:=by
    obtain⟨m,m0,_,m1,m2,_⟩:=rf hn
    have:yP a=m:=by unfold yP;rw[m1];rfl
    rw[this]
    exact Eg m0 n0 (m2.trans hz.symm)
   rw[en]at q
   symm
   refine⟨rfl,c,n,fp,s,rfl,CH.same s1,G.g.v20,fun hd H2 fp2 x2 b2 n2=>?_,fun cl hd H2 s2=>q.2 cl hd H2 (s1.trans s2)⟩
   symm
   exact q.1 hd H2 fp2 x2 ((bS.of s1).trans b2) (fun y hy=>by
    rcases n2 y hy with z|z
    ·exact .inl z
    ·exact .inr (s1.free z))
  ·rw[if_neg (by rw[hn];simp)]at q
   exact q H1 s1
 rw[if_neg h]at q
 symm
 refine cQ (fun h=>?_) (fun h=>?_)
 ·rw[if_pos h]at q
  symm
  refine bJ X.at_ (cn nofun) ?_
  symm
  refine⟨rfl,c,a,fp,s,rfl,CH,by omega,fun hd H2 fp2 x2 b2 n2=>?_,fun cl hd=>⟨ta,q.2 cl hd⟩⟩
  symm
  exact q.1 hd H2 fp2 x2 b2 n2
 rw[if_neg h]at q
 symm
 obtain⟨f1,f2,f3⟩:=xv tw (a:="no row of two words: ") (n:=21) nofun (by decide)
 exact⟨_,rfl,f1,_,rfl,w,rfl,f2,_,rfl,f3,f3,(by decide:1<=Qr),q _ (ar.refl _)⟩
theorem tQ(C:il K):∀vs H Q E,eL K vs H Q E->gR K E {nx:=fun _ H'=>Q .non H',rt:=Q} (start ["self","work","cost"] vs) H:=by
 rintro vs H Q E ⟨_,c,n,x,fp,s,rfl,⟨dx,d1,d2,w,wt,X,rfl⟩,hz,qn,qe⟩
 unfold gR
 nofun
 symm
 refine cq X.at_ C.aQ C.bW dU ?_
 symm
 by_cases hn:dE n=true
 ·by_cases hm:n∈s.cs.map (·.1)
  ·exact⟨rfl,n,d2,_,rfl,X.p2,hz,.inr (.inr ⟨hn,DD X.nd2 hm,qe _ (by rw[bA.due,if_neg (by rw[hn];simp),if_pos hm])⟩)⟩
  refine⟨rfl,n,d2,_,rfl,X.p2,hz,.inl ⟨hn,oZ hm,fun H1 s1=>?_⟩⟩
  have x1:=X.same s1
  symm
  nofun
  symm
  by_cases hx:x<1\/1000000000<x
  ·exact⟨rfl,x,1,rfl,.inr rfl,.inr ⟨hx,fun H' s'=>qe _ (by rw[bA.due,if_neg (by rw[hn];simp),if_neg hm,if_pos hx]) H' (s1.trans s')⟩⟩
  refine⟨rfl,x,1,rfl,.inr rfl,.inl ⟨by omega,by omega,?_⟩⟩
  symm
  nofun
  symm
  refine cq x1.at_ C.aQ C.bW dU ?_
  symm
  by_cases hl:12<=s.cs.length
  ·exact⟨rfl,d2,_,12,rfl,x1.p2,.inl rfl,.inr ⟨by rw[dh];omega,fun H' s'=>qe _ (by rw[bA.due,if_neg (by rw[hn];simp),if_neg hm,if_neg hx,if_pos hl]) H' (s1.trans s')⟩⟩
  refine⟨rfl,d2,_,12,rfl,x1.p2,.inl rfl,.inl ⟨by rw[dh];omega,?_⟩⟩
  symm
  refine cq x1.at_ C.aQ C.bW dU ?_
  symm
  refine Ji x1.p2 (by rw[dh];exact Q4 (show _<1000 by omega) bL) ?_
  rw[F5 hm]
  refine qn (by rw[bA.due,if_neg (by rw[hn];simp),if_neg hm,if_neg hx,if_neg hl]) _ [c,d1,d2,w] ⟨dx,d1,d2,w,wt,x1.setC (cs:=s.cs++[(n,x)]) ?_,rfl⟩ ((bS.of s1).trans (bS.upd x1.p2 (by intro xs z;cases z) ⋯)) fL.refl
  rw[R4]
  exact vE X.nd2 hm
 ·have hn:dE n=false:=by simpa using hn
  exact⟨rfl,n,d2,_,rfl,X.p2,hz,.inr (.inl ⟨hn,qe _ (by rw[bA.due,if_pos hn])⟩)⟩
theorem yR(C:il K):∀vs H Q E,ia K vs H Q E->j8 K E {nx:=fun _ H'=>Q .non H',rt:=Q} (start ["self","voter","work"] vs) H:=by
 rintro vs H Q E ⟨_,c,v,n,fp,s,rfl,⟨dx,d1,d2,w,wt,X,rfl⟩,hz1,hz2,ha,hl,qn,qe⟩
 have hwl:s.ws.length=wt.length:=QU X.wt
 unfold j8
 nofun
 symm
 refine bJ X.at_ (cn nofun) ?_
 symm
 by_cases hv:v∈s.ps.map (·.1)
 rotate_left
 ·exact⟨rfl,c,v,_,s,rfl,⟨dx,d1,d2,w,wt,X,rfl⟩,.inr ⟨hv,hz1,qe _ (by rw[bA.due,if_neg hv])⟩⟩
 have a1:=hz1.1
 have a2:=hz2.1
 refine⟨rfl,c,v,_,s,rfl,⟨dx,d1,d2,w,wt,X,rfl⟩,.inl ⟨hv,?_⟩⟩
 symm
 nofun
 symm
 refine bJ X.at_ (cn nofun) ?_
 symm
 by_cases hn:n∈s.cs.map (·.1)
 rotate_left
 ·exact⟨rfl,c,n,_,s,rfl,⟨dx,d1,d2,w,wt,X,rfl⟩,.inr ⟨hn,hz2,qe _ (by rw[bA.due,if_pos hv,if_neg hn])⟩⟩
 have q:=qn (by rw[bA.due,if_pos hv,if_pos hn])
 refine⟨rfl,c,n,_,s,rfl,⟨dx,d1,d2,w,wt,X,rfl⟩,.inl ⟨hn,?_⟩⟩
 symm
 rename_i t H1 f1 s1 h1
 have X1:=X.same s1
 refine cq X1.at_ C.aQ C.cc gX ?_
 refine D5 (p:=(v,n)) h1 X1.w_ X1.wt a1 a2 ha ?_
 rw[Uy]
 by_cases hin:(v,n)∈s.ws
 ·have hS:JI s v n=s:=if_pos hin
  rw[show decide ((v,n)∈s.ws)=true from decide_eq_true hin]
  symm
  exact q H1 _ (by rw[hS];exact⟨dx,d1,d2,w,wt,X1,rfl⟩) (bS.of s1) fL.refl
 ·have hS:JI s v n={s with ws:=s.ws++[(v,n)]}:=if_neg hin
  rw[show decide ((v,n)∈s.ws)=false from decide_eq_false hin]
  symm
  refine cq X1.at_ C.aQ C.cc gX ?_
  exists NU X1.w_
  symm
  rename_i t2 H2 f2 s2 h2
  have X2:=X1.same s2
  refine fI X2.w_ (by rw[Qw,<-hwl];exact Q4 (show _<1000 by omega) bL) ?_
  rw[show wt.map V.ref++[V.ref t2]=(wt++[t2]).map V.ref by simp]
  exact q _ [c,d1,d2,w] (by rw[hS];exact⟨dx,d1,d2,w,wt++[t2],X2.addW h2,rfl⟩) ((bS.of (s1.trans s2)).trans (bS.upd X2.w_ (by intro xs z;cases z) ⋯)) fL.refl
theorem vq(C:il K):∀vs H Q E,fm K vs H Q E->iw K E {nx:=fun _ H'=>Q .non H',rt:=Q} (start ["self","voter","work"] vs) H:=by
 rintro vs H Q E ⟨_,c,v,n,fp,s,rfl,⟨dx,d1,d2,w,wt,X,rfl⟩,hz1,hz2,ha,hl,qn,qe⟩
 have hwl:s.ws.length=wt.length:=QU X.wt
 unfold iw
 nofun
 symm
 refine bJ X.at_ (cn nofun) ?_
 symm
 by_cases hv:v∈s.ps.map (·.1)
 rotate_left
 ·exact⟨rfl,c,v,_,s,rfl,⟨dx,d1,d2,w,wt,X,rfl⟩,.inr ⟨hv,hz1,qe _ (by rw[bA.due,if_neg hv])⟩⟩
 have a1:=hz1.1
 have a2:=hz2.1
 refine⟨rfl,c,v,_,s,rfl,⟨dx,d1,d2,w,wt,X,rfl⟩,.inl ⟨hv,?_⟩⟩
 symm
 nofun
 symm
 refine bJ X.at_ (cn nofun) ?_
 symm
 by_cases hn:n∈s.cs.map (·.1)
 rotate_left
 ·exact⟨rfl,c,n,_,s,rfl,⟨dx,d1,d2,w,wt,X,rfl⟩,.inr ⟨hn,hz2,qe _ (by rw[bA.due,if_pos hv,if_neg hn])⟩⟩
 have q:=qn (by rw[bA.due,if_pos hv,if_pos hn])
 refine⟨rfl,c,n,_,s,rfl,⟨dx,d1,d2,w,wt,X,rfl⟩,.inl ⟨hn,?_⟩⟩
 symm
 refine cq X.at_ C.aQ C.cc gX ?_
 exists w,rfl,⟨_,bo.of X.w_⟩
 refine qP (fh (K:=K) (a:=w) (xs:=wt.map V.ref) 0) (fun i=>[some ((wt.map V.ref).getD i .non),some (.str v),some (.str n)]) (by rintro j σ' (rfl|⟨k,rfl⟩)<;>rfl) (fun H' s'=>s'.seq (bo.of X.w_)) (by rw[Qw];exact Qt (show _<=1000 by omega) bL)
  (fun i=>!decide (s.ws.getD i ("","")=(v,n))) (fun i=>(wt.map V.ref).getD i .non) ?_ ?_ ?_
 ·intro i hi H' G s' kk
  have hi:i<s.ws.length:=by rw[hwl];simpa using hi
  obtain⟨b',z1,z2⟩:=dy X.wt (Qz hi)
  have et:(wt.map V.ref).getD i .non=.ref b':=by simp[QN,z1]
  have eg:s.ws.getD i ("","")=s.ws[i]:=by rw[QZ,Qz hi];rfl
  have hai:=ha s.ws[i] (Sz hi)
  rw[et]
  rw[eg]at kk
  symm
  rename_i t H2 f2 s2 h2
  refine L2.Mr (n:=4) (d:=FT s.ws[i]) (e:=FT (v,n)) (.tup (iM.of (s2 _ _ (s' _ _ z2))) (.cons (.str _) (.cons (.str _) .nil))) (.tup (iM.of h2) (.cons (.str _) (.cons (.str _) .nil))) (Bu hai.1 hai.2) (Bu a1 a2) (by decide) ?_
  rw[JX]
  symm
  exact kk H2 s2
 ·intro i hi hb H' G s' kk
  symm
  exact kk H' (ar.refl _)
 intro l H3 f3 s3 h3
 have X3:=X.same s3
 have hp:∃bs:List Qh,H3 l=some (.lst (bs.map V.ref))/\QE (B6 H3) (s.ws.filter fun p=>!decide (p=(v,n))) bs:=by
  refine⟨((QM (wt.map V.ref).length).filter fun i=>!decide (s.ws.getD i ("","")=(v,n))).map (fun i=>wt.getD i 0),?_,?_⟩
  ·rw[h3,QR]
   congr 2
   refine Tc fun i hi=>?_
   have hi:i<wt.length:=by simpa using Ss.mp (Rb.mp hi).1
   simp[QN,hi]
  ·rw[<-lM (fun p:Qg×Qg=>!decide (p=(v,n))) ("","") s.ws,hwl,Qw]
   have go:∀is:List Nat,(∀i∈is,i<wt.length)->QE (B6 H3) (is.map fun i=>s.ws.getD i ("","")) (is.map fun i=>wt.getD i 0):=by
    intro is
    induction is with
    |nil=>exact fun _=>.nil
    |cons i r ih=>
     intro h
     have hi:=h i ⋯
     refine .cons ?_ (ih fun j hj=>h j (by simp[hj]))
     obtain⟨b',z1,z2⟩:=dy X3.wt (Qz (show i<s.ws.length by omega))
     show B6 H3 (s.ws.getD i ("","")) (wt.getD i 0)
     rw[QZ,QZ,z1,Qz (show i<s.ws.length by omega)]
     exact z2
   exact go _ fun i hi=>by simpa using Ss.mp (Rb.mp hi).1
 obtain⟨bs,h3',hp⟩:=hp
 symm
 refine mK X3.at_ C.aQ C.cc (show 6<1000 by decide) ?_
 rw[tF]
 have X4:=X3.setW h3' hp
 refine q _ [c,d1,d2,l] ⟨dx,d1,d2,l,bs,X4,rfl⟩ ((bS.of s3).trans (bS.upd X3.at_ (by intro xs z;cases z) ⋯)) ?_
 intro a ha
 simp only[QI,RD,or_false]at ha
 rcases ha with rfl|rfl|rfl|rfl
 ·exact .inl ⋯
 ·exact .inl ⋯
 ·exact .inl ⋯
 ·exact .inr f3
theorem AZ:∀vs H Q E,kZ K vs H Q E->lG K E {nx:=fun _ H'=>Q .non H',rt:=Q} (start ["chest","deed","word","last"] vs) H:=by
 rintro vs H Q E ⟨_,c,w,a,b,fp,s,rfl,CH,G,tw,ta,tb,q⟩
 obtain⟨dx,d1,d2,wl,wt,X,efp⟩:=id CH
 unfold lG
 unfold se at q
 nofun
 symm
 refine cQ (fun h=>?_) (fun h=>?_)
 ·rw[if_pos h]at q
  symm
  refine bJ X.at_ (cn nofun) ?_
  symm
  refine⟨rfl,b,rfl,tb.1,Qt tb.2 (by decide),fun hn n H1 n0 nl hz s1=>?_,fun hn H1 s1=>?_⟩
  ·rw[if_pos hn]at q
   have en:yP b=n:=by
    obtain⟨m,m0,_,m1,m2,_⟩:=rf hn
    have:yP b=m:=by unfold yP;rw[m1];rfl
    rw[this]
    exact Eg m0 n0 (m2.trans hz.symm)
   rw[en]at q
   symm
   refine⟨rfl,c,a,n,fp,s,rfl,CH.same s1,ta,fun hd H2 fp2 x2 b2 n2=>?_,fun cl hd H2 s2=>q.2 cl hd H2 (s1.trans s2)⟩
   symm
   exact q.1 hd H2 fp2 x2 ((bS.of s1).trans b2) (fun y hy=>by
    rcases n2 y hy with z|z
    ·exact .inl z
    ·exact .inr (s1.free z))
  ·rw[if_neg (by rw[hn];simp)]at q
   exact q H1 s1
 rw[if_neg h]at q
 symm
 refine cQ (fun h=>?_) (fun h=>?_)
 ·rw[if_pos h]at q
  symm
  refine bJ X.at_ (cn nofun) ?_
  symm
  refine⟨rfl,c,a,b,fp,s,rfl,CH,ta,tb,G.g.aw,G.g.wl,fun hd H2 fp2 x2 b2 n2=>?_,q.2⟩
  symm
  exact q.1 hd H2 fp2 x2 b2 n2
 rw[if_neg h]at q
 symm
 refine cQ (fun h=>?_) (fun h=>?_)
 ·rw[if_pos h]at q
  symm
  refine bJ X.at_ (cn nofun) ?_
  symm
  refine⟨rfl,c,a,b,fp,s,rfl,CH,ta,tb,G.g.aw,G.g.wl,fun hd H2 fp2 x2 b2 n2=>?_,q.2⟩
  symm
  exact q.1 hd H2 fp2 x2 b2 n2
 rw[if_neg h]at q
 symm
 obtain⟨f1,f2,f3⟩:=xv tw (a:="no row of three words: ") (n:=23) nofun (by decide)
 exact⟨_,rfl,f1,_,rfl,w,rfl,f2,_,rfl,f3,f3,(by decide:1<=Qr),q _ (ar.refl _)⟩
theorem Fx{H H1:Hp}{d dx c:Qh}{fpc:List Qh}{s:aL}{Q:VK}{E:XK}{A:Act}(hd:H d=some (.ins (aq K "Desk") dx [("chest",.ref c)]))(dn:d∉fpc)(s1:ar H H1)(cth:∀x∈fpc,H x≠none)
  (q:xG K (fun H' fp' s'=>cf K H' d fp' s') H (d::fpc) s Q E A):xG K (fun H' fp' s'=>aF K H' c fp' s') H1 fpc s Q E A:=by
 have key:∀(H':Hp)(fp':List Qh)(s':aL),aF K H' c fp' s'->bS fpc H1 H'->fL fpc fp' H1->cf K H' d (d::fp') s'/\bS (d::fpc) H H'/\fL (d::fpc) (d::fp') H:=fun H' fp' s' x b n=>by
  have b0:=(bS.of (l:=fpc) s1).trans b
  have n0:fL fpc fp' H:=fun y hy=>by
   rcases n y hy with z|z
   ·exact .inl z
   ·exact .inr (s1.free z)
  refine⟨⟨dx,c,fp',b0.1 _ _ dn hd,x,fun m=>?_,rfl⟩,b0.mono (fun y hy=>Q2 _ hy),fun y hy=>?_⟩
  ·rcases n0 d m with z|z
   ·exact dn z
   ·rw[z]at hd;cases hd
  ·rcases QI.mp hy with rfl|hy
   ·exact .inl ⋯
   ·rcases n0 y hy with z|z
    ·exact .inl (Q2 _ z)
    ·exact .inr z
 cases A with
 |deed D=>
  refine⟨fun hn H' fp' x b n=>?_,fun cl hc H' s'=>q.2 cl hc H' (s1.trans s')⟩
  obtain⟨k1,k2,k3⟩:=key H' fp' _ x b n
  exact q.1 hn H' _ k1 k2 k3
 |close=>
  intro H' fp' x b n
  obtain⟨k1,k2,k3⟩:=key H' fp' _ x b n
  exact q H' _ k1 k2 k3
 |tell t=>exact fun H' s'=>q H' (s1.trans s')
 |no cl=>exact fun H' s'=>q H' (s1.trans s')
theorem Cc(C:il K):∀vs H Q E,jS K vs H Q E->nB K E {nx:=fun _ H'=>Q .non H',rt:=Q} (start ["self","row","words"] vs) H:=by
 rintro vs H Q E ⟨_,d,row,fp,s,rfl,⟨dx,c,fpc,hd,CH,dn,rfl⟩,G,tr,q⟩
 unfold nB
 have hsp:∀p∈Q9 row " ",Tx p:=fun p hp=>⟨EG tr.1 hp,Qt (Kn hp) tr.2⟩
 have hlen:(Q9 row " ").length<=1001:=by have h1:=split_len row;have h2:=tr.2;omega
 have hsz:=size_eq
 have lkc:([("chest",V.ref c)]:List (Qg×V)).lookup ("chest":Qg)=some (.ref c):=by simp[RI]
 nofun
 symm
 refine⟨rfl,row,rfl,tr.1,Qt tr.2 (by decide),fun hne l fl=>?_,fun hin H1 s1=>?_⟩
 rotate_left
 ·unfold dZ at q
  rw[if_pos hin]at q
  exact q H1 s1
 unfold dZ at q
 rw[if_neg hne]at q
 have s1:ar H (upd H l (.lst ((Q9 row " ").map V.str))):=ar.updN fl
 have hl:(upd H l (.lst ((Q9 row " ").map V.str))) l=some (.lst ((Q9 row " ").map V.str)):=ay
 generalize upd H l (.lst ((Q9 row " ").map V.str))=H1 at *
 generalize Q9 row " "=ws at *
 have hml:(ws.map V.str).length=ws.length:=Qw _
 have go:=fun A=>Fx (A:=A) (Q:=Q) (E:=E) (s:=s) hd dn s1 (CH.there)
 have CH1:=CH.same s1
 have hd1:=s1 _ _ hd
 symm
 nofun
 symm
 rw[hml]
 refine cQ (fun h=>?_) (fun h=>?_)
 ·obtain⟨w,rfl⟩:∃w,ws=[w]:=List.length_eq_one_iff.mp (by exact_mod_cast h)
  symm
  refine cq hd1 C.B2 C.iQ lkc ?_
  symm
  refine cY (bo.of hl) (bI (j:=0) rfl) ?_
  symm
  exact⟨rfl,c,w,fpc,s,rfl,CH1,G,hsp w ⋯,go _ q⟩
 symm
 nofun
 symm
 rw[hml]
 refine cQ (fun h2=>?_) (fun h2=>?_)
 ·obtain⟨w,a,rfl⟩:∃w a,ws=[w,a]:=by
   have e:ws.length=2:=by exact_mod_cast h2
   match ws,e with
   |[w,a],_=>exact⟨w,a,rfl⟩
  symm
  refine cq hd1 C.B2 C.iQ lkc ?_
  symm
  refine cY (bo.of hl) (bI (j:=0) rfl) ?_
  symm
  refine cY (bo.of hl) (bI (j:=1) rfl) ?_
  symm
  exact⟨rfl,c,w,a,fpc,s,rfl,CH1,G,hsp w ⋯,hsp a ⋯,go _ q⟩
 symm
 nofun
 symm
 rw[hml]
 refine cQ (fun h3=>?_) (fun h3=>?_)
 ·obtain⟨w,a,b,rfl⟩:∃w a b,ws=[w,a,b]:=by
   have e:ws.length=3:=by exact_mod_cast h3
   match ws,e with
   |[w,a,b],_=>exact⟨w,a,b,rfl⟩
  symm
  refine cq hd1 C.B2 C.iQ lkc ?_
  symm
  refine cY (bo.of hl) (bI (j:=0) rfl) ?_
  symm
  refine cY (bo.of hl) (bI (j:=1) rfl) ?_
  symm
  refine cY (bo.of hl) (bI (j:=2) rfl) ?_
  symm
  exact⟨rfl,c,w,a,b,fpc,s,rfl,CH1,G,hsp w ⋯,hsp a ⋯,hsp b ⋯,go _ q⟩
 symm
 have qn:cG K H E "NoRow":=by
  match ws,q,h,h2,h3 with
  |[],q,_,_,_=>exact q
  |[_],_,h,_,_=>exact absurd rfl h
  |[_,_],_,_,h2,_=>exact absurd rfl h2
  |[_,_,_],_,_,_,h3=>exact absurd rfl h3
  |_::_::_::_::_,q,_,_,_=>exact q
 obtain⟨f1,f2,f3⟩:=xv tr (a:="too many words: ") (n:=16) nofun (by decide)
 exact⟨_,rfl,f1,_,rfl,row,rfl,f2,_,rfl,f3,f3,(by decide:1<=Qr),qn _ s1⟩
theorem AV(F:il K):∀vs H Q E,cj K vs H Q E->mv K {nx:=fun _ H'=>Q .non H',rt:=Q} (start ["desk","row","caught","answer","e"] vs) H:=by
 rintro vs H Q E ⟨_,d,row,fp,s,rfl,DA,G,tr,q⟩
 unfold mv
 nofun
 symm
 nofun
 symm
 nofun
 obtain⟨dx,c,fpc,hd,ch,nd,efp⟩:=id DA
 show bP (aq K "Desk") "say" (jS K) [] _ _ _ _ _ _
 symm
 refine bJ hd (by rw[RI,show(("say":Qg)=="chest")=false by decide +kernel];rfl) ?_
 symm
 refine⟨rfl,d,row,fp,s,rfl,DA,G,tr,J9 (fun H' s'=>DA.same s') (fun H1 fp1 t a b w e=>?_) fun cl e H1 s1=>?_⟩
 ·with_reducible refine CU ?_
  symm
  refine vo rfl ?_
  symm
  exact q _ H1 fp1 a b w (by rw[e];rfl) fun l e=>nomatch e
 have C:=F.fact (FY e)
 have hnx:kD s (dZ s row)=s:=by
  cases ea:dZ s row with
  |deed D=>
   rw[ea]at e
   simp only[iL,kD]at e ⊢
   cases hd:D.due s with
   |none=>rw[hd]at e;cases e
   |some _=>rfl
  |close=>rw[ea]at e;cases e
  |tell t=>rfl
  |no c=>rfl
 rw[hnx,e]at q
 refine⟨C.m,fun x oe he h1 h2 h3=>?_⟩
 have sx:ar H1 (upd H1 x (.frz oe (.own x))):=ar.updN he
 have hx:ExcAt (upd H1 x (.frz oe (.own x))) x (aq K cl):=⟨oe,ay,h1,h2,h3⟩
 generalize upd H1 x (.frz oe (.own x))=H2 at *
 symm
 nofun
 symm
 refine gB (by intro z;cases z) ?_
 symm
 refine⟨rfl,x,cl,rfl,hx,FY e,fun l7 H7 f7 s7 h7=>?_⟩
 have sa:=s1.trans (sx.trans s7)
 have f0:=s1.free (sx.free f7)
 exact q _ H7 fp (DA.same sa) (bS.of sa) fL.refl ⟨l7,rfl,f0,h7⟩ fun l e hl=>DA.there l hl (by cases e;exact f0)
theorem Bi(a:Qg):QO++a=a:=eD.mpr (by rw[c6];rfl)
theorem wY:∀vs H Q E,gf K vs H Q E->jJ K {nx:=fun _ H'=>Q .non H',rt:=Q} (start ["chest","told","grains","parts","work","cost","rows"] vs) H:=by
 rintro vs H Q E ⟨_,c,fp,s,rfl,CH,G,q⟩
 obtain⟨dx,d1,d2,w,wt,X,efp⟩:=id CH
 have hsz:=size_eq
 obtain⟨ec,es,e1,e2,eo,ep,em,e0⟩:=dQ
 unfold jJ
 with_reducible refine rQ (fun σ H'=>∃l us rows g fp1,bS fp H H'/\fL fp fp1 H/\aF K H' c fp1 (fS s)/\jR rows g=eU s/\rows.length<=12/\Nb g/\(∀r∈rows,Sm r.1/\Nb r.2.1/\r.2.2.length<=20/\∀p∈r.2.2,Sm p.1/\Nb p.2)/\(∀r∈rows,aT r.1/\∀p∈r.2.2,aT p.1)/\mH H' l us rows/\σ=[some (.ref c),some (.ref l),some (.int g),none,none,none,none]) (fun F hF=>?_) ?_
 ·symm
  refine bJ X.at_ (cn nofun) ?_
  symm
  refine⟨rfl,c,fp,s,rfl,CH,G.g,fun hno t l H1 ft fl tl s1 ht hl=>?_,fun hp hc run t l ts H1 fp1 rx b1 n1 c1 ft fl lf ht hl nr=>?_⟩
  ·have e1:fS s=s:=if_pos hno
   have e2:eU s="none":=if_pos hno
   refine⟨t,_,rfl,iM.of ht,rfl,_,_,rfl,_,_,rfl,rfl,hF _ _ ⟨l,[],[],1,fp,bS.of s1,fL.refl,by rw[e1];exact CH.same s1,by rw[e2];exact if_pos rfl,Rm _,ka (by decide) (by decide),(fun r hr=>nomatch hr),(fun r hr=>nomatch hr),⟨hl,.nil⟩,rfl⟩⟩
  ·have hno:¬(s.ps=[]\/s.cs=[]):=fun z=>by rcases z with z|z;exact hp z;exact hc z
   have er:=si rx
   have e1:fS s=d5 s run:=by rw[<-er];exact if_neg hno
   have e2:eU s=jR ((aX (bq s) (aP s) run).map (bT s)) (fE s):=by
    rw[<-er];exact if_neg hno
   have hrb:=gS rx
   exact⟨t,_,rfl,iM.of ht,rfl,_,_,rfl,_,_,rfl,rfl,hF _ _ ⟨l,ts,_,_,fp1,b1,n1,by rw[e1];exact c1,e2.symm,by rw[Qw];exact Qt hrb.1 G.g.n12,LY G.g,BZ G rx,wZ G.g (fun x hx=>(hrb.2 x hx).1),hl,rfl⟩⟩
 rintro σ H1 ⟨l,us,rows,g,fp1,b1,n1,c1,ecl,hr12,hg,hrs,has,tl,rfl⟩
 rw[<-ecl]at q
 obtain⟨ra,hra⟩:=Ez tl
 have hvl:rows.length=us.length:=QU tl.2
 nofun
 symm
 rename_i lp H2 f2 s2 h2
 have fp0:H lp=none:=b1.2.2 _ f2
 have v1:=s2 _ _ tl.1
 have hll:l≠lp:=fun e=>by rw[<-e,tl.1]at f2;cases f2
 have hrl:∀i t,us[i]?=some t->ra.getD i 0≠lp:=fun i t ht e=>by
  obtain⟨_,us',z1,_⟩:=hra i t ht
  rw[e,f2]at z1;cases z1
 nofun
 symm
 try refine cV (bo.of v1) ?_
 refine oa (ik (K:=K) (a:=l) (ts:=us) (u:=fun i=>.str (rows.getD i zY).1) (v:=fun i=>.int (rows.getD i zY).2.1) (w:=fun i=>.ref (ra.getD i 0)) 4 5 6) (fun i σ H'=>bS [lp] H2 H'/\H' lp=some (.lst (((rows.take i).map dX).map V.str))/\∃v4 v5 v6,σ=[some (.ref c),some (.ref l),some (.int g),some (.ref lp),v4,v5,v6]) ⟨bS.of (ar.refl _),h2,_,_,_,rfl⟩ (fun i σ H' h=>⟨bo.of (h.1.1 _ _ (by simpa using hll) v1),fun j b hb=>iM.of (h.1.2.1 _ _ (s2 _ _ (hra j b hb).1))⟩) ?_ ?_
 ·rintro i σ Ha Hb hi ⟨ba,hp,v4,v5,v6,rfl⟩ sb
  have hi':i<rows.length:=by omega
  have ht:=Qz hi
  obtain⟨_,us2,y1,y2⟩:=hra i _ ht
  obtain⟨b1',b2,b3,b4⟩:=hrs _ (getD_mem (xs:=rows) zY hi')
  have kR:ij Hb (ra.getD i 0) (rows.getD i zY).2.2:=(ij.but (ba) (ij.same ⟨us2,y1,y2⟩ s2) (by simpa using hrl i _ ht)).same sb
  have etk:(rows.take (i+1)).map dX=(rows.take i).map dX++[dX (rows.getD i zY)]:=by
   rw[XM,Qz hi',QZ,Qz hi',R4]
   rfl
  have dl:=o3 b1' b2 b3 b4
  have pl:=sM b3 b4
  have ed:dX (rows.getD i zY)=(rows.getD i zY).1++" "++iT (rows.getD i zY).2.1++": "++zX (rows.getD i zY).2.2:=by unfold dX;rw[Bi]
  rw[ed]at etk
  generalize rows.getD i zY=r at *
  generalize ra.getD i 0=rl at *
  obtain⟨ts,w1,w2⟩:=kR
  have hwl:r.2.2.length=ts.length:=QU w2
  have hlx:r.1.length<=8:=b1'
  have hln:=b2.len
  have hpb:=sb _ _ hp
  show cZ _ _ _ _
  symm
  exists NU hpb
  symm
  refine iq b2.log ?_
  show cL _ (.str (iT r.2.1)) _ _
  refine dg (by rw[QQ];omega) ?_
  symm
  refine dg (by simp only[QQ];omega) ?_
  symm
  try refine cV (bo.of w1) ?_
  refine b7 (js (K:=K) (a:=rl) (ts:=ts) (u:=fun i=>.str (r.2.2.getD i ("",0)).1) (v:=fun i=>.int (r.2.2.getD i ("",0)).2) 0 1) (fun i=>[some (.str (r.2.2.getD i ("",0)).1),some (.int (r.2.2.getD i ("",0)).2)]) (by rintro j σ' (rfl|⟨k,rfl⟩)<;>rfl) ?_ (Qt (show _<=1000 by omega) bL)
    (fun i=>.str (oP (r.2.2.getD i ("",0)))) ?_ ?_
  ·intro H' s'
   refine⟨s'.seq (bo.of w1),fun i b hb=>?_⟩
   have hi:i<r.2.2.length:=by rw[hwl];exact(Q0.mp hb).1
   obtain⟨b',z1,z2⟩:=dy w2 (Qz hi)
   rw[hb]at z1
   cases z1
   rw[QZ,Qz hi]
   exact s'.seqT (iM.of z2)
  ·intro i hi H' G s' kk
   have hm:=getD_mem (xs:=r.2.2) ("",0) (show i<r.2.2.length by omega)
   have hb:=b4 _ hm
   have hln:=hb.2.len
   have hlx:(r.2.2.getD i ("",0)).1.length<=8:=hb.1
   have er:oP (r.2.2.getD i ("",0))=(r.2.2.getD i ("",0)).1++" "++iT (r.2.2.getD i ("",0)).2:=by unfold oP;rw[Bi]
   rw[er]at kk
   symm
   refine iq hb.2.log ?_
   show cL _ (.str (iT (r.2.2.getD i ("",0)).2)) _ _
   refine dg (by rw[QQ];omega) ?_
   exact kk H' (ar.refl _)
  intro l7 H7 f7 s7 h7
  rw[<-hwl,br (fun p:Qg×Int=>V.str (oP p)) ("",0) r.2.2,show r.2.2.map (fun p=>V.str (oP p))=(r.2.2.map oP).map V.str by rw[QR];rfl]at h7
  symm
  refine ky 609 (bo.of h7) (fun x hx=>?_) ?_ ?_
  ·obtain⟨p,hp,rfl⟩:=Qu.mp hx
   exact sm (b4 p hp).1 (b4 p hp).2
  ·rw[Qw,ec]
   have:r.2.2.length*(609+2)<=20*611:=RY _ b3
   omega
  show cL _ (.str (zX r.2.2)) _ _
  refine dg (by simp only[QQ];omega) ?_
  symm
  have hp7:=s7 _ _ hpb
  refine fI hp7 (by rw[Qw,Qw,Rw];exact Q4 (show _<1000 by omega) bL) ?_
  refine⟨(ba.trans (bS.of (sb.trans s7))).trans (bS.upd hp7 (fun _=>by intro z;cases z) ⋯),?_,_,_,_,rfl⟩
  rw[ay,etk];simp
 rintro σ Hc ⟨bc,hp,v4,v5,v6,rfl⟩
 rw[<-hvl,Ur]at hp
 have n1':lp∉fp1:=fun z=>c1.there _ z f2
 have cC:aF K Hc c fp1 (fS s):=(c1.same s2).but bc fun a ha=>by
  have:a≠lp:=fun e=>n1' (e▸ha)
  simpa using this
 have bC:bS fp H Hc:=bS.ext (b1.trans (bS.of s2)) bc fun a ha=>by rw[Q8.mp ha];exact fp0
 have fin:∀H',ar Hc H'->Q (.str (jR rows g)) H':=fun H' s'=>q H' fp1 (cC.same s') (bC.trans (bS.of s')) n1
 nofun
 symm
 rename_i l4 H4 f4 s4 h4
 by_cases hn:rows=[]
 ·subst hn
  refine nS (d:=.list []) (.lst (bo.of (s4 _ _ hp)) .nil) (.lst (bo.of h4) .nil) (by decide) ?_
  symm
  have:=fin H4 s4
  rwa [show jR [] g="none" from if_pos rfl]at this
 ·refine D9 (d:=.list ((rows.map dX).map SQ)) (e:=.list []) (n:=1) (.lst (bo.of (s4 _ _ hp)) (r9 _)) (.lst (bo.of h4) .nil) (Au _ fun x hx=>?_) (so fun d hd=>nomatch hd) (by decide) ?_
  ·obtain⟨r,hr,rfl⟩:=Qu.mp hx
   obtain⟨a0,a1,a2,a3,a4,_⟩:=nG
   refine bg (bg (bg (bg (bg a0 (has r hr).1) a1) (fY (hrs r hr).2.1.1)) a4) (fw a2 fun x hx=>?_)
   obtain⟨p,hp,rfl⟩:=Qu.mp hx
   exact wV ((has r hr).2 p hp) ((hrs r hr).2.2.2 p hp).2.1
  rw[show S9 (.list ((rows.map dX).map SQ)) (.list [])=false by
   cases rows with
   |nil=>exact absurd rfl hn
   |cons r t=>simp[S9,Wq]]
  have dx:∀x∈rows.map dX,x.length<=12840:=fun x hx=>by
   obtain⟨r,hr,rfl⟩:=Qu.mp hx
   obtain⟨z1,z2,z3,z4⟩:=hrs r hr
   exact o3 z1 z2 z3 z4
  have hb12:(rows.map dX).length*(12840+("; ":Qg).length)<=12*12842:=by rw[Qw,es];exact RY _ hr12
  have jl:=gy (sep:="; ") (m:=12840) (xs:=rows.map dX) dx
  have gl:=hg.len
  symm
  refine ky 12840 (bo.of (s4 _ _ hp)) dx (by omega) ?_
  symm
  refine iq hg.log ?_
  show cL _ (.str (iT g)) _ _
  refine dg (by rw[QQ];omega) ?_
  have:=fin H4 s4
  rwa [show jR rows g=QO++Q3 "; " (rows.map dX)++" of "++iT g from if_neg hn,Bi]at this
theorem join_ones:∀(cs:List Nat),(Q3 ("":Qg) (cs.map fun c=>⟨#[c]⟩)).cps.toList=cs:=by
 rw[LI]
 intro cs
 induction cs with
 |nil=>rfl
 |cons a r ih=>
  cases r with
  |nil=>rfl
  |cons b t=>
   show(((⟨#[a]⟩:Qg)++(⟨#[]⟩:Qg)++Q3 ⟨#[]⟩ ((b::t).map fun c=>(⟨#[c]⟩:Qg))).cps).toList=_
   rw[UN,UN,YO,YO,ih]
   simp
theorem AK:∀vs H Q E,bN K vs H Q E->kX K {nx:=fun _ H'=>Q .non H',rt:=Q} (start ["cell","k","letters","xs","word","at"] vs) H:=by
 rintro vs H Q E ⟨_,c,k,rfl,hk,q⟩
 have hL:("abcdefghijklmnopqrstuvwxyz":Qg).length=26:=nofun
 have hla:=NC
 unfold kX
 nofun
 symm
 generalize ("abcdefghijklmnopqrstuvwxyz":Qg)=letters at *
 have hix:∀(x:Int)(H':Hp)(Q':VK),Q' (.str ⟨#[qI x]⟩) H'->yM (.str letters) (.int (x%26)) H' Q':=fun x H' Q' z=>⟨letters,_,qI x,rfl,rfl,by rw[size_eq];omega,hla x,z⟩
 nofun
 symm
 refine⟨rfl,c,9,rfl,by decide,fun l H1 f1 s1 h1=>?_⟩
 have q1:bo K H1 l ((gF c 9).map V.int):=bo.of h1
 symm
 nofun
 symm
 rename_i p2 H2 f2 s2 h2
 have e2:sY ((gF c 9).map V.int) none (some 7)=((QM 7).map (eM c)).map V.int:=by
  have:sY ((gF c 9).map V.int) none (some ((7:Nat):Int))=((gF c 9).take 7).map V.int:=Iv _ _
  refine Uw this ?_
  congr 1
 rw[e2]at h2
 have q2:bo K H2 p2 (((QM 7).map (eM c)).map V.int):=bo.of h2
 refine b7 (fh (K:=K) (xs:=((QM 7).map (eM c)).map V.int) 0) (fun j=>[some ((((QM 7).map (eM c)).map V.int).getD j .non),some (.str letters)]) (by rintro j σ' (rfl|⟨k,rfl⟩)<;>rfl) (fun H' s=>s.seq q2) (by exact Qt (show 7<=1000 by decide) bL) (fun j=>.str ⟨#[qI (eM c j)]⟩) ?_ ?_
 ·intro j hj H' F s kk
  have hj:j<7:=by simpa using hj
  have et:(((QM 7).map (eM c)).map V.int).getD j .non=.int (eM c j):=by simp[QN,hj]
  rw[et]
  symm
  exact hix _ _ _ (kk H' (ar.refl _))
 intro l3 H3 f3 s3 h3
 have e3:(QM (((QM 7).map (eM c)).map V.int).length).map (fun j=>V.str ⟨#[qI (eM c j)]⟩)=((wl c).map fun c=>(⟨#[c]⟩:Qg)).map V.str:=by
  rw[Qw,Qw,Uz]
  unfold wl
  rw[QR,QR]
  rfl
 rw[e3]at h3
 have s23:=s2.trans s3
 have q3:bo K H3 l ((gF c 9).map V.int):=s23.seq q1
 symm
 have hone:∀x∈(wl c).map fun c=>(⟨#[c]⟩:Qg),x.length<=1:=fun x hx=>by
  obtain⟨j,_,rfl⟩:=Qu.mp hx
  exact QC 1
 have hz:("":Qg).length=0:=nofun
 refine ky 1 (bo.of h3) hone (by rw[Qw,qX,hz];decide) ?_
 have hw:=join_ones (wl c)
 have hwl:=bE (Q3 ("":Qg) ((wl c).map fun c=>(⟨#[c]⟩:Qg)))
 rw[hw,qX]at hwl
 generalize Q3 ("":Qg) ((wl c).map fun c=>(⟨#[c]⟩:Qg))=word at *
 have g7:BF ((gF c 9).map V.int) 7=some (.int (eM c 7)):=bI (j:=7) (vW (by decide))
 have g8:BF ((gF c 9).map V.int) 8=some (.int (eM c 8)):=bI (j:=8) (vW (by decide))
 have s03:=s1.trans s23
 have fin:∀z:Qg,z.cps.toList=pT c k->Q (.str z) H3:=fun z hz=>by
  have:z=cU c k:=eD.mpr (by rw[hz,qp])
  rw[this]
  exact q H3 s03
 have hk8:(k:Int)%8=((k%8:Nat):Int):=by omega
 have hd8:(k:Int)/8=((k/8:Nat):Int):=by omega
 symm
 nofun
 symm
 refine cY q3 g8 ?_
 symm
 refine cQ (fun h0=>?_) (fun h0=>?_)
 ·symm
  refine cY q3 g7 ?_
  symm
  refine hix _ _ _ ?_
  symm
  rw[hk8,hd8]
  have hs:=rm (z:=word) (b:=k%8) (by omega)
  have hsl:=bE (Ra word none (some ((k%8:Nat):Int)))
  rw[hs,Rw,hw,qX]at hsl
  refine dg (by rw[A0];omega) ?_
  refine fin _ ?_
  rw[c6,hs,hw]
  unfold pT
  rw[if_pos h0]
  rfl
 symm
 nofun
 symm
 refine cY q3 g8 ?_
 symm
 refine cQ (fun h1'=>?_) (fun h1'=>?_)
 ·symm
  refine cY q3 g7 ?_
  symm
  refine hix _ _ _ ?_
  have e7:(7:Int)-(k:Int)%8=((7-k%8:Nat):Int):=by omega
  rw[e7,hd8]
  have hs:=qW (z:=word) (a:=7-k%8) (by omega)
  have hsl:=bE (Ra word (some ((7-k%8:Nat):Int)) none)
  rw[hs,SE,hw,qX]at hsl
  refine dg (by rw[A0];omega) ?_
  refine fin _ ?_
  rw[c6,hs,hw]
  unfold pT
  rw[if_neg h0,if_pos h1']
 symm
 nofun
 symm
 refine cY q3 g8 ?_
 symm
 obtain⟨n,hn,hn8⟩:∃n:Nat,eM c 8/4%8=(n:Int)/\n<8:=⟨(eM c 8/4%8).toNat,by omega,by omega⟩
 have e3:Mj c=(wl c).take n:=by unfold Mj;rw[hn];rfl
 rw[hn]
 have hs:=rm (z:=word) (b:=n) (by omega)
 have hsl:=bE (Ra word none (some (n:Int)))
 rw[hs,hw,<-e3]at hsl
 rw[hw,<-e3]at hs
 generalize Ra word none (some (n:Int))=w3 at *
 have h3l:=F2 c
 nofun
 symm
 refine cY q3 g8 ?_
 symm
 have hat:eM c 8/32%((w3.length:Int)+1)=(KL c:Int):=by
  unfold KL
  rw[hsl]
  have:=S0 (eM c 8/32) (show((w3.length:Int)+1)≠0 by omega)
  omega
 have hat2:KL c<=w3.length:=by
  have:=Uk (eM c 8/32) (show 0<(w3.length:Int)+1 by omega)
  omega
 rw[hat]
 symm
 refine cY q3 g7 ?_
 symm
 refine hix _ _ _ ?_
 have ha:=rm (z:=w3) (b:=KL c) hat2
 have hb:=qW (z:=w3) (a:=KL c) hat2
 have hal:=bE (Ra w3 none (some (KL c:Int)))
 have hbl:=bE (Ra w3 (some (KL c:Int)) none)
 rw[ha,Rw,hs]at hal
 rw[hb,SE,hs]at hbl
 refine dg (by rw[A0];omega) ?_
 have hcl:=bE (Ra w3 none (some (KL c:Int))++⟨#[qI (eM c 7+(k:Int))]⟩)
 rw[c6,Rz,ha,hs,Rw]at hcl
 have h1l:(⟨#[qI (eM c 7+(k:Int))]⟩:Qg).cps.toList=[qI (eM c 7+(k:Int))]:=rfl
 rw[h1l]at hcl
 simp only[TY]at hcl
 symm
 refine fin _ ?_
 rw[c6,c6,ha,hb,hs,h1l]
 unfold pT
 rw[if_neg h0,if_neg h1']
 simp
theorem BU:∀vs H Q E,iW K vs H Q E->mD K E {nx:=fun _ H'=>Q .non H',rt:=Q} (start ["chest","word","things"] vs) H:=by
 rintro vs H Q E ⟨_,c,lt,fp,s,D,rfl,hlt,X0,tx,hv,haw,hwl,qn,qe⟩
 obtain⟨dx,d1,d2,w,wt,X,efp⟩:=id X0
 unfold mD
 cases D with
 |enrol z=>
  simp only[bA.word,bA.things]at hlt ⊢
  nofun
  symm
  refine vo rfl ?_
  symm
  refine bJ X.at_ (cn nofun) ?_
  symm
  refine cY (bo.of hlt) (bI (j:=0) rfl) ?_
  symm
  exact⟨rfl,c,z,fp,s,rfl,X0,tx,qn,qe⟩
 |leave z=>
  simp only[bA.word,bA.things]at hlt ⊢
  nofun
  symm
  refine gB nofun ?_
  symm
  nofun
  symm
  refine vo rfl ?_
  symm
  refine bJ X.at_ (cn nofun) ?_
  symm
  refine cY (bo.of hlt) (bI (j:=0) rfl) ?_
  symm
  exact⟨rfl,c,z,fp,s,rfl,X0,tx,by omega,qn,qe⟩
 |give x=>
  simp only[bA.word,bA.things]at hlt ⊢
  nofun
  symm
  refine gB nofun ?_
  symm
  nofun
  symm
  refine gB nofun ?_
  symm
  nofun
  symm
  refine vo rfl ?_
  symm
  refine bJ X.at_ (cn nofun) ?_
  symm
  refine cY (bo.of hlt) (bI (j:=0) rfl) ?_
  symm
  exact⟨rfl,c,x,fp,s,rfl,X0,hv,qn,qe⟩
 |propose z x=>
  simp only[bA.word,bA.things]at hlt ⊢
  nofun
  symm
  refine gB nofun ?_
  symm
  nofun
  symm
  refine gB nofun ?_
  symm
  nofun
  symm
  refine gB nofun ?_
  symm
  nofun
  symm
  refine vo rfl ?_
  symm
  refine bJ X.at_ (cn nofun) ?_
  symm
  refine cY (bo.of hlt) (bI (j:=0) rfl) ?_
  symm
  refine cY (bo.of hlt) (bI (j:=1) rfl) ?_
  symm
  exact⟨rfl,c,z,x,fp,s,rfl,X0,tx,qn,qe⟩
 |withdraw z=>
  simp only[bA.word,bA.things]at hlt ⊢
  nofun
  symm
  refine gB nofun ?_
  symm
  nofun
  symm
  refine gB nofun ?_
  symm
  nofun
  symm
  refine gB nofun ?_
  symm
  nofun
  symm
  refine gB nofun ?_
  symm
  nofun
  symm
  refine vo rfl ?_
  symm
  refine bJ X.at_ (cn nofun) ?_
  symm
  refine cY (bo.of hlt) (bI (j:=0) rfl) ?_
  symm
  exact⟨rfl,c,z,fp,s,rfl,X0,by omega,qn,fun cl e=>⟨tx,qe cl e⟩⟩
 |want v n=>
  simp only[bA.word,bA.things]at hlt ⊢
  nofun
  symm
  refine gB nofun ?_
  symm
  nofun
  symm
  refine gB nofun ?_
  symm
  nofun
  symm
  refine gB nofun ?_
  symm
  nofun
  symm
  refine gB nofun ?_
  symm
  nofun
  symm
  refine gB nofun ?_
  symm
  nofun
  symm
  refine vo rfl ?_
  symm
  refine bJ X.at_ (cn nofun) ?_
  symm
  refine cY (bo.of hlt) (bI (j:=0) rfl) ?_
  symm
  refine cY (bo.of hlt) (bI (j:=1) rfl) ?_
  symm
  exact⟨rfl,c,v,n,fp,s,rfl,X0,tx.1,tx.2,haw,hwl,qn,qe⟩
 |unwant v n=>
  simp only[bA.word,bA.things]at hlt ⊢
  nofun
  symm
  refine gB nofun ?_
  symm
  nofun
  symm
  refine gB nofun ?_
  symm
  nofun
  symm
  refine gB nofun ?_
  symm
  nofun
  symm
  refine gB nofun ?_
  symm
  nofun
  symm
  refine gB nofun ?_
  symm
  nofun
  symm
  refine gB nofun ?_
  symm
  refine bJ X.at_ (cn nofun) ?_
  symm
  refine cY (bo.of hlt) (bI (j:=0) rfl) ?_
  symm
  refine cY (bo.of hlt) (bI (j:=1) rfl) ?_
  symm
  exact⟨rfl,c,v,n,fp,s,rfl,X0,tx.1,tx.2,haw,hwl,qn,qe⟩
theorem A3(F:il K):∀vs H Q E,eF K vs H Q E->md K {nx:=fun _ H'=>Q .non H',rt:=Q} (start ["chest","word","things","caught","e"] vs) H:=by
 rintro vs H Q E ⟨_,c,lt,fp,s,D,rfl,hlt,CH,tx,G,q⟩
 unfold md
 nofun
 symm
 nofun
 show aO (iW K) [] _ _ _ _ _
 symm
 refine⟨rfl,c,lt,fp,s,D,rfl,hlt,CH,tx,G.g.v20,G.g.aw,G.g.wl,fun hd H1 fp1 x1 b1 n1=>?_,fun cl hd H1 s1=>?_⟩
 ·with_reducible refine CU ?_
  symm
  refine vo rfl ?_
  symm
  exact q _ H1 fp1 (by simp only[kD,hd];exact x1) b1 n1 (by simp only[iL,hd];rfl) fun l e=>nomatch e
 have hcl:=FO hd
 have e1:kD s (.deed D)=s:=by simp only[kD,hd]
 have e2:iL s (.deed D)=.kin cl:=by simp only[iL,hd]
 have C:=F.fact (cl:=cl) (by rcases hcl with h|h|h|h|h|h<;>simp[h])
 rw[e1,e2]at q
 refine⟨C.m,fun x oe he h1 h2 h3=>?_⟩
 have sx:ar H1 (upd H1 x (.frz oe (.own x))):=ar.updN he
 have hx:ExcAt (upd H1 x (.frz oe (.own x))) x (aq K cl):=⟨oe,ay,h1,h2,h3⟩
 generalize upd H1 x (.frz oe (.own x))=H2 at *
 symm
 nofun
 symm
 refine gB (by intro z;cases z) ?_
 symm
 refine⟨rfl,x,cl,rfl,hx,by rcases hcl with h|h|h|h|h|h<;>simp[h],fun l7 H7 f7 s7 h7=>?_⟩
 have sa:=s1.trans (sx.trans s7)
 have f0:=s1.free (sx.free f7)
 exact q _ H7 fp (CH.same sa) (bS.of sa) fL.refl ⟨l7,rfl,f0,h7⟩ fun l e hl=>CH.there l hl (by cases e;exact f0)
theorem BO:∀vs H Q E,mE K vs H Q E->lU K {nx:=fun _ H'=>Q .non H',rt:=Q} (start ["desk","chest","cell","k","work","j","name"] vs) H:=by
 rintro vs H Q E ⟨_,d,c,f1,f2,s,n,k,rfl,DA,CA,dj,G,hn,q⟩
 have hsz:=size_eq
 have T0:=DC.init DA CA dj
 have nl:∀(c:Int)(k:Nat),(cU c k).length<=8:=fun c k=>(ix (kJ c k)).2
 have n1:∀(c:Int)(k:Nat),EY (cU c k):=fun c k=>⟨IQ (kJ c k),EB (ix (kJ c k)).1,by have:=nl c k;omega⟩
 have L1:("enrol ":Qg).length=6/\("propose ":Qg).length=8/\("want ":Qg).length=5:=nofun
 have lsp:=dQ.2.2.1
 unfold lU
 nofun
 symm
 refine gW (lo:=0) (n:=20) (fun i σ H'=>∃s' v3,DC K d c H H' (f1++f2) s' []/\cM (n+i) s'/\σ=[some (.ref d),some (.ref c),some (.int k),v3,none,none,none]) ⟨s,_,T0,G,rfl⟩ ?_ ?_
 ·rintro i σ Ha hi ⟨s',v3,T,G',rfl⟩
  have ei:(0+(i:Int))=(i:Int):=by omega
  rw[ei]
  have:=nl k i
  show bO _ _ _ _ _ _
  symm
  refine⟨rfl,k,i,rfl,by omega,fun H1 s1=>?_⟩
  obtain⟨fa,A1,tx,k1⟩:=DC.deed (kf:=nR) (D:=.enrol (cU k i)) (row:=("enrol ":Qg)++cU k i) (Pr.same bw aW T s1) G' (n1 k i) (LA nofun)
  symm
  refine⟨rfl,d,_,fa,s',rfl,A1,G'.d,tx,fun v H5 fp1 D1 b1 w1 an nv=>?_⟩
  symm
  refine⟨rfl,k,i,rfl,by omega,fun H6 s6=>?_⟩
  symm
  rename_i lt H7 f7 s7 h7
  obtain⟨fc,C1,k2⟩:=k1 v H5 fp1 D1 b1 w1 an nv H7 (s6.trans s7)
  refine⟨rfl,c,lt,fc,s',.enrol (cU k i),rfl,h7,C1,(n1 k i).tx,G'.d,fun v2 H8 fp2 C2 b2 w2 an2 _=>?_⟩
  obtain⟨T2,dd,z1,z2,z3⟩:=k2 v2 H8 fp2 C2 b2 w2 an2
  refine Gd z1 z2 z3 ?_
  symm
  exact⟨_,_,T2,G'.next (by omega) _,rfl⟩
 clear T0 G
 rintro σ Hb ⟨s,v3,T,G,rfl⟩
 nofun
 symm
 refine gW (lo:=0) (n:=12) (fun i σ H'=>∃s' v3 v4 v5 v6,DC K d c H H' (f1++f2) s' []/\cM (n+20+13*i) s'/\σ=[some (.ref d),some (.ref c),some (.int k),v3,v4,v5,v6]) ⟨s,_,_,_,_,T,G,rfl⟩ ?_ ?_
 ·rintro i σ Ha hi ⟨s',v3,v4,v5,v6,T,G',rfl⟩
  have ei:(0+(i:Int))=(i:Int):=by omega
  rw[ei]
  have:=nl (k/3) i
  have a5:Am (5+3*(i:Int)):=⟨by omega,by omega⟩
  have l5:(iT (5+3*(i:Int))).length<=2:=AJ (by omega) (by decide) (by omega)
  show aH _ _ _ _ _
  nofun
  symm
  refine⟨rfl,k/3,i,rfl,by omega,fun H1 s1=>?_⟩
  obtain⟨fa,A1,tx,k1⟩:=DC.deed (kf:=nR) (D:=.propose (cU (k/3) i) (5+3*(i:Int))) (row:=("propose ":Qg)++cU (k/3) i++" "++iT (5+3*(i:Int))) (Pr.same bw aW T s1) G' ⟨n1 _ i,a5⟩ (Ob nofun)
  symm
  nofun
  symm
  refine dg (by rw[QQ];omega) ?_
  symm
  refine Ol (by omega) (by omega) ?_
  refine dg (by rw[QQ,QQ];omega) ?_
  symm
  refine⟨rfl,d,_,fa,s',rfl,A1,G'.d,tx,fun v H5 fp1 D1 b1 w1 an nv=>?_⟩
  symm
  rename_i lt H7 f7 s7 h7
  obtain⟨fc,C1,k2⟩:=k1 v H5 fp1 D1 b1 w1 an nv H7 s7
  refine⟨rfl,c,lt,fc,s',.propose (cU (k/3) i) (5+3*(i:Int)),rfl,h7,C1,(n1 _ i).tx,G'.d,fun v2 H8 fp2 C2 b2 w2 an2 _=>?_⟩
  obtain⟨T2,dd,z1,z2,z3⟩:=k2 v2 H8 fp2 C2 b2 w2 an2
  refine Gd z1 z2 z3 ?_
  have G2:=G'.next (by omega) (.deed (.propose (cU (k/3) i) (5+3*(i:Int))))
  generalize kD s' (.deed (.propose (cU (k/3) i) (5+3*(i:Int))))=s2 at *
  clear h7 C1 an an2 D1 C2 b1 b2 w1 w2 k1 k2 A1
  symm
  rw[show((i:Int)+1).toNat=i+1 by omega]
  refine gW (lo:=0) (n:=i+1) (fun j σ H'=>∃s' v5 v6,DC K d c H H' (f1++f2) s' []/\cM (n+20+13*i+1+j) s'/\σ=[some (.ref d),some (.ref c),some (.int k),some (.int i),some (.str (cU (k/3) i)),v5,v6]) ⟨s2,_,_,T2,G2,rfl⟩ ?_ ?_
  ·rintro j σ Hb hj ⟨s3,v5,v6,T,G3,rfl⟩
   have ej:(0+(j:Int))=(j:Int):=by omega
   rw[ej]
   show aH _ _ _ _ _
   nofun
   symm
   obtain⟨y,ey,hy⟩:∃y:Nat,((i:Int)*7+(j:Int))%20=(y:Int)/\y<20:=⟨(((i:Int)*7+(j:Int))%20).toNat,by omega,by omega⟩
   rw[ey]
   have:=nl k y
   refine⟨rfl,k,y,rfl,by omega,fun H1 s1=>?_⟩
   obtain⟨fa,A1,tx,k1⟩:=DC.deed (kf:=nR) (D:=.want (cU k y) (cU (k/3) i)) (row:=("want ":Qg)++cU k y++" "++cU (k/3) i) (Pr.same bw aW T s1) G3 ⟨n1 _ y,n1 _ i⟩ (Ob nofun)
   symm
   refine dg (by rw[QQ];omega) ?_
   symm
   refine dg (by rw[QQ,QQ];omega) ?_
   symm
   refine⟨rfl,d,_,fa,s3,rfl,A1,G3.d,tx,fun v H5 fp1 D1 b1 w1 an nv=>?_⟩
   symm
   rename_i lt H7 f7 s7 h7
   obtain⟨fc,C1,k2⟩:=k1 v H5 fp1 D1 b1 w1 an nv H7 s7
   refine⟨rfl,c,lt,fc,s3,.want (cU k y) (cU (k/3) i),rfl,h7,C1,⟨(n1 _ y).tx,(n1 _ i).tx⟩,G3.d,fun v2 H8 fp2 C2 b2 w2 an2 _=>?_⟩
   obtain⟨T2,dd,z1,z2,z3⟩:=k2 v2 H8 fp2 C2 b2 w2 an2
   refine Gd z1 z2 z3 ?_
   symm
   exact⟨_,_,_,T2,G3.next (by omega) _,rfl⟩
  ·rintro σ Hc ⟨s3,v5,v6,T,G3,rfl⟩
   exact⟨s3,_,_,_,_,T,G3.up (by omega),rfl⟩
 rintro σ Hc ⟨s',v3,v4,v5,v6,T,G',rfl⟩
 symm
 exact q Hc s' T (G'.up (by omega))
theorem u5(C:il K):∀vs H Q E,du K vs H Q E->ir K {nx:=fun _ H'=>Q .non H',rt:=Q} (start ["self"] vs) H:=by
 rintro vs H Q E ⟨_,c,fp,s,rfl,⟨dx,d1,d2,w,wt,x,rfl⟩,q⟩
 unfold ir
 symm
 refine cq x.at_ C.aQ C.aV cv ?_
 refine Lw x.p1 fun v H1 f1 s1 h1=>?_
 symm
 refine⟨v,d1,eV s.ps,rfl,h1,s1 _ _ x.p1,fun l ts H2 f2 s2 h2 pr=>q l H2 (s1.free f2) (s1.trans s2) ⟨ts,h2,?_⟩⟩
 exact Paired.mapP (sg pr) fun p t z=>z.2.2
theorem AI:∀vs H Q E,lX K vs H Q E->mG K {nx:=fun _ H'=>Q .non H',rt:=Q} (start ["xs","chest","most","words","word"] vs) H:=by
 rintro vs H Q E ⟨_,a,c,xs,fp,s,m,rfl,qa,hx,CH,G,q⟩
 have dw:("want":Qg)∈DW/\("unwant":Qg)∈DW:=nofun
 obtain⟨x0,e0⟩:=OE (xs:=xs) (k:=0) (by omega)
 unfold mG
 nofun
 symm
 rename_i l1 H1 f1 s1 h1
 nofun
 symm
 refine cY (s1.seq qa) e0 ?_
 symm
 obtain⟨w,mw,ew⟩:=C8 (zs:=["enrol","leave","give","give","propose","propose","withdraw","want","want","unwant"]) (x:=x0) (n:=10) rfl (by decide)
 have hw:w∈DW:=by
  have:∀w∈(["enrol","leave","give","give","propose","propose","withdraw","want","want","unwant"]:List Qg),w∈DW:=nofun
  exact this w mw
 refine cY (bo.of h1) ew ?_
 symm
 with_reducible refine rQ (fun σ H'=>ar H H'/\σ=[some (.ref a),some (.ref c),some (.bl m),some (.ref l1),some (.str w)]) (fun F hF=>?_) ?_
 ·symm
  cases m with
  |false=>
   symm
   exact hF _ _ ⟨s1,rfl⟩
  |true=>
   symm
   refine cQ (fun _=>?_) fun _=>?_
   ·have C1:=CH.same s1
    obtain⟨dx,d1,d2,wd,wt,X,_⟩:=id C1
    symm
    refine bJ X.at_ (cn nofun) ?_
    symm
    refine⟨rfl,c,fp,s,rfl,C1,fun l2 H2 f2 s2 ⟨ts,hl2,_⟩=>?_⟩
    symm
    have q2:bo K H2 l2 (ts.map V.ref):=bo.of hl2
    symm
    refine cQ (fun _=>?_) fun _=>?_
    ·symm
     exact q _ _ dw.1 (s1.trans s2)
    ·symm
     exact hF _ _ ⟨s1.trans s2,rfl⟩
   ·symm
    exact hF _ _ ⟨s1,rfl⟩
 rintro σ H3 ⟨s3,rfl⟩
 with_reducible refine rQ (fun σ H'=>ar H H'/\σ=[some (.ref a),some (.ref c),some (.bl m),some (.ref l1),some (.str w)]) (fun F hF=>?_) ?_
 ·symm
  cases m with
  |false=>
   symm
   exact hF _ _ ⟨s3,rfl⟩
  |true=>
   symm
   refine cQ (fun _=>?_) fun _=>?_
   ·have C1:=CH.same s3
    obtain⟨dx,d1,d2,wd,wt,X,_⟩:=id C1
    symm
    refine bJ X.at_ (cn nofun) ?_
    symm
    refine⟨rfl,c,fp,s,rfl,C1,G.g.ap,G.g.ac,G.g.aw,Qt G.g.v20 (by decide),Qt G.g.n12 (by decide),fun l2 ts H2 f2 s2 wl _=>?_⟩
    have q2:bo K H2 l2 (ts.map V.ref):=bo.of wl.1
    symm
    refine cQ (fun _=>?_) fun _=>?_
    ·symm
     exact q _ _ dw.2 (s3.trans s2)
    ·symm
     exact hF _ _ ⟨s3.trans s2,rfl⟩
   ·symm
    exact hF _ _ ⟨s3,rfl⟩
 rintro σ H4 ⟨s4,rfl⟩
 symm
 exact q _ _ hw s4
theorem we:∀vs H Q E,eh K vs H Q E->jz K {nx:=fun _ H'=>Q .non H',rt:=Q} (start ["name","x","at","signs"] vs) H:=by
 rintro vs H Q E ⟨_,z,x,rfl,nz,q⟩
 have zl:=ix nz
 have wz:=IQ nz
 have zL:=K4 nz
 unfold jz
 nofun
 symm
 obtain⟨a,ea,ha⟩:∃a:Nat,x/6%(z.length:Int)=(a:Int)/\a<z.length:=by
  have:=S0 (x/6) (b:=(z.length:Int)) (by omega)
  have:=Uk (x/6) (b:=(z.length:Int)) (by omega)
  exact⟨(x/6%(z.length:Int)).toNat,by omega,by omega⟩
 rw[ea]
 have hA:=rm (z:=z) (b:=a) (by omega)
 have hB:=qW (z:=z) (a:=a+1) (by omega)
 rw[Us]at hB
 have lA:(Ra z none (some (a:Int))).length<=8:=by rw[<-bE,hA,Rw,bE];omega
 have lB:(Ra z (some ((a:Int)+1)) none).length<=8:=by rw[<-bE,show(Ra z (some ((a:Int)+1)) none).cps.toList=_ from hB,SE,bE];omega
 have wA:Wd (Ra z none (some (a:Int))):=⟨by omega,fun c hc=>wz.2 c (by rw[hA]at hc;exact TK hc)⟩
 have wB:Wd (Ra z (some ((a:Int)+1)) none):=⟨by omega,fun c hc=>wz.2 c (by rw[show(Ra z (some ((a:Int)+1)) none).cps.toList=_ from hB]at hc;exact U0 hc)⟩
 have fin:∀z':Qg,Wd z'->1<=z'.length->z'.length<=20->Q (.str z') H:=fun z' h1 h2 h3=>q z' H ⟨h1,EB h2,h3⟩ (ar.refl _)
 nofun
 symm
 nofun
 symm
 refine cQ (fun _=>?_) fun _=>?_
 ·symm
  refine ON fun c hc=>?_
  have w1:Wd ⟨#[c]⟩:=by
   refine⟨by show 1<=40;decide,fun d hd=>?_⟩
   have hd:d=c:=by simpa using hd
   rw[hd];exact hc
  have l1:(⟨#[c]⟩:Qg).length=1:=rfl
  symm
  refine dg (by rw[QQ];omega) ?_
  exact fin _ (B3 (B3 wA w1 (by omega)) wB (by rw[QQ];omega)) (by simp only[QQ];omega) (by simp only[QQ];omega)
 symm
 nofun
 symm
 refine cQ (fun _=>?_) fun _=>?_
 ·symm
  refine Ls zL (by omega) ?_
  have hu:=OQ zL
  have hl:=IM zL
  exact fin _ ⟨by omega,fun d hd=>by have:=hu d hd;omega⟩ (by omega) (by omega)
 symm
 nofun
 symm
 refine cQ (fun _=>?_) fun _=>?_
 ·symm
  refine Pb ?_
  obtain⟨t1,t2⟩:=LO (x/36)
  refine dg (by omega) ?_
  exact fin _ (B3 wz t1 (by omega)) (by rw[QQ];omega) (by rw[QQ];omega)
 symm
 nofun
 symm
 have lz8:=a8.2.1
 refine cQ (fun _=>?_) fun _=>?_
 ·symm
  exact fin _ (B3 wz a8.1 (by omega)) (by rw[QQ];omega) (by rw[QQ];omega)
 symm
 exact fin _ wz zl.1 (by omega)
theorem wo:∀vs H Q E,gw K vs H Q E->jx K {nx:=fun _ H'=>Q .non H',rt:=Q} (start ["x"] vs) H:=by
 rintro vs H Q E ⟨_,x,rfl,x0,x1,q⟩
 unfold jx
 nofun
 symm
 refine cQ (fun _=>?_) fun _=>?_
 ·symm
  rename_i l H1 f1 s1 h1
  obtain⟨z,mz,ez⟩:=J1 (zs:=[0,1,10 ^ 9,10 ^ 9+1,10 ^ 13-1]) (x:=x/8) (n:=5) rfl (by decide)
  refine cY (bo.of h1) ez ?_
  refine q z _ ?_ s1
  have:∀z∈([0,1,10 ^ 9,10 ^ 9+1,10 ^ 13-1]:List Int),0<=z/\z<10000000000000:=by decide
  exact this z mz
 symm
 nofun
 symm
 refine cQ (fun _=>?_) fun _=>?_
 ·symm
  exact q _ _ ⟨by omega,by omega⟩ (ar.refl _)
 symm
 refine q _ _ ?_ (ar.refl _)
 rw[show((10:Int) ^ XJ 9+1)=1000000001 by decide]
 exact⟨by omega,by omega⟩
theorem CL{zs:List Qg}(x:Int)(h:0<zs.length):∃z∈zs,BF (zs.map V.str) (x%(zs.length:Int))=some (.str z):=C8 rfl h
theorem B0:∀vs H Q E,ma K vs H Q E->lZ K {nx:=fun _ H'=>Q .non H',rt:=Q} (start ["xs","cell","chest","most","word","people","plans","name","work"] vs) H:=by
 rintro vs H Q E ⟨_,a,c,xs,k,fp,s,m,rfl,qa,hx,hxb,CH,G,q⟩
 have hsz:=size_eq
 have hv20:=G.g.v20
 have hn12:=G.g.n12
 have gx:∀j,j<7->BF (xs.map V.int) ((j:Nat):Int)=some (.int (xs.getD j 0)):=fun j hj=>bI (by simp[QN,show j<xs.length by omega])
 have gb:∀j,j<7->0<=xs.getD j 0/\xs.getD j 0<1000000000:=fun j hj=>hxb _ (getD_mem (xs:=xs) 0 (by omega))
 unfold lZ
 nofun
 symm
 refine⟨rfl,a,c,xs,fp,s,m,rfl,qa,hx,CH,G,fun w H1 mw s1=>?_⟩
 symm
 nofun
 have C1:=CH.same s1
 obtain⟨dx,d1,d2,wd,wt,X,_⟩:=id C1
 symm
 refine bJ X.at_ (cn nofun) ?_
 symm
 refine⟨rfl,c,fp,s,rfl,C1,fun l2 H2 f2 s2 ⟨ts,g1,g2⟩=>?_⟩
 have hl:s.ps.length=ts.length:=QU g2
 try refine cV (bo.of g1) ?_
 refine b7 (js (K:=K) (a:=l2) (ts:=ts) (u:=fun i=>.str (s.ps.getD i ("",0)).1) (v:=fun i=>.int (s.ps.getD i ("",0)).2) 0 1) (fun i=>[some (.str (s.ps.getD i ("",0)).1),some (.int (s.ps.getD i ("",0)).2)]) (by rintro j σ' (rfl|⟨k,rfl⟩)<;>rfl) ?_ (Qt (show _<=1000 by omega) bL)
   (fun i=>.str (s.ps.getD i ("",0)).1) ?_ ?_
 ·intro H' s'
  refine⟨s'.seq (bo.of g1),fun i b hb=>?_⟩
  have hi:i<s.ps.length:=by rw[hl];exact(Q0.mp hb).1
  obtain⟨b',z1,z2⟩:=dy g2 (Qz hi)
  rw[hb]at z1
  cases z1
  rw[QZ,Qz hi]
  exact s'.seqT (iM.of z2)
 ·intro i hi H' G s' kk
  symm
  exact kk H' (ar.refl _)
 intro l3 H3 f3 s3 h3
 rw[<-hl,br (fun p:Qg×Int=>V.str p.1) ("",0) s.ps,show s.ps.map (fun p=>V.str p.1)=(s.ps.map (·.1)).map V.str by rw[QR];rfl]at h3
 symm
 nofun
 have s13:=s2.trans s3
 have C3:=C1.same s13
 obtain⟨dx,d1,d2,wd,wt,X,_⟩:=id C3
 symm
 refine bJ X.at_ (cn nofun) ?_
 symm
 refine⟨rfl,c,fp,s,rfl,C3,G.g.ap,G.g.ac,G.g.aw,Qt G.g.v20 (by decide),Qt G.g.n12 (by decide),fun l4 us H4 f4 s4 wl _=>?_⟩
 have hul:s.cs.length=us.length:=by have:=QU wl.2;simpa using this
 try refine cV (bo.of wl.1) ?_
 refine b7 (fh (K:=K) (xs:=us.map V.ref) 0) (fun j=>[some ((us.map V.ref).getD j .non)]) (by rintro j σ' (rfl|⟨k,rfl⟩)<;>rfl) (fun H' s'=>s'.seq (bo.of wl.1)) (by rw[Qw];exact Qt (show _<=1000 by omega) bL) (fun j=>.str (s.cs.getD j ("",0)).1) ?_ ?_
 ·intro j hj H' F s' kk
  have hj:j<us.length:=by simpa using hj
  obtain⟨t,w',e1,e2,_⟩:=wl.at.2 j (by simp;omega)
  have et:(us.map V.ref).getD j .non=.ref t:=by simp[QN,e1]
  rw[et]
  symm
  refine Di (iM.of (s' _ _ e2)) (bI (j:=0) rfl) ?_
  have en:((s.cs.map (iK s)).getD j wN).1=(s.cs.getD j ("",0)).1:=by rw[map_getD (iK s) ("",0) wN (show j<s.cs.length by omega)];rfl
  rw[en]
  exact kk H' (ar.refl _)
 intro l5 H5 f5 s5 h5
 rw[Qw,<-hul,br (fun p:Qg×Int=>V.str p.1) ("",0) s.cs,show s.cs.map (fun p=>V.str p.1)=(s.cs.map (·.1)).map V.str by rw[QR];rfl]at h5
 have pN:∀z∈s.ps.map (·.1),dE z=true:=fun z hz=>by
  obtain⟨p,hp,rfl⟩:=Qu.mp hz
  exact G.nv p hp
 have cN:∀z∈s.cs.map (·.1),dE z=true:=fun z hz=>by
  obtain⟨p,hp,rfl⟩:=Qu.mp hz
  exact G.nc p hp
 have lP:(s.ps.map (·.1)).length<=20:=by rw[Qw];exact hv20
 have lC:(s.cs.map (·.1)).length<=12:=by rw[Qw];exact hn12
 generalize s.ps.map (·.1)=P at *
 generalize s.cs.map (·.1)=S at *
 have h3':=(s4.trans s5) _ _ h3
 have q3:bo K H5 l3 (P.map V.str):=bo.of h3'
 have q5:bo K H5 l5 (S.map V.str):=bo.of h5
 have s05:=s1.trans (s13.trans (s4.trans s5))
 have qa5:=s05.seq qa
 have nmc:∀(v:Int)(kk:Int),0<=kk->kk<24->∀(Hx:Hp)(R:VK),(∀z H',dE z=true->ar Hx H'->R (.str z) H')->bN K [.int v,.int kk] Hx R E0:=fun v kk h0 h1 Hx R z=>⟨rfl,v,kk.toNat,by rw[UO h0],by omega,fun H' s'=>z _ H' (kJ _ _) s'⟩
 clear g1 g2 wl h3
 symm
 nofun
 symm
 refine cY qa5 (gx 1 (by decide)) ?_
 symm
 refine nmc _ _ (by omega) (by omega) _ _ fun z6 H6 nz6 s6=>?_
 symm
 rename_i l7 H7 f7 s7 h7
 have s57:=s6.trans s7
 refine xo (s57 _ _ h3') h7 (by rw[Qw,size_eq];simp;omega) fun l8 H8 f8 s8 h8=>?_
 have h8:H8 l8=some (.lst ((P++[z6]).map V.str)):=by rw[h8];simp
 have s58:=s57.trans s8
 have q38:=s58.seq q3
 have q58:=s58.seq q5
 have qa8:=s58.seq qa5
 symm
 refine cY qa8 (gx 1 (by decide)) ?_
 symm
 obtain⟨z,mz,ez⟩:=CL (zs:=P++[z6]) (xs.getD 1 0/24) ⋯
 rw[show((P++[z6]).length:Int)=((P.map V.str).length:Int)+1 by simp]at ez
 have nz:dE z=true:=by
  rcases Q7.mp mz with h|h
  ·exact pN z h
  ·rw[Q8.mp h];exact nz6
 refine cY (bo.of h8) ez ?_
 symm
 nofun
 symm
 refine cY qa8 (gx 2 (by decide)) ?_
 symm
 refine nmc _ _ (by omega) (by omega) _ _ fun z9 H9 nz9 s9=>?_
 symm
 rename_i l10 H10 f10 s10 h10
 have s810:=s9.trans s10
 refine xo ((s58.trans s810) _ _ h5) h10 (by rw[Qw,size_eq];simp;omega) fun l11 H11 f11 s11 h11=>?_
 have h11:H11 l11=some (.lst ((S++[z9]).map V.str)):=by rw[h11];simp
 have s811:=s810.trans s11
 have q511:=s811.seq q58
 have qa11:=s811.seq qa8
 symm
 refine cY qa11 (gx 2 (by decide)) ?_
 symm
 obtain⟨y,my,ey⟩:=CL (zs:=S++[z9]) (xs.getD 2 0/24) ⋯
 rw[show((S++[z9]).length:Int)=((S.map V.str).length:Int)+1 by simp]at ey
 have ny:dE y=true:=by
  rcases Q7.mp my with h|h
  ·exact cN y h
  ·rw[Q8.mp h];exact nz9
 refine cY (bo.of h11) ey ?_
 have s011:=s05.trans (s58.trans s811)
 clear h8 h11 q38 q58 q3 q5 h5 h3' mz ez my ey h7 h10
 symm
 with_reducible refine rQ (fun σ H'=>∃z,dE z=true/\ar H11 H'/\σ=[some (.ref a),some (.int k),some (.ref c),some (.bl m),some (.str w),some (.ref l3),some (.ref l5),some (.str z),some (.str y)]) (fun F hF=>?_) ?_
 ·symm
  refine cY qa11 (gx 3 (by decide)) ?_
  symm
  have gen:∀Hx,ar H11 Hx->∀D:Ends,D.nx=F->bM (aO (bN K) [] E0 (ae (af 1) (ae (aN oMod (aN (cP K) (af 0) (tC (.int 1))) (tC (.int 24))) au))) (av 7) D [some (.ref a),some (.int k),some (.ref c),some (.bl m),some (.str w),some (.ref l3),some (.ref l5),some (.str z),some (.str y)] Hx:=fun Hx sx D hD=>by
   symm
   refine cY (sx.seq qa11) (gx 1 (by decide)) ?_
   symm
   refine nmc _ _ (by omega) (by omega) _ _ fun z' H' nz' s'=>?_
   symm
   rw[hD]
   exact hF _ _ ⟨z',nz',sx.trans s',rfl⟩
  refine cQ (fun _=>E1 (gen H11 (ar.refl _) _ rfl)) fun _=>?_
  symm
  refine cQ (fun _=>gen H11 (ar.refl _) _ rfl) fun _=>?_
  symm
  exact hF _ _ ⟨z,nz,ar.refl _,rfl⟩
 clear nz
 rintro σ H12 ⟨z,nz,s12,rfl⟩
 have qa12:=s12.seq qa11
 with_reducible refine rQ (fun σ H'=>∃y,dE y=true/\ar H12 H'/\σ=[some (.ref a),some (.int k),some (.ref c),some (.bl m),some (.str w),some (.ref l3),some (.ref l5),some (.str z),some (.str y)]) (fun F hF=>?_) ?_
 ·symm
  refine cY qa12 (gx 3 (by decide)) ?_
  symm
  have gen:∀Hx,ar H12 Hx->∀D:Ends,D.nx=F->bM (aO (bN K) [] E0 (ae (aN oDiv (af 1) (tC (.int 3))) (ae (aN oMod (aN (cP K) (af 0) (tC (.int 2))) (tC (.int 24))) au))) (av 8) D [some (.ref a),some (.int k),some (.ref c),some (.bl m),some (.str w),some (.ref l3),some (.ref l5),some (.str z),some (.str y)] Hx:=fun Hx sx D hD=>by
   symm
   refine cY (sx.seq qa12) (gx 2 (by decide)) ?_
   symm
   refine nmc _ _ (by omega) (by omega) _ _ fun z' H' nz' s'=>?_
   symm
   rw[hD]
   exact hF _ _ ⟨z',nz',sx.trans s',rfl⟩
  refine cQ (fun _=>E1 (gen H12 (ar.refl _) _ rfl)) fun _=>?_
  symm
  refine cQ (fun _=>gen H12 (ar.refl _) _ rfl) fun _=>?_
  symm
  exact hF _ _ ⟨y,ny,ar.refl _,rfl⟩
 clear ny
 rintro σ H13 ⟨y,ny,s13',rfl⟩
 have qa13:=s13'.seq qa12
 nofun
 symm
 refine cY qa13 (gx 5 (by decide)) ?_
 symm
 refine⟨rfl,z,_,rfl,nz,fun z' H14 nz' s14=>?_⟩
 symm
 nofun
 symm
 refine cY (s14.seq qa13) (gx 6 (by decide)) ?_
 symm
 refine⟨rfl,y,_,rfl,ny,fun y' H15 ny' s15=>?_⟩
 have s015:=s011.trans (s12.trans (s13'.trans (s14.trans s15)))
 have qa15:=s015.seq qa
 have fin:∀(D:bA)(t lt:Qh)(Ha Hb Hd:Hp),D.word=w->D.ok->ar H15 Ha->Ha lt=none->ar Ha Hb->Hb lt=some (.lst D.things)->Hb t=none->ar Hb Hd->Hd t=some (.tup [.str w,.ref lt])->Q (.ref t) Hd:=fun D t lt Ha Hb Hd e ok sa fl sb hl ft sd ht=>q D t lt Hd ok (s015.free (sa.free (sb.free ft))) (s015.free (sa.free fl)) (s015.trans (sa.trans (sb.trans sd))) (by rw[e];exact ht) (sd _ _ hl)
 clear q
 symm
 nofun
 symm
 refine cQ (fun e=>?_) fun n1=>?_
 ·symm
  refine cY qa15 (gx 2 (by decide)) ?_
  symm
  obtain⟨b1,b2⟩:=gb 2 (by decide)
  refine⟨rfl,_,rfl,b1,b2,fun n H16 an s16=>?_⟩
  symm
  rename_i lt Hb fl sb hl t Hd ft sd ht
  exact fin (.give n) t lt H16 Hb Hd e.symm an s16 fl sb hl ft sd ht
 symm
 nofun
 symm
 refine cQ (fun e=>?_) fun n2=>?_
 ·symm
  refine cY qa15 (gx 1 (by decide)) ?_
  symm
  obtain⟨b1,b2⟩:=gb 1 (by decide)
  refine⟨rfl,_,rfl,b1,b2,fun n H16 an s16=>?_⟩
  symm
  rename_i lt Hb fl sb hl t Hd ft sd ht
  exact fin (.propose y' n) t lt H16 Hb Hd e.symm ⟨ny',an⟩ s16 fl sb hl ft sd ht
 symm
 nofun
 symm
 refine cQ (fun e=>?_) fun n3=>?_
 ·symm
  rename_i lt Hb fl sb hl t Hd ft sd ht
  exact fin (.withdraw y') t lt H15 Hb Hd e.symm ny' (ar.refl _) fl sb hl ft sd ht
 symm
 nofun
 symm
 refine cQ (fun e=>?_) fun n4=>?_
 ·symm
  rename_i lt Hb fl sb hl t Hd ft sd ht
  exact fin (.enrol z') t lt H15 Hb Hd e.symm nz' (ar.refl _) fl sb hl ft sd ht
 symm
 refine cQ (fun e=>?_) fun n5=>?_
 ·symm
  rename_i lt Hb fl sb hl t Hd ft sd ht
  exact fin (.leave z') t lt H15 Hb Hd e.symm nz' (ar.refl _) fl sb hl ft sd ht
 symm
 rename_i lt Hb fl sb hl t Hd ft sd ht
 have hw:w="want"\/w="unwant":=by
  simp only[DW,QI,RD,or_false]at mw
  rcases mw with h|h|h|h|h|h|h
  ·exact absurd h n4
  ·exact absurd h n5
  ·exact absurd h n1
  ·exact absurd h n2
  ·exact absurd h n3
  ·exact .inl h
  ·exact .inr h
 rcases hw with e|e
 ·exact fin (.want z' y') t lt H15 Hb Hd e.symm ⟨nz',ny'⟩ (ar.refl _) fl sb hl ft sd ht
 ·exact fin (.unwant z' y') t lt H15 Hb Hd e.symm ⟨nz',ny'⟩ (ar.refl _) fl sb hl ft sd ht
theorem yr:∀vs H Q E,j9 K vs H Q E->kB K {nx:=fun _ H'=>Q .non H',rt:=Q} (start ["chest","name","one","coffer"] vs) H:=by
 rintro vs H Q E ⟨_,c,fp,s,z,rfl,CH,G,nd,q1,q2⟩
 obtain⟨dx,d1,d2,w,wt,X,efp⟩:=id CH
 unfold kB
 nofun
 symm
 refine bJ X.at_ (cn nofun) ?_
 symm
 refine⟨rfl,c,fp,s,rfl,CH,fun l H1 f1 s1 rl=>?_⟩
 obtain⟨ts,hl,htl,hti⟩:=rl.at
 refine cV (bo.of hl) ?_
 refine oa (js (K:=K) (a:=l) (ts:=ts) (u:=fun k=>.str (s.ps.getD k ("",0)).1) (v:=fun k=>.int (s.ps.getD k ("",0)).2) 2 3) (fun i σ H'=>ar H1 H'/\(∀j,j<i->(s.ps.getD j ("",0)).1≠z)/\∃v2 v3,σ=[some (.ref c),some (.str z),v2,v3]) ⟨ar.refl _,(fun j hj=>absurd hj (by omega)),_,_,rfl⟩ (fun i σ H' h=>⟨h.1.seq (bo.of hl),fun j b hb=>?_⟩) ?_ ?_
 ·have hj:j<s.ps.length:=by rw[<-htl];exact(Q0.mp hb).1
  obtain⟨t,e1,e2⟩:=hti j hj
  rw[hb]at e1
  cases e1
  exact iM.of (h.1 _ _ e2)
 ·rintro i σ Ha Hb hi ⟨sa,hne,v2,v3,rfl⟩ sb
  rw[htl]at hi
  have hm:=getD_mem (xs:=s.ps) ("",0) hi
  have hb:=G.g.p0 _ hm
  show bO _ _ _ _ _ _
  symm
  refine cQ (fun e=>?_) fun e=>?_
  ·symm
   refine Ol hb.1 hb.2 ?_
   have mz:z∈s.ps.map (·.1):=Qu.mpr ⟨_,hm,e⟩
   have ev:vP s.ps z=(s.ps.getD i ("",0)).2:=OY nd (by rw[<-e];exact hm)
   have:=q1 mz Hb (s1.trans (sa.trans sb))
   rwa [ev]at this
  ·symm
   exact⟨sa.trans sb,fun j hj=>by
    by_cases ej:j=i
    ·rw[ej];exact e
    ·exact hne j (by omega),_,_,rfl⟩
 rintro σ Hc ⟨sc,hne,v2,v3,rfl⟩
 symm
 rename_i l3 H3 f3 s3 h3
 refine q2 (fun m=>?_) l3 H3 (s1.free (sc.free f3)) (s1.trans (sc.trans s3)) (by rw[h3,show nR "NoVoter"=[false,false,true,false,false,false,false,true] by decide +kernel];rfl)
 obtain⟨p,hp,e⟩:=Qu.mp m
 obtain⟨j,hj,ej⟩:=SX hp
 refine hne j (by rw[htl];exact hj) ?_
 rw[QZ,Qz hj]
 show(s.ps[j]).1=z
 rw[ej];exact e
theorem zh:∀vs H Q E,ku K vs H Q E->kr K {nx:=fun _ H'=>Q .non H',rt:=Q} (start ["chest","parts","work","cost","names","wanters"] vs) H:=by
 rintro vs H Q E ⟨_,c,fp,s,rfl,CH,G,q⟩
 obtain⟨dx,d1,d2,w,wt,X,efp⟩:=id CH
 have hsz:=size_eq
 obtain⟨ec,es,e1,e2,eo,ep,em,e0⟩:=dQ
 have hrs:∀r∈s.cs.map (iK s),Sm r.1/\Nb r.2.1/\r.2.2.length<=20/\∀x∈r.2.2,Sm x:=fun r hr=>by
  obtain⟨p,hp,rfl⟩:=Qu.mp hr
  have hcb:=G.g.cb p hp
  refine⟨(ix (G.nc p hp)).2,ka (by have:=hcb.1;show 0<=p.2;omega) hcb.2,?_,fun x hx=>?_⟩
  ·refine Qt (RU _ _) ?_
   rw[Qw];exact G.g.v20
  ·have hx:x∈(s.ps.map (·.1)).filter _:=hx
   obtain⟨v,hv,rfl⟩:=Qu.mp (Rb.mp hx).1
   exact(ix (G.nv v hv)).2
 have has:∀r∈s.cs.map (iK s),aT r.1/\∀x∈r.2.2,aT x:=fun r hr=>by
  obtain⟨p,hp,rfl⟩:=Qu.mp hr
  exact⟨G.g.ac p hp,fun x hx=>by
   have hx:x∈(s.ps.map (·.1)).filter _:=hx
   obtain⟨v,hv,rfl⟩:=Qu.mp (Rb.mp hx).1
   exact G.g.ap v hv⟩
 have hrl:(s.cs.map (iK s)).length<=12:=by rw[Qw];exact G.g.n12
 unfold kr
 nofun
 symm
 rename_i lp H1 f1 s1 h1
 have CH1:=CH.same s1
 obtain⟨dx',d1',d2',w',wt',X',_⟩:=id CH1
 nofun
 symm
 refine bJ X'.at_ (cn nofun) ?_
 symm
 refine⟨rfl,c,fp,s,rfl,CH1,G.g.ap,G.g.ac,G.g.aw,Qt G.g.v20 (by decide),Qt G.g.n12 (by decide),fun l ts H2 f2 s2 wl nr=>?_⟩
 generalize s.cs.map (iK s)=rs at *
 obtain⟨v1,v2⟩:=wl
 have hvl:rs.length=ts.length:=QU v2
 have pick:∀i:Nat,∃a:Qh,∀t,ts[i]?=some t->H2 t=some (.tup [.str (rs.getD i ("",0,[])).1,.int (rs.getD i ("",0,[])).2.1,.ref a])/\H2 a=some (.lst ((rs.getD i ("",0,[])).2.2.map V.str)):=fun i=>by
  by_cases hi:i<rs.length
  ·obtain⟨b',z1,a,z2,z3⟩:=dy v2 (Qz hi)
   refine⟨a,fun t ht=>?_⟩
   rw[z1]at ht
   cases ht
   rw[QZ,Qz hi]
   exact⟨z2,z3⟩
  ·refine⟨0,fun t ht=>?_⟩
   have:=(Q0.mp ht).1
   omega
 obtain⟨la,hla⟩:=VD pick
 have h2:=s2 _ _ h1
 have hlp:∀i t,ts[i]?=some t->la i≠lp:=fun i t ht e=>by
  obtain⟨z1,z2⟩:=hla i t ht
  have:=(nr t (SH ht) _ _ _ z1).2
  rw[e,h1]at this
  cases this
 have hll:l≠lp:=fun e=>by rw[e,h1]at f2;cases f2
 refine cV (bo.of v1) ?_
 refine oa (ik (K:=K) (a:=l) (ts:=ts) (u:=fun i=>.str (rs.getD i ("",0,[])).1) (v:=fun i=>.int (rs.getD i ("",0,[])).2.1) (w:=fun i=>.ref (la i)) 2 3 4) (fun i σ H'=>bS [lp] H2 H'/\H' lp=some (.lst (((rs.take i).map d9).map V.str))/\∃v2 v3 v4 v5,σ=[some (.ref c),some (.ref lp),v2,v3,v4,v5]) ⟨bS.of (ar.refl _),h2,_,_,_,_,rfl⟩ (fun i σ H' h=>⟨bo.of (h.1.1 _ _ (by simpa using hll) v1),fun j b hb=>iM.of (h.1.2.1 _ _ (hla j b hb).1)⟩) ?_ ?_
 ·rintro i σ Ha Hb hi ⟨ba,hp,v2,v3,v4,v5,rfl⟩ sb
  have hi':i<rs.length:=by omega
  have ht:=Qz hi
  obtain⟨b1,b2,b3,b4⟩:=hrs _ (getD_mem (xs:=rs) ("",0,[]) hi')
  have hasc:=(has _ (getD_mem (xs:=rs) ("",0,[]) hi')).2
  have hna:Hb (la i)=some (.lst ((rs.getD i ("",0,[])).2.2.map V.str)):=sb _ _ (ba.1 _ _ (by simpa using hlp i _ ht) (hla i _ ht).2)
  have ew:d9 (rs.getD i ("",0,[]))=(rs.getD i ("",0,[])).1++" "++iT (rs.getD i ("",0,[])).2.1++" "++qY (rs.getD i ("",0,[])).2.2:=by
   unfold d9
   rw[show QO++(rs.getD i ("",0,[])).1=(rs.getD i ("",0,[])).1 from eD.mpr (by rw[c6];rfl)]
  have etk:(rs.take (i+1)).map d9=(rs.take i).map d9++[d9 (rs.getD i ("",0,[]))]:=by
   rw[XM,Qz hi',QZ,Qz hi',R4]
   rfl
  rw[ew]at etk
  generalize rs.getD i ("",0,[])=r at *
  have hn:=qD b3 b4
  have hlx:r.1.length<=8:=b1
  have hln:=b2.len
  show aH _ _ _ _ _
  with_reducible refine rQ (fun σ H'=>ar Hb H'/\σ=[some (.ref c),some (.ref lp),some (.str r.1),some (.int r.2.1),some (.ref (la i)),some (.str (qY r.2.2))]) (fun F hF=>?_) ?_
  ·symm
   have hb20:r.2.2.length*(8+("+":Qg).length)<=16777216:=by
    rw[ep]
    have:r.2.2.length*(8+1)<=20*9:=RY _ b3
    omega
   refine ky 8 (bo.of hna) b4 hb20 ?_
   have jl:=gy (sep:="+") (m:=8) (xs:=r.2.2) b4
   symm
   rename_i l4 H4 f4 s4 h4
   cases hr:r.2.2 with
   |nil=>
    rw[hr]at hna
    refine nS (d:=.list []) (.lst (bo.of (s4 _ _ hna)) .nil) (.lst (bo.of h4) .nil) (by decide) ?_
    symm
    refine⟨"-",1,rfl,rfl,by decide,by decide,nofun,?_⟩
    refine dg (by rw[mul_one.2.2.1];decide +kernel) ?_
    rw[mul_one.1]
    symm
    refine hF _ _ ⟨s4,?_⟩
    rw[hr];rfl
   |cons a t=>
    rw[hr]at hna b4 jl b3 hasc
    refine D9 (d:=.list ((a::t).map SQ)) (e:=.list []) (n:=1) (.lst (bo.of (s4 _ _ hna)) (r9 _)) (.lst (bo.of h4) .nil) (Au _ fun x hx=>?_) (so fun d hd=>nomatch hd) (by decide) ?_
    ·exact hasc x hx
    rw[show S9 (.list ((a::t).map SQ)) (.list [])=false by simp[S9,Wq]]
    symm
    refine⟨"-",0,rfl,rfl,by decide,by decide,nofun,?_⟩
    refine dg (by rw[mul_one.2.2.2.2.1];rw[ep]at jl;have:(a::t).length*(8+1)<=20*9:=RY _ b3;omega) ?_
    rw[(Dy _).1]
    symm
    refine hF _ _ ⟨s4,?_⟩
    rw[hr];rfl
  rintro σ H3 ⟨s3,rfl⟩
  have hp3:=s3 _ _ (sb _ _ hp)
  symm
  exists NU hp3
  symm
  refine iq b2.log ?_
  show cL _ (.str (iT r.2.1)) _ _
  refine dg (by rw[QQ];omega) ?_
  symm
  refine dg (by simp only[QQ];omega) ?_
  symm
  refine dg (by simp only[QQ];omega) ?_
  symm
  refine fI hp3 (by rw[Qw,Qw,Rw];exact Q4 (show _<1000 by omega) bL) ?_
  refine⟨(ba.trans (bS.of (sb.trans s3))).trans (bS.upd hp3 (fun _=>by intro z;cases z) ⋯),?_,_,_,_,_,rfl⟩
  rw[ay,etk];simp
 rintro σ Hc ⟨bc,hp,v2,v3,v4,v5,rfl⟩
 rw[<-hvl,Ur]at hp
 symm
 have wx:∀x∈rs.map d9,x.length<=800:=fun x hx=>by
  obtain⟨p,hp,rfl⟩:=Qu.mp hx
  obtain⟨b1,b2,b3,b4⟩:=hrs p hp
  exact tU b1 b2 b3 b4
 have hb12:(rs.map d9).length*(800+(", ":Qg).length)<=12*802:=by rw[Qw,ec];exact RY _ hrl
 refine ky 800 (bo.of hp) wx (by omega) ?_
 have jl:=gy (sep:=", ") (m:=800) (xs:=rs.map d9) wx
 have bH:∀H',ar Hc H'->Q (.str (jL rs)) H':=fun H' s'=>by
  refine q H' fun a o ha=>s' _ _ (bc.1 a o (fun z=>?_) (s2 _ _ (s1 _ _ ha)))
  rw[Q8.mp z,f1]at ha
  cases ha
 symm
 rename_i l4 H4 f4 s4 h4
 by_cases hn:rs=[]
 ·subst hn
  refine nS (d:=.list []) (.lst (bo.of (s4 _ _ hp)) .nil) (.lst (bo.of h4) .nil) (by decide) ?_
  symm
  refine⟨"none",1,rfl,rfl,by decide,by decide,nofun,?_⟩
  refine dg (by rw[mul_one.2.2.2.1];decide +kernel) ?_
  rw[show RO d9 []=[]from rfl,mul_one.2.1]
  exact bH H4 s4
 ·refine D9 (d:=.list ((rs.map d9).map SQ)) (e:=.list []) (n:=1) (.lst (bo.of (s4 _ _ hp)) (r9 _)) (.lst (bo.of h4) .nil) (Au _ fun x hx=>?_) (so fun d hd=>nomatch hd) (by decide) ?_
  ·obtain⟨r,hr,rfl⟩:=Qu.mp hx
   have:=sC (rs:=[r]) fun r' hr'=>by
    rw[Q8.mp hr']
    exact⟨(has r hr).1,(hrs r hr).2.1.1,(has r hr).2⟩
   exact this
  rw[show S9 (.list ((rs.map d9).map SQ)) (.list [])=false by
   cases rs with
   |nil=>exact absurd rfl hn
   |cons r t=>simp[S9,Wq]]
  symm
  refine⟨"none",0,rfl,rfl,by decide,by decide,nofun,?_⟩
  refine dg (by rw[mul_one.2.2.2.2.2];omega) ?_
  rw[(Dy _).2]
  have:=bH H4 s4
  rwa [show jL rs=Q3 ", " (rs.map d9)from if_neg hn]at this
theorem sU:∀vs H Q E,eG K vs H Q E->gP K {nx:=fun _ H'=>Q .non H',rt:=Q} (start ["desk","chest","way","name"] vs) H:=by
 rintro vs H Q E ⟨_,d,c,f1,f2,s,n,w,z,rfl,DA,CA,dj,G,hz,q⟩
 have T0:=DC.init DA CA dj
 obtain⟨fa,A1,_,_,k1⟩:=Pr.one bw aW T0
 obtain⟨a1,a2,a3,a4,a5⟩:=AU s
 have ask:∀(row t:Qg),dZ s row=.tell t->∀(v:V)(H1:Hp)(fp1:List Qh),cf K H1 d fp1 (kD s (dZ s row))->bS fa H H1->fL fa fp1 H->jF nR H H1 v (iL s (dZ s row))->v=.str t/\aT t/\DC K d c H H1 (f1++f2) s []:=fun row t e v H1 fp1 D1 b1 w1 an=>by
  have ta:=oS (t:=t) G.d (row:=row) (by rw[e];rfl)
  rw[e]at D1 an
  exact⟨an,ta,k1 H1 fp1 _ [] D1 b1 w1 fun _ h=>nomatch h⟩
 unfold gP
 nofun
 symm
 refine cQ (fun _=>?_) fun _=>?_
 ·symm
  obtain⟨e,tx⟩:=o5 (s:=s) (w:="pot") nofun
  refine⟨rfl,d,_,fa,s,rfl,A1,G.d,tx,fun v H1 fp1 D1 b1 w1 an _=>?_⟩
  obtain⟨rfl,ta,T1⟩:=ask "pot" _ (e.trans a3) v H1 fp1 D1 b1 w1 an
  obtain⟨fc,C1,_⟩:=Pr.one aW bw (Pr.flip T1)
  obtain⟨dx,d1,d2,wd,wt,X,_⟩:=id C1
  symm
  refine bJ X.at_ (cn nofun) ?_
  symm
  exists rfl,c,fc,s,rfl,C1
  symm
  refine iq G.d.pot.log ?_
  exact nS (d:=.str (iT s.pot)) (.str _) (.str _) ((qJ (n:=0) ta).shaped (by decide)) (q H1 T1)
 symm
 nofun
 symm
 refine cQ (fun _=>?_) fun _=>?_
 ·symm
  obtain⟨e,tx⟩:=o5 (s:=s) (w:="given") nofun
  refine⟨rfl,d,_,fa,s,rfl,A1,G.d,tx,fun v H1 fp1 D1 b1 w1 an _=>?_⟩
  obtain⟨rfl,ta,T1⟩:=ask "given" _ (e.trans a4) v H1 fp1 D1 b1 w1 an
  obtain⟨fc,C1,_⟩:=Pr.one aW bw (Pr.flip T1)
  obtain⟨dx,d1,d2,wd,wt,X,_⟩:=id C1
  symm
  refine bJ X.at_ (cn nofun) ?_
  symm
  exists rfl,c,fc,s,rfl,C1
  symm
  refine iq G.d.giv.log ?_
  exact nS (d:=.str (iT s.giv)) (.str _) (.str _) ((qJ (n:=0) ta).shaped (by decide)) (q H1 T1)
 symm
 nofun
 symm
 refine cQ (fun _=>?_) fun _=>?_
 ·symm
  obtain⟨e,tx⟩:=o5 (s:=s) (w:="spent") nofun
  refine⟨rfl,d,_,fa,s,rfl,A1,G.d,tx,fun v H1 fp1 D1 b1 w1 an _=>?_⟩
  obtain⟨rfl,ta,T1⟩:=ask "spent" _ (e.trans a5) v H1 fp1 D1 b1 w1 an
  obtain⟨fc,C1,_⟩:=Pr.one aW bw (Pr.flip T1)
  obtain⟨dx,d1,d2,wd,wt,X,_⟩:=id C1
  symm
  refine bJ X.at_ (cn nofun) ?_
  symm
  exists rfl,c,fc,s,rfl,C1
  symm
  refine iq G.d.spt.log ?_
  exact nS (d:=.str (iT s.spt)) (.str _) (.str _) ((qJ (n:=0) ta).shaped (by decide)) (q H1 T1)
 symm
 nofun
 symm
 refine cQ (fun _=>?_) fun _=>?_
 ·symm
  obtain⟨e,tx⟩:=o5 (s:=s) (w:="works") nofun
  refine⟨rfl,d,_,fa,s,rfl,A1,G.d,tx,fun v H1 fp1 D1 b1 w1 an _=>?_⟩
  obtain⟨rfl,ta,T1⟩:=ask "works" _ (e.trans a2) v H1 fp1 D1 b1 w1 an
  obtain⟨fc,C1,_⟩:=Pr.one aW bw (Pr.flip T1)
  symm
  refine⟨rfl,c,fc,s,rfl,C1,G.d,fun H2 s2=>?_⟩
  exact nS (d:=.str (jL (s.cs.map (iK s)))) (.str _) (.str _) ((qJ (n:=0) ta).shaped (by decide)) (q H2 (Pr.same bw aW T1 s2))
 symm
 obtain⟨e,tx⟩:=Gq s hz
 have zl:=hz.2.2
 have lp6:("purse ":Qg).length=6:=nofun
 try refine dg (by omega) ?_
 refine⟨rfl,d,_,fa,s,rfl,A1,G.d,tx,fun v H1 fp1 D1 b1 w1 an nv=>?_⟩
 by_cases hm:z∈s.ps.map (·.1)
 ·rw[if_pos hm]at e
  obtain⟨rfl,ta,T1⟩:=ask _ _ e v H1 fp1 D1 b1 w1 an
  obtain⟨fc,C1,_⟩:=Pr.one aW bw (Pr.flip T1)
  symm
  refine⟨rfl,c,fc,s,z,rfl,C1,G.d,G.nd,fun _ H2 s2=>?_,fun h=>absurd hm h⟩
  exact nS (d:=.str (iT (vP s.ps z))) (.str _) (.str _) ((qJ (n:=0) ta).shaped (by decide)) (q H2 (Pr.same bw aW T1 s2))
 ·rw[if_neg hm]at e
  rw[e]at D1 an
  have T1:=k1 H1 fp1 _ [] D1 b1 w1 fun _ h=>nomatch h
  obtain⟨l,rfl,fl,hl⟩:=an
  obtain⟨fc,C1,_⟩:=Pr.one aW bw (Pr.flip T1)
  symm
  refine⟨rfl,c,fc,s,z,rfl,C1,G.d,G.nd,fun h=>absurd h hm,fun _ l2 H2 f2 s2 h2=>?_⟩
  exact nS (d:=.list ((nR "NoVoter").map Vn)) (.lst (bo.of (s2 _ _ hl)) (o6 _)) (.lst (bo.of h2) (o6 _)) ((CI _).shaped (by decide)) (q H2 (Pr.same bw aW T1 s2))
def bA.words(D:bA):List Qg:=D.row.tail
theorem bA.row_cons(D:bA):D.row=D.word::D.words:=by cases D<;>rfl
theorem bA.strs(D:bA)(h:D.ok):D.things.length=D.words.length/\∀j,j<D.things.length->∀(H:Hp)(R:VK),R (.str (D.words.getD j "")) H->pJ [D.things.getD j .non] H R:=by
 have two:∀{x y:V}{p q:Qg},(∀(H:Hp)(R:VK),R (.str p) H->pJ [x] H R)->(∀(H:Hp)(R:VK),R (.str q) H->pJ [y] H R)->∀j,j<2->∀(H:Hp)(R:VK),R (.str ([p,q].getD j "")) H->pJ [[x,y].getD j .non] H R:=fun {x y p q} h1 h2 j hj=>by
  match j,hj with
  |0,_=>exact h1
  |1,_=>exact h2
 have one:∀{x:V}{p:Qg},(∀(H:Hp)(R:VK),R (.str p) H->pJ [x] H R)->∀j,j<1->∀(H:Hp)(R:VK),R (.str ([p].getD j "")) H->pJ [[x].getD j .non] H R:=fun {x p} h1 j hj=>by
  match j,hj with
  |0,_=>exact h1
 have st:∀z:Qg,∀(H:Hp)(R:VK),R (.str z) H->pJ [.str z] H R:=fun z H R r=>.inr ⟨z,rfl,r⟩
 have nt:∀x:Int,Am x->∀(H:Hp)(R:VK),R (.str (iT x)) H->pJ [.int x] H R:=fun x hx H R r=>.inl ⟨x,rfl,Gc hx.1 (VX hx.2 nofun),r⟩
 cases D with
 |enrol z=>exact⟨rfl,one (st z)⟩
 |propose z x=>exact⟨rfl,two (st z) (nt x h.2)⟩
 |give x=>exact⟨rfl,one (nt x h)⟩
 |leave z=>exact⟨rfl,one (st z)⟩
 |withdraw z=>exact⟨rfl,one (st z)⟩
 |want v n=>exact⟨rfl,two (st v) (st n)⟩
 |unwant v n=>exact⟨rfl,two (st v) (st n)⟩
theorem Cf:∀vs H Q E,oq K vs H Q E->nZ K {nx:=fun _ H'=>Q .non H',rt:=Q} (start ["desk","chest","xs","cell","most","closings","word","things","row"] vs) H:=by
 rintro vs H Q E ⟨_,d,c,a,xs,f1,f2,s,n,k,jc,m,rfl,qa,hx,hxb,DA,CA,dj,G,hn,q⟩
 have gx:∀j,j<7->BF (xs.map V.int) ((j:Nat):Int)=some (.int (xs.getD j 0)):=fun j hj=>bI (by simp[QN,show j<xs.length by omega])
 have T0:=DC.init DA CA dj
 unfold nZ
 with_reducible refine rQ (fun σ H'=>H'=H/\σ=[some (.ref d),some (.ref c),some (.ref a),some (.int k),some (.bl m),some (.int jc),none,none,none]) (fun F hF=>?_) ?_
 ·symm
  refine cY qa (gx 4 (by decide)) ?_
  symm
  refine cQ (fun _=>?_) fun _=>?_
  ·symm
   refine cQ (fun _=>?_) fun _=>?_
   ·obtain⟨e,tx⟩:=o5 (s:=s) (w:="close") nofun
    have e:=e.trans (AU s).1
    obtain⟨fa,A1,_,_,k1⟩:=Pr.one bw aW T0
    symm
    refine⟨rfl,d,_,fa,s,rfl,A1,G.d,tx,fun v H1 fp1 D1 b1 w1 an _=>?_⟩
    have ta:=oS (t:=eU s) G.d (row:="close") (by rw[e];rfl)
    rw[e]at D1 an
    have an:v=.str (eU s):=an
    subst an
    have T1:=k1 H1 fp1 _ [] D1 b1 w1 fun _ h=>nomatch h
    obtain⟨fc,C1,_,_,k2⟩:=Pr.one aW bw (Pr.flip T1)
    symm
    refine⟨rfl,c,fc,s,rfl,C1,G.d,fun H2 fp2 C2 b2 w2=>?_⟩
    have T2:=Pr.flip (k2 H2 fp2 _ [] C2 b2 w2 fun _ h=>nomatch h)
    exact nS (d:=.str (eU s)) (.str _) (.str _) ((qJ (n:=0) ta).shaped (by decide)) (q H2 _ T2 ((G.close (by omega)).up (RM _)))
   ·symm
    exact hF _ _ ⟨rfl,rfl⟩
  ·symm
   exact hF _ _ ⟨rfl,rfl⟩
 rintro σ H0 ⟨rfl,rfl⟩
 nofun
 symm
 refine cY qa (gx 4 (by decide)) ?_
 symm
 refine cQ (fun _=>?_) fun _=>?_
 ·symm
  refine cY qa (gx 0 (by decide)) ?_
  symm
  refine cY qa (gx 1 (by decide)) ?_
  symm
  refine⟨rfl,k,(xs.getD 1 0%24).toNat,by rw[UO (by omega)],by omega,fun H1 s1=>?_⟩
  symm
  refine cY (s1.seq qa) (gx 5 (by decide)) ?_
  symm
  refine⟨rfl,_,_,rfl,kJ _ _,fun z' H2 nz' s2=>?_⟩
  symm
  have s12:=s1.trans s2
  refine⟨rfl,d,c,f1,f2,s,n,_,z',rfl,DA.same s12,CA.same s12,dj,G,nz',fun H3 T3=>?_⟩
  exact q H3 s (Pr.back s12 T3) (G.up (RM _))
 symm
 nofun
 symm
 refine⟨rfl,a,c,xs,k,f2,s,m,rfl,qa,hx,hxb,CA,G.d,fun D t lt H1 ok ft fl s1 ht hl=>?_⟩
 obtain⟨ra,rb,rc,rd⟩:=bA.rowWd ok
 obtain⟨tl,ts⟩:=bA.strs D ok
 have hw3:D.words.length<=2:=by have:=bA.row_cons D;rw[this]at rd;simpa using rd
 exists t,_,rfl,iM.of ht,rfl,_,_,rfl,_,_,rfl,rfl
 nofun
 symm
 rename_i l2 H2 f2' s2 h2
 have q2:bo K H2 lt D.things:=bo.of (s2 _ _ hl)
 try refine cV q2 ?_
 refine b7 (fh (K:=K) (xs:=D.things) 0) (fun j=>[some (D.things.getD j .non)]) (by rintro j σ' (rfl|⟨k,rfl⟩)<;>rfl) (fun H' s'=>s'.seq q2) (by rw[tl];exact Qt (show _<=1000 by omega) bL) (fun j=>.str (D.words.getD j "")) ?_ ?_
 ·intro j hj H' F s' kk
  symm
  exact ts j hj H' _ (kk H' (ar.refl _))
 intro l3 H3 f3 s3 h3
 rw[tl,br (fun z:Qg=>V.str z) "" D.words]at h3
 refine xo (s3 _ _ h2) h3 (by rw[Qw,size_eq];simp;omega) fun l4 H4 f4 s4 h4=>?_
 have h4:H4 l4=some (.lst (D.row.map V.str)):=by rw[h4,bA.row_cons];rfl
 symm
 refine ky 40 (bo.of h4) (fun x hx=>(ra x hx).1) (by rw[dQ.2.2.1];omega) ?_
 have e:=bA.acts ok s
 have s14:=s2.trans (s3.trans s4)
 have T4:=Pr.add bw aW (Pr.same bw aW T0 (ar.refl _)) s1 fl hl
 have T4:=Pr.same bw aW T4 s14
 have txr:=kO (ws:=D.row) (by omega) ra
 generalize Q3 " " D.row=row at *
 symm
 obtain⟨fa,A1,m1,_,k1⟩:=Pr.one bw aW T4
 refine⟨rfl,d,row,fa,s,rfl,A1,G.d,txr,fun v H5 fp1 D1 b1 w1 an nv=>?_⟩
 have lay:yq 1 (Hv nR (iL s (.deed D))):=by rw[<-e];exact wD G.d
 rw[e]at D1 an
 obtain⟨Y,hY,kY⟩:=DP an nv
 have T5:=k1 H5 fp1 _ Y D1 b1 w1 hY
 obtain⟨fc,C1,m2,_,k2⟩:=Pr.one aW bw (Pr.flip T5)
 symm
 refine⟨rfl,c,lt,fc,s,D,rfl,T5.at.2 (lt,_) (RH _ (Ri ..)),C1,bA.txOk ok,G.d,fun v2 H6 fp2 C2 b2 w2 an2 _=>?_⟩
 have T6:=Pr.flip (k2 H6 fp2 _ [] C2 b2 w2 fun _ h=>nomatch h)
 have an':=kY fc H6 (fun p hp=>m2 p (TC _ hp)) b2
 exact nS an'.dat an2.dat (lay.shaped (by decide)) (q H6 _ (T6.sub fun _ h=>nomatch h) (G.next hn _))
theorem Mo:∀vs H Q E,EM K vs H Q E->EU K {nx:=fun _ H'=>Q .non H',rt:=Q} (start ["script","first","cell","desk","chest","closings","one","xs","names","k","way"] vs) H:=by
 rintro vs H Q E ⟨_,a,ns,rfl,hS,hl63,q⟩
 have hsz:=size_eq
 unfold EU
 nofun
 symm
 refine⟨rfl,a,ns,0,rfl,hS,fun first H1 s1=>?_⟩
 symm
 nofun
 symm
 refine⟨rfl,a,ns,1,rfl,s1.seq hS,fun cell H2 s2=>?_⟩
 have s02:=s1.trans s2
 symm
 nofun
 symm
 refine Fc fun d x1 f4 g4 _=>?_
 refine⟨rfl,d,x1,rfl,ay,fun H4 fp1 D1 b4 w4=>⟨rfl,?_⟩⟩
 obtain⟨s4,e4⟩:=Mi f4 g4 b4 w4
 symm
 nofun
 symm
 refine Fc fun c x2 f5 g5 _=>?_
 refine⟨rfl,c,x2,rfl,ay,fun H5 fp2 C2 b5 w5=>⟨rfl,?_⟩⟩
 obtain⟨s5,e5⟩:=Mi f5 g5 b5 w5
 have T5:DC K d c H H5 [] ⟨[],[],[],0,0,0⟩ []:=⟨fp1,fp2,D1.same s5,C2,fun x h1 h2=>D1.there x h1 (e5 x h2),bS.of (s02.trans (s4.trans s5)),fun x h1=>.inr (s02.free (e4 x h1)),fun x h2=>.inr (s02.free (s4.free (e5 x h2))),fun _ h=>nomatch h⟩
 have G0:cM 0 ⟨[],[],[],0,0,0⟩:=cM.of (by decide) ⋯ ⋯ (fun _ h=>nomatch h) (fun _ h=>nomatch h) (fun _ h=>nomatch h) (fun _ h=>nomatch h) (fun _ h=>nomatch h) .nil .nil ⋯ ⋯ ⋯ ⋯ (by simp[gD])
 clear D1 C2 b4 w4 b5 w5 e4 e5 f4 g4 f5 g5
 symm
 with_reducible refine rQ (fun σ H'=>∃s,DC K d c H H' [] s []/\cM 200 s/\σ=[some (.ref a),some (.int first),some (.int cell),some (.ref d),some (.ref c),none,none,none,none,none,none]) (fun F hF=>?_) ?_
 ·symm
  refine cQ (fun _=>?_) fun _=>?_
  ·obtain⟨g1,g2,A1,A2,dj,_,kb⟩:=Pr.both T5
   symm
   refine⟨rfl,d,c,g1,g2,_,0,cell,rfl,A1,A2,dj,G0,by decide,fun H6 s6 T6 G6=>?_⟩
   symm
   exact hF _ _ ⟨s6,kb H6 s6 s6 T6,by simpa using G6,rfl⟩
  ·symm
   exact hF _ _ ⟨_,T5,G0.up (by decide),rfl⟩
 clear T5 G0
 rintro σ H6 ⟨s,T,G,rfl⟩
 nofun
 symm
 nofun
 have sS:∀{H':Hp}{s:aL}{L:List (Qh×List V)},DC K d c H H' [] s L->ar H H':=fun {H' s L} t x o hx=>t.at.1.1 x o ⋯ hx
 have qS:=(sS T).seq hS
 symm
 rename_i l15 H15 f15 s15 h15
 obtain⟨zs,ez,_,_⟩:=DB ns (some 2) (some 62)
 have hz60:(zs.map V.int).length<=60:=by rw[<-ez];exact MA (ns.map V.int) 2 62
 rw[ez]at h15
 have T15:=Pr.add bw aW T s15 f15 h15
 refine oa (fh (K:=K) (xs:=zs.map V.int) 6) (fun i σ H'=>∃(s:aL)(cl:Int)(v6 v7:Option V),DC K d c H H' [] s [(l15,zs.map V.int)]/\cM (200+i) s/\σ=[some (.ref a),some (.int first),some (.int cell),some (.ref d),some (.ref c),some (.int cl),v6,v7,none,none,none]) ⟨s,0,_,_,T15,G,rfl⟩ (fun i σ H' h=>by obtain⟨s,cl,v6,v7,T,_⟩:=h;exact bo.of (T.at.2 (l15,_) (Ri ..))) ?_ ?_
 ·clear T15 G T
  rintro i σ Ha Hb hi ⟨s,cl,v6,v7,T,G,rfl⟩ sb
  have T:=Pr.same bw aW T sb
  have hi':i<zs.length:=by simpa using hi
  have hi60:i<60:=Q4 hi hz60
  have et:(zs.map V.int).getD i .non=.int (zs.getD i 0):=by simp[QN,hi']
  rw[et]
  generalize zs.getD i 0=number
  show aH _ _ _ _ _
  nofun
  symm
  refine⟨rfl,number,7,rfl,by decide,fun l16 H16 f16 s16 h16=>?_⟩
  have T:=Pr.add bw aW T s16 f16 h16
  obtain⟨g1,g2,A1,A2,dj,mL,kb⟩:=Pr.both T
  have hb7:∀x∈gF number 7,0<=x/\x<1000000000:=fun x hx=>by
   obtain⟨j,_,rfl⟩:=Qu.mp hx
   have:=MH number j
   omega
  symm
  nofun
  symm
  refine⟨rfl,d,c,l16,gF number 7,g1,g2,s,200+i,cell,cl,_,rfl,bo.of h16,by rw[Ae];exact QC _,hb7,A1,A2,dj,G,by omega,fun H17 s' T17 G17=>?_⟩
  have T:=kb H17 s' s' T17
  have q16:bo K H17 l16 ((gF number 7).map V.int):=bo.of (T.at.2 (l16,_) (Ri ..))
  symm
  refine cY q16 (bI (vW (show 4<7 by decide))) ?_
  symm
  exact⟨s',_,_,_,T.sub fun p hp=>Q2 _ hp,G17,rfl⟩
 clear T15 G T
 rintro σ H18 ⟨s,cl,v6,v7,T,G,rfl⟩
 have G:=G.up (show 200+(zs.map V.int).length<=260 by omega)
 have T:=T.sub (L':=[]) fun _ h=>nomatch h
 obtain⟨e,tx⟩:=o5 (s:=s) (w:="close") nofun
 have e:=e.trans (AU s).1
 obtain⟨fa,A1,_,_,k1⟩:=Pr.one bw aW T
 nofun
 symm
 refine⟨rfl,d,_,fa,s,rfl,A1,G.d,tx,fun v H19 fp1 D1 b1 w1 an _=>?_⟩
 have ta:=oS (t:=eU s) G.d (row:="close") (by rw[e];rfl)
 rw[e]at D1 an
 have an:v=.str (eU s):=an
 subst an
 obtain⟨fc,C1,_,_,k2⟩:=Pr.one aW bw (Pr.flip (k1 H19 fp1 _ [] D1 b1 w1 fun _ h=>nomatch h))
 symm
 refine⟨rfl,c,fc,s,rfl,C1,G.d,fun H20 fp2 C2 b2 w2=>?_⟩
 have T:=Pr.flip (k2 H20 fp2 _ [] C2 b2 w2 fun _ h=>nomatch h)
 have G:=(G.close (by decide))
 refine Gd (d:=.str (eU s)) (.str _) (.str _) ((qJ (n:=0) ta).shaped (by decide)) ?_
 have T:DC K d c H H20 [] (fS s) []:=T
 generalize fS s=s at *
 clear A1 D1 b1 w1 C1 C2 b2 w2 k1 k2
 obtain⟨fc,C1,_⟩:=Pr.one aW bw (Pr.flip T)
 obtain⟨dx,d1,d2,wd,wt,X,_⟩:=id C1
 have hv20:=G.d.g.v20
 symm
 nofun
 symm
 refine bJ X.at_ (cn nofun) ?_
 symm
 refine⟨rfl,c,fc,s,rfl,C1,fun l2 H21 f2 s21 ⟨ts,g1,g2⟩=>?_⟩
 have hl:s.ps.length=ts.length:=QU g2
 try refine cV (bo.of g1) ?_
 refine b7 (js (K:=K) (a:=l2) (ts:=ts) (u:=fun i=>.str (s.ps.getD i ("",0)).1) (v:=fun i=>.int (s.ps.getD i ("",0)).2) 0 1) (fun i=>[some (.str (s.ps.getD i ("",0)).1),some (.int (s.ps.getD i ("",0)).2)]) (by rintro j σ' (rfl|⟨k,rfl⟩)<;>rfl) ?_ (Qt (show _<=1000 by omega) bL)
   (fun i=>.str (s.ps.getD i ("",0)).1) ?_ ?_
 ·intro H' s'
  refine⟨s'.seq (bo.of g1),fun i b hb=>?_⟩
  have hi:i<s.ps.length:=by rw[hl];exact(Q0.mp hb).1
  obtain⟨b',z1,z2⟩:=dy g2 (Qz hi)
  rw[hb]at z1
  cases z1
  rw[QZ,Qz hi]
  exact s'.seqT (iM.of z2)
 ·intro i hi H' G s' kk
  symm
  exact kk H' (ar.refl _)
 intro l3 H22 f3 s22 h3
 rw[<-hl,br (fun p:Qg×Int=>V.str p.1) ("",0) s.ps,show s.ps.map (fun p=>V.str p.1)=(s.ps.map (·.1)).map V.str by rw[QR];rfl]at h3
 symm
 refine⟨rfl,cell,24,rfl,by decide,fun H23 s23=>?_⟩
 symm
 refine⟨rfl,cell,25,rfl,by decide,fun H24 s24=>?_⟩
 symm
 rename_i l4 H25 f4 s25 h4
 have s2225:=s23.trans (s24.trans s25)
 refine xo (s2225 _ _ h3) h4 (by rw[Qw,Qw,size_eq];simp;omega) fun l5 H26 f5 s26 h5=>?_
 have h5:H26 l5=some (.lst ((s.ps.map (·.1)++[cU cell 24,cU cell 25]).map V.str)):=by rw[h5];simp
 have nmN:∀z∈s.ps.map (·.1)++[cU cell 24,cU cell 25],EY z:=fun z hz=>by
  have:dE z=true:=by
   rcases Q7.mp hz with h|h
   ·obtain⟨p,hp,rfl⟩:=Qu.mp h
    exact G.d.nv p hp
   ·have h:z=cU cell 24\/z=cU cell 25:=by simpa using h
    rcases h with rfl|rfl<;>exact kJ _ _
  exact⟨IQ this,EB (ix this).1,by have:=(ix this).2;omega⟩
 have nL:2<=(s.ps.map (·.1)++[cU cell 24,cU cell 25]).length/\(s.ps.map (·.1)++[cU cell 24,cU cell 25]).length<=22:=by simp;omega
 generalize s.ps.map (·.1)++[cU cell 24,cU cell 25]=N at *
 have T:=Pr.add bw aW (Pr.same bw aW T (s21.trans (s22.trans s2225))) s26 f5 h5
 have hNm:(N.map V.str).length=N.length:=⋯
 have q5:bo K H26 l5 (N.map V.str):=bo.of h5
 symm
 nofun
 symm
 rw[hNm]
 obtain⟨m,em,hm⟩:∃m:Nat,(4+(N.length:Int)).toNat=m/\m=4+N.length:=⟨_,rfl,by omega⟩
 rw[em]
 refine gW (lo:=0) (n:=m) (fun i σ H'=>∃(v9 v10:Option V),DC K d c H H' [] s [(l5,N.map V.str)]/\σ=[some (.ref a),some (.int first),some (.int cell),some (.ref d),some (.ref c),some (.int cl),v6,v7,some (.ref l5),v9,v10]) ⟨_,_,T,rfl⟩ ?_ ?_
 ·rintro i σ Ha hi ⟨v9,v10,T,rfl⟩
  have q5:bo K Ha l5 (N.map V.str):=bo.of (T.at.2 (l5,_) (Ri ..))
  show aH _ _ _ _ _
  nofun
  symm
  rw[hNm]
  have w0:=S0 (0+(i:Int)+first) (show(4+(N.length:Int))≠0 by omega)
  have w1:=Uk (0+(i:Int)+first) (show 0<(4+(N.length:Int)) by omega)
  generalize (0+(i:Int)+first)%(4+(N.length:Int))=w at *
  obtain⟨j,ej,hj⟩:∃j:Nat,max 0 (w-4)=(j:Int)/\j<N.length:=⟨(max 0 (w-4)).toNat,by omega,by omega⟩
  rw[ej]
  refine cY q5 (bI (j:=j) (v:=.str (N.getD j "")) (by simp[QN,hj])) ?_
  obtain⟨g1,g2,A1,A2,dj,_,kb⟩:=Pr.both T
  symm
  refine⟨rfl,d,c,g1,g2,s,260,w,N.getD j "",rfl,A1,A2,dj,G,nmN _ (getD_mem (xs:=N) "" hj),fun H' T'=>?_⟩
  symm
  exact⟨_,_,kb H' s s T',rfl⟩
 ·rintro σ Hz ⟨v9,v10,T,rfl⟩
  symm
  exact q _
end
structure Txt(K:Qj)(mg:Qg->Option Qi):Prop where
 Ei:bG K mg "_law_nth" xI ["script","k"]
 tO:cH K "Chest" "__init__" "Chest.__init__" kT ["self"]
 uT:cH K "Desk" "__init__" "Desk.__init__" mR ["self"]
 BN:bG K mg "_law_spins" r8 ["cell","many"]
 ye:bG K mg "_law_classes" oI ["e"]
 AO:bG K mg "read_words" rE ["row"]
 sZ:bG K mg "least_multiple" kE ["step","number"]
 Ee:bG K mg "together" wG ["n"]
 Dh:bG K mg "grains_of" uc ["voters","works"]
 G4:bG K mg "paid_by" Af ["steps","voter"]
 G7:bG K mg "left_of" zA ["purses","steps"]
 DV:bG K mg "prices_of" uO ["costs","wishes"]
 By:bG K mg "rounded_up" rT ["amount","shares"]
 DL:bG K mg "level_for" ub ["purses","price"]
 C6:bG K mg "wants_all" uL ["wanted","works"]
 Dp:bG K mg "common_of" uB ["wishes","works"]
 AB:bG K mg "wanters_of" rg ["wishes","work"]
 Fs:bG K mg "offer_of" xE ["purses","wishes","work","price"]
 DE:bG K mg "offers_of" tZ ["purses","costs","wishes","done"]
 Hi:bG K mg "next_of" Ao ["offers"]
 Fe:bG K mg "works_of" vH ["steps"]
 HX:bG K mg "paid_at" Aa ["purses","level"]
 yj:bG K mg "payments_of" qg ["purses","wishes","work","level"]
 yI:bG K mg "step_behind" pY ["purses","costs","wishes","steps"]
 IE:bG K mg "choose" CK ["purses","costs","wishes"]
 qu:cH K "Chest" "keep_coins" "Chest.keep_coins" jC ["self","left","grains"]
 ni:cH K "Chest" "wanted_places" "Chest.wanted_places" gE ["self","voter"]
 sH:cH K "Chest" "told_step" "Chest.told_step" jY ["self","place","paid"]
 qO:cH K "Chest" "check_work" "Chest.check_work" jE ["self","work"]
 tL:cH K "Chest" "withdraw" "Chest.withdraw" kL ["self","work"]
 yZ:cH K "Chest" "close" "Chest.close" pX ["self"]
 C9:bG K mg "paid_text" uo ["rows"]
 CN:bG K mg "done_text" uQ ["work","cost","rows"]
 x6:bG K mg "closing_text" nI ["done","grains"]
 yD:bG K mg "close_chest" pF ["chest"]
 B9:bG K mg "work_text" ud ["work","cost","wanters"]
 BI:bG K mg "works_text" rU ["works"]
 vm:cH K "Chest" "wanters" "Chest.wanters" mY ["self","work"]
 yH:cH K "Chest" "works" "Chest.works" pU ["self"]
 DJ:cH K "Chest" "pot" "Chest.pot" uk ["self"]
 y0:cH K "Chest" "given" "Chest.given" p8 ["self"]
 yU:cH K "Chest" "spent" "Chest.spent" qf ["self"]
 HF:bG K mg "say_one" Ak ["chest","deed"]
 HY:bG K mg "is_name" zB ["name"]
 tK:bG K mg "check_new_name" kN ["name","names"]
 zq:bG K mg "check_place" pS ["names","most"]
 zc:cH K "Chest" "enrol" "Chest.enrol" pL ["self","name"]
 pz:cH K "Chest" "check_voter" "Chest.check_voter" iI ["self","voter"]
 tj:cH K "Chest" "purse_of" "Chest.purse_of" kS ["self","voter"]
 yO:cH K "Chest" "leave" "Chest.leave" pE ["self","name"]
 y9:bG K mg "check_coins" pH ["coins","least"]
 ze:cH K "Chest" "share" "Chest.share" qi ["self","part"]
 Bt:cH K "Chest" "give" "Chest.give" rH ["self","coins"]
 CB:bG K mg "is_number" uF ["word"]
 zr:bG K mg "read_number" pM ["word"]
 GO:bG K mg "say_two" Ac ["chest","deed","word"]
 uY:cH K "Chest" "propose" "Chest.propose" nh ["self","work","cost"]
 AH:cH K "Chest" "want" "Chest.want" sr ["self","voter","work"]
 yg:cH K "Chest" "unwant" "Chest.unwant" oK ["self","voter","work"]
 DH:bG K mg "say_three" ug ["chest","deed","word","last"]
 EW:cH K "Desk" "say" "Desk.say" vY ["self","row"]
 CF:bG K mg "_law_said" uG ["desk","row"]
 ym:bG K mg "_law_closed" qd ["chest"]
 Dx:bG K mg "_law_name" uP ["cell","k"]
 DY:bG K mg "_law_call" uA ["chest","word","things"]
 Dg:bG K mg "_law_done" uM ["chest","word","things"]
 DZ:bG K mg "_law_full" uh ["desk","chest","cell"]
 xh:cH K "Chest" "voters" "Chest.voters" nJ ["self"]
 CD:bG K mg "_law_word" uv ["xs","chest","most"]
 yN:bG K mg "_law_spoilt" p9 ["name","x"]
 za:bG K mg "_law_amount" p7 ["x"]
 Cw:bG K mg "_law_deed" ue ["xs","cell","chest","most"]
 BB:bG K mg "_law_purse" sG ["chest","name"]
 Bl:bG K mg "_law_works" rn ["chest"]
 vv:bG K mg "_law_question" ng ["desk","chest","way","name"]
 Fb:bG K mg "_law_row" xi ["desk","chest","xs","cell","most","closings"]
 f_law:bG K mg "law" CV ["script"]
 aY:oo K mg "Chest"
 wX:oo K mg "Desk"
 kH:fH K mg "NoWork"
 i6:fH K mg "NoVoter"
 oX:fH K mg "Twice"
 kF:fH K mg "NoName"
 gr:fH K mg "NoRow"
 sR:fH K mg "Full"
 i4:fH K mg "TooMuch"
 iO:fH K mg "PurseError"
 cls:il K
 BH:mg "ValueError"=none
 z_all:mg "all"=none
 Kz:mg "dict"=none
 fD:mg "enumerate"=none
 z_int:mg "int"=none
 dB:mg "isinstance"=none
 z_len:mg "len"=none
 Fu:mg "list"=none
 z_max:mg "max"=none
 z_min:mg "min"=none
 mh:mg "range"=none
 DI:mg "sorted"=none
 z_str:mg "str"=none
 z_sum:mg "sum"=none
 z_zip:mg "zip"=none
 Hh:JN mg "FIGURES" "0123456789"
 Ic:JN mg "LETTERS" "abcdefghijklmnopqrstuvwxyz"
 om:uK mg "MOST_AT_ONCE" 1000000000
 xY:uK mg "MOST_FIGURES" 13
 wq:uK mg "MOST_LETTERS" 8
 yW:uK mg "MOST_VOTERS" 20
 Bh:uK mg "MOST_WORKS" 12
section
seal xc PS PE PA PT PC PI PG
variable {P:Qy}{w:Qv}{K:Qj}{mg:Qg->Option Qi}{base:Qq}
theorem rW(T:Txt K mg):jN P w K mg base 1 "_law_nth" ["script","k"] (jO K):=T.Ei.cal (rd:=nQ K) uz (aI rfl) (fun f cdv A outer s H E hr=>
 (ah (eT Rx rfl (b9 (eW AG (pv 0) (fg (pv 1)) (fg (aA cF (pv 1) ak)))) (aD (i:=2) uz.nd rfl (Qn rfl)) (aj (az (pv 2))))
   (aj (az ak)))) DR
theorem jD(T:Txt K mg):fe sL P w K mg base 1 "Chest" "__init__" ["self"] (d8 K):=T.tO.cal (rd:=gj K) rV (aI rfl) (fun f cdv A outer s H E hr=>
 (ah (ip (pv 0) CC rfl)
   (ah (ip (pv 0) CC rfl)
   (ah (ip (pv 0) (cO ag) rfl)
   (ah (ip (pv 0) ak rfl)
   (ah (ip (pv 0) ak rfl)
   (aj (ip (pv 0) ak rfl)))))))) (rp T.cls)
theorem rA(T:Txt K mg):fe sL P w K mg base 3 "Desk" "__init__" ["self"] (gU K):=T.uT.cal (rd:=gM K) sQ (aI rfl) (fun f cdv A outer s H E hr=>
 (aj (ip (pv 0) (sV (jD T) T.aY (hr.mono (by decide))) rfl))) (tP T.cls)
theorem nM(T:Txt K mg):jN P w K mg base 1 "_law_spins" ["cell","many"] (hG K):=T.BN.cal (rd:=kj K) hV (aI rfl) (fun f cdv A outer s H E hr=>
 (ah (aS (i:=2) hV.nd rfl (Qn rfl) (cO ag))
   (ah (eT Rx rfl (i3 (by rfl) T.mh (aa (pv 1) ag)) (aD (i:=3) hV.nd rfl (Qn rfl)) (ah (aS (i:=4) hV.nd rfl (Qn rfl) (aA cF (aA cF (aA bu (pv 0) ak) (aA fj ak (pv 3))) ak))
   (aj (bV (gG Uj Tf Ub gI (pv 2) (aa (aA bu (aA c5 (aA fj (aA fj (pv 4) (pv 4)) (aA cF (pv 4) (aA fj ak (pv 3)))) ak) ak) ag))))))
   (aj (az (pv 2)))))) yQ
theorem kK(T:Txt K mg):jN P w K mg base 1 "_law_classes" ["e"] (fi K):=T.ye.cal (rd:=iE K) mS (aI rfl) (fun f cdv A outer s H E hr=>
 (ah (aS (i:=1) mS.nd rfl (Qn rfl) (cO (aa (bf dA (by rfl) T.dB S5 (aa (pv 0) (aa (qK T.kF) ag))) (aa (bf dA (by rfl) T.dB S5 (aa (pv 0) (aa (qK T.oX) ag))) (aa (bf dA (by rfl) T.dB S5 (aa (pv 0) (aa (qK T.i6) ag))) (aa (bf dA (by rfl) T.dB S5 (aa (pv 0) (aa (qK T.kH) ag))) ag))))))
   (aj (az (aA wR (pv 1) (cO (aa (bf dA (by rfl) T.dB S5 (aa (pv 0) (aa (qK T.i4) ag))) (aa (bf dA (by rfl) T.dB S5 (aa (pv 0) (aa (qK T.sR) ag))) (aa (bf dA (by rfl) T.dB S5 (aa (pv 0) (aa (qK T.gr) ag))) (aa (bf dA (by rfl) T.dB S5 (aa (pv 0) (aa (Lv (by rfl) T.BH (by first|rfl|decide +kernel) rfl) ag))) ag)))))))))) (u3 T.cls)
theorem xO(T:Txt K mg):vi P w K mg base 1 "read_words" ["row"] (kn K):=T.AO.calX (rd:=kq K) pV (fun _ _ _ _ h=>h.1) (fun f cdv A outer s H E hr=>
 (ah (PS.nox (aS (i:=1) pV.nd rfl (Qn rfl) (gG RZ Vk aad IP (pv 0) (aa aB ag))))
   (ah (bz (aE o8 aB (pv 1) rfl) (aj (dq T.gr (aa (dF (.cons aB (.cons (iN (pv 0)) .nil))) ag))) aK)
   (aj (PS.nox (az (pv 1))))))) zt
theorem q0(T:Txt K mg):jN P w K mg base 1 "least_multiple" ["step","number"] (gu K):=T.sZ.cal (rd:=gs K) gg (aI rfl) (fun f cdv A outer s H E hr=>
 (ah (aS (i:=2) gg.nd rfl (Qn rfl) (pv 0))
   (ah (Dw Rx (aE Gi (aA bu (pv 2) (pv 1)) ak (aJ _)) (aj (Bj (i:=2) gg.nd rfl (Qn rfl) (pv 0) (FG Ki))))
   (aj (az (pv 2)))))) sf
theorem AY(T:Txt K mg):jN P w K mg base 2 "together" ["n"] (oJ K):=T.Ee.cal (rd:=nK K) jZ (aI rfl) (fun f cdv A outer s H E hr=>
 (ah (aS (i:=1) jZ.nd rfl (Qn rfl) ak)
   (ah (eT Rx rfl (Hg (by rfl) T.mh (aa ak (aa (aA cF (pv 0) ak) ag))) (aD (i:=2) jZ.nd rfl (Qn rfl)) (aj (aS (i:=1) jZ.nd rfl (Qn rfl) (aM (q0 T) (hr.mono (by decide)) (aa (pv 1) (aa (pv 2) ag))))))
   (aj (az (pv 1)))))) Dq
theorem pI(T:Txt K mg):jN P w K mg base 3 "grains_of" ["voters","works"] (iY K):=T.Dh.cal (rd:=mj K) gq (aI rfl) (fun f cdv A outer s H E hr=>
 (ah (aS (i:=2) gq.nd rfl (Qn rfl) (aM (AY T) (hr.mono (by decide)) (aa (pv 0) ag)))
   (ah (aS (i:=3) gq.nd rfl (Qn rfl) (pv 2))
   (ah (eT Rx rfl (i3 (by rfl) T.mh (aa (pv 1) ag)) (aD (i:=4) gq.nd rfl (Qn rfl)) (aj (Bj (i:=3) gq.nd rfl (Qn rfl) (pv 2) (FG Jx))))
   (aj (az (pv 3))))))) BM
theorem Cj(T:Txt K mg):jN P w K mg base 1 "paid_by" ["steps","voter"] (qM K):=T.G4.cal (rd:=qC K) EE (aI rfl) (fun f cdv A outer s H E hr=>
 (aj (az (bf (wg rfl) (by rfl) T.z_sum VZ (aa (cg (N:=["work","level","paid","voter"]) (mp:=[none,none,none,some 1]) rfl ⟨rfl,nofun,by rfl,rfl,by rfl⟩ (b9 (pv 0)) (fun _ _ _ _ _ _=>(cW rfl (aG (aD (i:=0) (by show QK (["work","level","paid","voter"]:List Qg);decide +kernel) rfl (Qn rfl)) (aG (aD (i:=1) (by show QK (["work","level","paid","voter"]:List Qg);decide +kernel) rfl (Qn rfl)) (aG (aD (i:=2) (by show QK (["work","level","paid","voter"]:List Qg);decide +kernel) rfl (Qn rfl)) cp))))) (fun _ _ _ _ _ _=>bQ) (fun _ _ _ _ _ _=>(bF aU (pv 2) (pv 3) (fun _ _=>rfl)))) ag))))) E6
theorem uD(T:Txt K mg):jN P w K mg base 2 "left_of" ["purses","steps"] (lz K):=T.G7.cal (rd:=qt K) ER (aI rfl) (fun f cdv A outer s H E hr=>
 (aj (az (cg (N:=["voter","purse","steps"]) (mp:=[none,none,some 1]) rfl ⟨rfl,nofun,by rfl,rfl,by rfl⟩ (rX (by rfl) T.fD (pv 0)) (fun _ _ _ _ _ _=>(cW rfl (aG (aD (i:=0) (by show QK (["voter","purse","steps"]:List Qg);decide +kernel) rfl (Qn rfl)) (aG (aD (i:=1) (by show QK (["voter","purse","steps"]:List Qg);decide +kernel) rfl (Qn rfl)) cp)))) (fun _ _ _ _ _ _=>bQ) (fun _ _ _ _ _ _=>(aA ri (pv 1) (aM (Cj T) (hr.mono (by decide)) (aa (pv 2) (aa (pv 0) ag))))))))) D7
theorem zk(T:Txt K mg):jN P w K mg base 4 "prices_of" ["costs","wishes"] (lO K):=T.DV.cal (rd:=lg K) rD (aI rfl) (fun f cdv A outer s H E hr=>
 (ah (aS (i:=2) rD.nd rfl (Ti rfl) (aM (pI T) (hr.mono (by decide)) (aa (bf cA (by rfl) T.z_len Rp (aa (pv 1) ag)) (aa (bf cA (by rfl) T.z_len Rp (aa (pv 0) ag)) ag))))
   (aj (az (cg (N:=["cost","grains"]) (mp:=[none,some 2]) rfl ⟨rfl,nofun,by rfl,rfl,by rfl⟩ (b9 (pv 0)) (fun _ _ _ _ _ _=>(aD (i:=0) (by show QK (["cost","grains"]:List Qg);decide +kernel) rfl (Qn rfl))) (fun _ _ _ _ _ _=>bQ) (fun _ _ _ _ _ _=>(aA fj (pv 0) (pv 1)))))))) A6
theorem vS(T:Txt K mg):jN P w K mg base 1 "rounded_up" ["amount","shares"] (kx K):=T.By.cal (rd:=kc K) yu (aI rfl) (fun f cdv A outer s H E hr=>
 (aj (az (aA c5 (aA ri (aA cF (pv 0) (pv 1)) ak) (pv 1))))) yL
theorem zp(T:Txt K mg):jN P w K mg base 2 "level_for" ["purses","price"] (lD K):=T.DL.cal (rd:=lE K) eN (aI rfl) (fun f cdv A outer s H E hr=>
 (ah (bz (aE w9 (bf (wg rfl) (by rfl) T.z_sum VZ (aa (pv 0) ag)) (pv 1) (aJ _)) (aj (az gT)) aK)
   (ah (aS (i:=2) eN.nd rfl (Qn rfl) (pv 1))
   (ah (aS (i:=3) eN.nd rfl (Qn rfl) (bf cA (by rfl) T.z_len Rp (aa (pv 0) ag)))
   (ah (eT Rx rfl (b9 (bf ur (by rfl) T.DI XH (aa (pv 0) ag))) (aD (i:=4) eN.nd rfl (Qn rfl)) (ah (bz (aE Bb (aA fj (pv 4) (pv 3)) (pv 2) (aJ _)) (aj (az (aM (vS T) (hr.mono (by decide)) (aa (pv 2) (aa (pv 3) ag))))) aK)
   (ah (Bj (i:=2) eN.nd rfl (Qn rfl) (pv 4) (FG Cd))
   (aj (Bj (i:=3) eN.nd rfl (Qn rfl) ak (FG Cd))))))
   (aj (az ak))))))) BP
theorem zd(T:Txt K mg):jN P w K mg base 1 "wants_all" ["wanted","works"] (mm K):=T.C6.cal (rd:=mq K) Ba (aI rfl) (fun f cdv A outer s H E hr=>
 (aj (az (bf (wW rfl) (by rfl) T.z_all Ww (aa (cg (N:=["work","wanted"]) (mp:=[none,some 0]) rfl ⟨rfl,nofun,by rfl,rfl,by rfl⟩ (b9 (pv 1)) (fun _ _ _ _ _ _=>(aD (i:=0) (by show QK (["work","wanted"]:List Qg);decide +kernel) rfl (Qn rfl))) (fun _ _ _ _ _ _=>bQ) (fun _ _ _ _ _ _=>(dJ o8 (pv 0) (pv 1) rfl))) ag))))) A5
theorem yv(T:Txt K mg):jN P w K mg base 2 "common_of" ["wishes","works"] (mF K):=T.Dp.cal (rd:=lF K) BC (aI rfl) (fun f cdv A outer s H E hr=>
 (aj (az (cg (N:=["voter","wanted","works"]) (mp:=[none,none,some 1]) rfl ⟨rfl,nofun,by rfl,rfl,by rfl⟩ (rX (by rfl) T.fD (pv 0)) (fun _ _ _ _ _ _=>(cW rfl (aG (aD (i:=0) (by show QK (["voter","wanted","works"]:List Qg);decide +kernel) rfl (Qn rfl)) (aG (aD (i:=1) (by show QK (["voter","wanted","works"]:List Qg);decide +kernel) rfl (Qn rfl)) cp)))) (fun _ _ _ _ _ _=>(jq (mi (aM (zd T) (hr.mono (by decide)) (aa (pv 1) (aa (pv 2) ag)))))) (fun _ _ _ _ _ _=>(pv 0)))))) AW
theorem ou(T:Txt K mg):jN P w K mg base 3 "wanters_of" ["wishes","work"] (hZ K):=T.AB.cal (rd:=ko K) yT (aI rfl) (fun f cdv A outer s H E hr=>
 (aj (az (aM (yv T) (hr.mono (by decide)) (aa (pv 0) (aa (cO (aa (pv 1) ag)) ag)))))) yF
theorem AD(T:Txt K mg):jN P w K mg base 4 "offer_of" ["purses","wishes","work","price"] (oQ K):=T.Fs.cal (rd:=oy K) Ce (aI rfl) (fun f cdv A outer s H E hr=>
 (aj (az (aM (zp T) (hr.mono (by decide)) (aa (cg (N:=["voter","purses"]) (mp:=[none,some 0]) rfl ⟨rfl,nofun,by rfl,rfl,by rfl⟩ (b9 (aM (ou T) (hr.mono (by decide)) (aa (pv 1) (aa (pv 2) ag)))) (fun _ _ _ _ _ _=>(aD (i:=0) (by show QK (["voter","purses"]:List Qg);decide +kernel) rfl (Qn rfl))) (fun _ _ _ _ _ _=>bQ) (fun _ _ _ _ _ _=>(bF aU (pv 1) (pv 0) (fun _ _=>rfl)))) (aa (pv 3) ag)))))) DG
theorem yA(T:Txt K mg):jN P w K mg base 5 "offers_of" ["purses","costs","wishes","done"] (lx K):=T.DE.cal (rd:=lN K) iU (aI rfl) (fun f cdv A outer s H E hr=>
 (ah (aS (i:=4) iU.nd rfl (Qn rfl) (cO ag))
   (ah (eT Rx rfl (rX (by rfl) T.fD (aM (zk T) (hr.mono (by decide)) (aa (pv 1) (aa (pv 2) ag)))) (cW rfl (aG (aD (i:=5) iU.nd rfl (Qn rfl)) (aG (aD (i:=6) iU.nd rfl (Qn rfl)) cp))) (aj (bV (gG Uj Tf Ub gI (pv 4) (aa (x5 (aE o8 (pv 5) (pv 3) rfl) gT (aM (AD T) (hr.mono (by decide)) (aa (pv 0) (aa (pv 2) (aa (pv 5) (aa (pv 6) ag)))))) ag)))))
   (aj (az (pv 4)))))) BJ
theorem Cg(T:Txt K mg):jN P w K mg base 1 "next_of" ["offers"] (qr K):=T.Hi.cal (rd:=qy K) jg (aI rfl) (fun f cdv A outer s H E hr=>
 (ah (aS (i:=1) jg.nd rfl (Qn rfl) gT)
   (ah (eT Rx rfl (rX (by rfl) T.fD (pv 0)) (cW rfl (aG (aD (i:=2) jg.nd rfl (Qn rfl)) (aG (aD (i:=3) jg.nd rfl (Qn rfl)) cp))) (aj (bz (PW.pt (qk (aE F4 (pv 3) gT (aJ _)) (sy (PW.pt (zE (aE BY (pv 1) gT (aJ _)) (tJ (aE w9 (pv 3) (bF aU (pv 0) (pv 1) (fun _ _=>rfl)) (aJ _)))))))) (aj (aS (i:=1) jg.nd rfl (Qn rfl) (pv 2))) aK)))
   (aj (az (pv 1)))))) Eo
theorem AR(T:Txt K mg):jN P w K mg base 1 "works_of" ["steps"] (oz K):=T.Fe.cal (rd:=og K) CM (aI rfl) (fun f cdv A outer s H E hr=>
 (aj (az (bf ur (by rfl) T.DI XH (aa (cg (N:=["work","level","paid"]) (mp:=[none,none,none]) rfl ⟨rfl,nofun,by rfl,rfl,by rfl⟩ (b9 (pv 0)) (fun _ _ _ _ _ _=>(cW rfl (aG (aD (i:=0) (by show QK (["work","level","paid"]:List Qg);decide +kernel) rfl (Qn rfl)) (aG (aD (i:=1) (by show QK (["work","level","paid"]:List Qg);decide +kernel) rfl (Qn rfl)) (aG (aD (i:=2) (by show QK (["work","level","paid"]:List Qg);decide +kernel) rfl (Qn rfl)) cp))))) (fun _ _ _ _ _ _=>bQ) (fun _ _ _ _ _ _=>(pv 0))) ag))))) C7
theorem D0(T:Txt K mg):jN P w K mg base 1 "paid_at" ["purses","level"] (qR K):=T.HX.cal (rd:=qG K) EC (aI rfl) (fun f cdv A outer s H E hr=>
 (aj (az (cg (N:=["purse","level"]) (mp:=[none,some 1]) rfl ⟨rfl,nofun,by rfl,rfl,by rfl⟩ (b9 (pv 0)) (fun _ _ _ _ _ _=>(aD (i:=0) (by show QK (["purse","level"]:List Qg);decide +kernel) rfl (Qn rfl))) (fun _ _ _ _ _ _=>bQ) (fun _ _ _ _ _ _=>(bf (HP rfl) (by rfl) T.z_min aaZ (aa (pv 0) (aa (pv 1) ag)))))))) Es
theorem u6(T:Txt K mg):jN P w K mg base 4 "payments_of" ["purses","wishes","work","level"] (ju K):=T.yj.cal (rd:=ja K) ot (aI rfl) (fun f cdv A outer s H E hr=>
 (ah (aS (i:=4) ot.nd rfl (Ti rfl) (aM (ou T) (hr.mono (by decide)) (aa (pv 1) (aa (pv 2) ag))))
   (aj (az (cg (N:=["voter","paid","wanters"]) (mp:=[none,none,some 4]) rfl ⟨rfl,nofun,by rfl,rfl,by rfl⟩ (rX (by rfl) T.fD (aM (D0 T) (hr.mono (by decide)) (aa (pv 0) (aa (pv 3) ag)))) (fun _ _ _ _ _ _=>(cW rfl (aG (aD (i:=0) (by show QK (["voter","paid","wanters"]:List Qg);decide +kernel) rfl (Qn rfl)) (aG (aD (i:=1) (by show QK (["voter","paid","wanters"]:List Qg);decide +kernel) rfl (Qn rfl)) cp)))) (fun _ _ _ _ _ _=>bQ) (fun _ _ _ _ _ _=>(x5 (aE o8 (pv 0) (pv 2) rfl) (pv 1) ak))))))) wK
theorem mJ(T:Txt K mg):jN P w K mg base 6 "step_behind" ["purses","costs","wishes","steps"] (el K):=T.yI.cal (rd:=jj K) eC (aI rfl) (fun f cdv A outer s H E hr=>
 (ah (aS (i:=4) eC.nd rfl (Qn rfl) (aM (uD T) (hr.mono (by decide)) (aa (pv 0) (aa (pv 3) ag))))
   (ah (aS (i:=5) eC.nd rfl (Qn rfl) (aM (yA T) (hr.mono (by decide)) (aa (pv 4) (aa (pv 1) (aa (pv 2) (aa (aM (AR T) (hr.mono (by decide)) (aa (pv 3) ag)) ag))))))
   (ah (aS (i:=6) eC.nd rfl (Qn rfl) (aM (Cg T) (hr.mono (by decide)) (aa (pv 5) ag)))
   (ah (bz (aE BY (pv 6) gT (aJ _)) (aj (az gT)) aK)
   (ah (aS (i:=7) eC.nd rfl (Qn rfl) (bF aU (pv 5) (pv 6) (fun _ _=>rfl)))
   (aj (az (dN (aa (pv 6) (aa (pv 7) (aa (aM (u6 T) (hr.mono (by decide)) (aa (pv 4) (aa (pv 2) (aa (pv 6) (aa (pv 7) ag))))) ag)))))))))))) wH
theorem Fh(T:Txt K mg):jN P w K mg base 7 "choose" ["purses","costs","wishes"] (sT K):=T.IE.cal (rd:=tX K) o7 (aI rfl) (fun f cdv A outer s H E hr=>
 (ah (aS (i:=3) o7.nd rfl (Qn rfl) (cO ag))
   (ah (aS (i:=4) o7.nd rfl (Qn rfl) (aM (mJ T) (hr.mono (by decide)) (aa (pv 0) (aa (pv 1) (aa (pv 2) (aa (pv 3) ag))))))
   (ah (Dw Rx (aE F4 (pv 4) gT (aJ _)) (ah (bV (gG Uj Tf Ub gI (pv 3) (aa (pv 4) ag)))
   (aj (aS (i:=4) o7.nd rfl (Qn rfl) (aM (mJ T) (hr.mono (by decide)) (aa (pv 0) (aa (pv 1) (aa (pv 2) (aa (pv 3) ag)))))))))
   (aj (az (pv 3))))))) HE
theorem nY(T:Txt K mg):fe sL P w K mg base 1 "Chest" "keep_coins" ["self","left","grains"] (eP K):=T.qu.cal (rd:=eR K) ph (aI rfl) (fun f cdv A outer s H E hr=>
 (ah (i0 (pv 0) (aA c5 (bf (wg rfl) (by rfl) T.z_sum VZ (aa (cg (N:=["part","grains"]) (mp:=[none,some 2]) rfl ⟨rfl,nofun,by rfl,rfl,by rfl⟩ (b9 (pv 1)) (fun _ _ _ _ _ _=>(aD (i:=0) (by show QK (["part","grains"]:List Qg);decide +kernel) rfl (Qn rfl))) (fun _ _ _ _ _ _=>bQ) (fun _ _ _ _ _ _=>(aA bu (pv 0) (pv 1)))) ag)) (pv 2)) xV)
   (aj (ip (pv 0) (Kq rfl (by rfl) T.Kz (by rfl) T.z_zip (aa (bK (pv 0) rfl) (aa (cg (N:=["part","grains"]) (mp:=[none,some 2]) rfl ⟨rfl,nofun,by rfl,rfl,by rfl⟩ (b9 (pv 1)) (fun _ _ _ _ _ _=>(aD (i:=0) (by show QK (["part","grains"]:List Qg);decide +kernel) rfl (Qn rfl))) (fun _ _ _ _ _ _=>bQ) (fun _ _ _ _ _ _=>(aA c5 (pv 0) (pv 1)))) ag))) rfl)))) (pq T.cls)
theorem kI(T:Txt K mg):fe sL P w K mg base 1 "Chest" "wanted_places" ["self","voter"] (dS K):=T.ni.cal (rd:=dR K) mf (aI rfl) (fun f cdv A outer s H E hr=>
 (aj (az (vB (cg (N:=["place","work","voter","self"]) (mp:=[none,none,some 1,some 0]) rfl ⟨rfl,nofun,by rfl,rfl,by rfl⟩ (IY (by rfl) T.fD (bK (pv 0) rfl)) (fun _ _ _ _ _ _=>(cW rfl (aG (aD (i:=0) (by show QK (["place","work","voter","self"]:List Qg);decide +kernel) rfl (Qn rfl)) (aG (aD (i:=1) (by show QK (["place","work","voter","self"]:List Qg);decide +kernel) rfl (Qn rfl)) cp)))) (fun _ _ _ _ _ _=>(jq (aE (Kw hr.units) (dN (aa (pv 2) (aa (pv 1) ag))) (bK (pv 3) rfl) rfl))) (fun _ _ _ _ _ _=>(pv 0))))))) (lr T.cls)
theorem pj(T:Txt K mg):fe sL P w K mg base 1 "Chest" "told_step" ["self","place","paid"] (fu K):=T.sH.cal (rd:=fA K) fz (aI rfl) (fun f cdv A outer s H E hr=>
 (ah (aS (i:=3) fz.nd rfl (Qn rfl) (bF aU (bR (Et rfl) (by rfl) T.Fu VT (aa (bK (pv 0) rfl) ag)) (pv 1) (fun _ _=>rfl)))
   (ah (xH (oU (i:=4) (N:=["voter","part"]) (mp:=[none,none]) fz.nd rfl (Qn rfl) rfl ⟨rfl,nofun,by rfl,rfl,by rfl⟩ (LR (by rfl) T.z_zip (aa (bK (pv 0) rfl) (aa (pv 2) ag))) (fun _ _ _ _ _ _=>(cW rfl (aG (aD (i:=0) (by show QK (["voter","part"]:List Qg);decide +kernel) rfl (Qn rfl)) (aG (aD (i:=1) (by show QK (["voter","part"]:List Qg);decide +kernel) rfl (Qn rfl)) cp)))) (fun _ _ _ _ _ _=>(jq (aE J8 (pv 1) ak (aJ _)))) (fun _ _ _ _ _ _=>(dN (aa (pv 0) (aa (pv 1) ag)))) (by with_unfolding_all rfl)))
   (aj (az (dN (aa (pv 3) (aa (FA (yf hr) (bK (pv 0) rfl) (pv 3) (fun _ _=>rfl)) (aa (pv 4) ag))))))))) (qB T.cls)
theorem eu(T:Txt K mg):fe (eQ P w base) P w K mg base 1 "Chest" "check_work" ["self","work"] (c8 K):=T.qO.calX (rd:=eS K) pD (fun _ _ _ _ h=>h.1) (fun f cdv A outer s H E hr=>
 (aj (bz (Ek (zS (yf hr) (pv 1) (bK (pv 0) rfl))) (aj (dq T.kH (aa (dF (.cons aB (.cons (iN (pv 1)) .nil))) ag))) aK))) (pA T.cls)
theorem fB(T:Txt K mg):fe (eQ P w base) P w K mg base 2 "Chest" "withdraw" ["self","work"] (dz K):=T.tL.calX (rd:=gz K) su (fun _ _ _ _ h=>h.1) (fun f cdv A outer s H E hr=>
 (ah (bV (ck (eu T) T.aY (hr.mono (by decide)) (pv 0) (aa (pv 1) ag)))
   (ah (PS.nox (bV (Cb (bK (pv 0) rfl) (pv 1) ⟨rfl,rfl,rfl,rfl⟩)))
   (aj (PS.nox (ip (pv 0) (cg (N:=["voter","other","work"]) (mp:=[none,none,some 1]) rfl ⟨rfl,nofun,by rfl,rfl,by rfl⟩ (b9 (bK (pv 0) rfl)) (fun _ _ _ _ _ _=>(cW rfl (aG (aD (i:=0) (by show QK (["voter","other","work"]:List Qg);decide +kernel) rfl (Qn rfl)) (aG (aD (i:=1) (by show QK (["voter","other","work"]:List Qg);decide +kernel) rfl (Qn rfl)) cp)))) (fun _ _ _ _ _ _=>(jq (aE Gi (pv 1) (pv 2) (aJ _)))) (fun _ _ _ _ _ _=>(dN (aa (pv 0) (aa (pv 1) ag))))) rfl)))))) (rJ T.cls)
theorem mP(T:Txt K mg):fe sL P w K mg base 8 "Chest" "close" ["self"] (fN K):=T.yZ.cal (rd:=i7 K) cI (aI rfl) (fun f cdv A outer s H E hr=>
 (ah (bz (PW.pt (zE (lI (E4 (bK (pv 0) rfl))) (tJ (lI (E4 (bK (pv 0) rfl)))))) (aj (az (dN (aa (cO ag) (aa ak ag))))) aK)
   (ah (aS (i:=1) cI.nd rfl (Ti rfl) (aM (pI T) (hr.mono (by decide)) (aa (bf jt (by rfl) T.z_len Rp (aa (bK (pv 0) rfl) ag)) (aa (bf jt (by rfl) T.z_len Rp (aa (bK (pv 0) rfl) ag)) ag))))
   (ah (xH (oU (i:=2) (N:=["purse","grains"]) (mp:=[none,some 1]) cI.nd rfl (Qn rfl) rfl ⟨rfl,nofun,by rfl,rfl,by rfl⟩ (Lu (bK (pv 0) rfl)) (fun _ _ _ _ _ _=>(aD (i:=0) (by show QK (["purse","grains"]:List Qg);decide +kernel) rfl (Qn rfl))) (fun _ _ _ _ _ _=>bQ) (fun _ _ _ _ _ _=>(aA fj (pv 0) (pv 1))) (by with_unfolding_all rfl)))
   (ah (xH (oU (i:=3) (N:=["voter","self"]) (mp:=[none,some 0]) cI.nd rfl (Qn rfl) rfl ⟨rfl,nofun,by rfl,rfl,by rfl⟩ (FP (bK (pv 0) rfl)) (fun _ _ _ _ _ _=>(aD (i:=0) (by show QK (["voter","self"]:List Qg);decide +kernel) rfl (Qn rfl))) (fun _ _ _ _ _ _=>bQ) (fun _ _ _ _ _ _=>(ro (kI T) T.aY (hr.mono (by decide)) (pv 1) (aa (pv 0) ag))) (by with_unfolding_all rfl)))
   (ah (aS (i:=4) cI.nd rfl (Qn rfl) (aM (Fh T) (hr.mono (by decide)) (aa (pv 2) (aa (bR (Av rfl) (by rfl) T.Fu VT (aa (Ex US U6 Xk KU (bK (pv 0) rfl)) ag)) (aa (pv 3) ag)))))
   (ah (oU (i:=5) (N:=["work","level","paid","self"]) (mp:=[none,none,none,some 0]) cI.nd rfl (Qn rfl) rfl ⟨rfl,nofun,by rfl,rfl,by rfl⟩ (b9 (pv 4)) (fun _ _ _ _ _ _=>(cW rfl (aG (aD (i:=0) (by show QK (["work","level","paid","self"]:List Qg);decide +kernel) rfl (Qn rfl)) (aG (aD (i:=1) (by show QK (["work","level","paid","self"]:List Qg);decide +kernel) rfl (Qn rfl)) (aG (aD (i:=2) (by show QK (["work","level","paid","self"]:List Qg);decide +kernel) rfl (Qn rfl)) cp))))) (fun _ _ _ _ _ _=>bQ) (fun _ _ _ _ _ _=>(ro (pj T) T.aY (hr.mono (by decide)) (pv 3) (aa (pv 0) (aa (pv 2) ag)))) (by with_unfolding_all rfl))
   (ah (bV (ro (nY T) T.aY (hr.mono (by decide)) (pv 0) (aa (aM (uD T) (hr.mono (by decide)) (aa (pv 2) (aa (pv 4) ag))) (aa (pv 1) ag))))
   (ah (eT Rx rfl (b9 (pv 5)) (cW rfl (aG (aD (i:=6) cI.nd rfl (Qn rfl)) (aG (aD (i:=7) cI.nd rfl (Qn rfl)) (aG (aD (i:=8) cI.nd rfl (Qn rfl)) cp)))) (ah (i0 (pv 0) (pv 7) xV)
   (aj (bV (IB (fB T) T.aY (hr.mono (by decide)) (pv 0) (aa (pv 6) ag))))))
   (aj (az (dN (aa (pv 5) (aa (pv 1) ag)))))))))))))) (xT T.cls)
theorem yJ(T:Txt K mg):jN P w K mg base 1 "paid_text" ["rows"] (lu K):=T.C9.cal (rd:=lW K) BX (aI rfl) (fun f cdv A outer s H E hr=>
 (aj (az (gG RZ Se Sv ib aB (aa (cg (N:=["voter","paid"]) (mp:=[none,none]) rfl ⟨rfl,nofun,by rfl,rfl,by rfl⟩ (b9 (pv 0)) (fun _ _ _ _ _ _=>(cW rfl (aG (aD (i:=0) (by show QK (["voter","paid"]:List Qg);decide +kernel) rfl (Qn rfl)) (aG (aD (i:=1) (by show QK (["voter","paid"]:List Qg);decide +kernel) rfl (Qn rfl)) cp)))) (fun _ _ _ _ _ _=>bQ) (fun _ _ _ _ _ _=>(dF (.cons (lH (pv 0)) (.cons aB (.cons (qU (pv 1)) .nil)))))) ag))))) AX
theorem zm(T:Txt K mg):jN P w K mg base 2 "done_text" ["work","cost","rows"] (k8 K):=T.CN.cal (rd:=l6 K) rq (aI rfl) (fun f cdv A outer s H E hr=>
 (ah (aS (i:=3) rq.nd rfl (Qn rfl) (aM (yJ T) (hr.mono (by decide)) (aa (pv 2) ag)))
   (aj (az (dF (.cons (lH (pv 0)) (.cons aB (.cons (qU (pv 1)) (.cons aB (.cons (lH (pv 3)) .nil)))))))))) Bk
theorem tG(T:Txt K mg):jN P w K mg base 3 "closing_text" ["done","grains"] (iB K):=T.x6.cal (rd:=iD K) mO (aI rfl) (fun f cdv A outer s H E hr=>
 (ah (bz (lI (Fg (pv 0))) (aj (az aB)) aK)
   (ah (aS (i:=2) mO.nd rfl (Qn rfl) (gG RZ Se Sv ib aB (aa (cg (N:=["work","cost","rows"]) (mp:=[none,none,none]) rfl ⟨rfl,nofun,by rfl,rfl,by rfl⟩ (b9 (pv 0)) (fun _ _ _ _ _ _=>(cW rfl (aG (aD (i:=0) (by show QK (["work","cost","rows"]:List Qg);decide +kernel) rfl (Qn rfl)) (aG (aD (i:=1) (by show QK (["work","cost","rows"]:List Qg);decide +kernel) rfl (Qn rfl)) (aG (aD (i:=2) (by show QK (["work","cost","rows"]:List Qg);decide +kernel) rfl (Qn rfl)) cp))))) (fun _ _ _ _ _ _=>bQ) (fun _ _ _ _ _ _=>(aM (zm T) (hr.mono (by decide)) (aa (pv 0) (aa (pv 1) (aa (pv 2) ag)))))) ag)))
   (aj (az (dF (.cons (lH (pv 2)) (.cons aB (.cons (qU (pv 1)) .nil))))))))) vn
theorem uS(T:Txt K mg):jN P w K mg base 9 "close_chest" ["chest"] (jA K):=T.yD.cal (rd:=jo K) nV (aI rfl) (fun f cdv A outer s H E hr=>
 (ah (aS (i:=1) nV.nd rfl (Qn rfl) (c7 (mP T) T.aY (hr.mono (by decide)) (pv 0)))
   (aj (az (aM (tG T) (hr.mono (by decide)) (aa (bF Ej (pv 1) ak (fun _ _=>rfl)) (aa (bF Ej (pv 1) ak (fun _ _=>rfl)) ag))))))) xN
theorem y4(T:Txt K mg):jN P w K mg base 1 "work_text" ["work","cost","wanters"] (lK K):=T.B9.cal (rd:=lS K) sA (aI rfl) (fun f cdv A outer s H E hr=>
 (ah (aS (i:=3) sA.nd rfl (Qn rfl) (x5 (Fg (pv 2)) (gG RZ Se Sv ib aB (aa (pv 2) ag)) aB))
   (aj (az (dF (.cons (lH (pv 0)) (.cons aB (.cons (qU (pv 1)) (.cons aB (.cons (lH (pv 3)) .nil)))))))))) B5
theorem wc(T:Txt K mg):jN P w K mg base 2 "works_text" ["works"] (ke K):=T.BI.cal (rd:=kA K) y8 (aI rfl) (fun f cdv A outer s H E hr=>
 (ah (bz (lI (Fg (pv 0))) (aj (az aB)) aK)
   (aj (az (gG RZ Se Sv ib aB (aa (cg (N:=["work","cost","wanters"]) (mp:=[none,none,none]) rfl ⟨rfl,nofun,by rfl,rfl,by rfl⟩ (b9 (pv 0)) (fun _ _ _ _ _ _=>(cW rfl (aG (aD (i:=0) (by show QK (["work","cost","wanters"]:List Qg);decide +kernel) rfl (Qn rfl)) (aG (aD (i:=1) (by show QK (["work","cost","wanters"]:List Qg);decide +kernel) rfl (Qn rfl)) (aG (aD (i:=2) (by show QK (["work","cost","wanters"]:List Qg);decide +kernel) rfl (Qn rfl)) cp))))) (fun _ _ _ _ _ _=>bQ) (fun _ _ _ _ _ _=>(aM (y4 T) (hr.mono (by decide)) (aa (pv 0) (aa (pv 1) (aa (pv 2) ag)))))) ag)))))) yK
theorem sh(T:Txt K mg):fe sL P w K mg base 1 "Chest" "wanters" ["self","work"] (gK K):=T.vm.cal (rd:=gO K) sW (aI rfl) (fun f cdv A outer s H E hr=>
 (aj (az (vB (cg (N:=["voter","work","self"]) (mp:=[none,some 1,some 0]) rfl ⟨rfl,nofun,by rfl,rfl,by rfl⟩ (FP (bK (pv 0) rfl)) (fun _ _ _ _ _ _=>(aD (i:=0) (by show QK (["voter","work","self"]:List Qg);decide +kernel) rfl (Qn rfl))) (fun _ _ _ _ _ _=>(jq (aE (Kw hr.units) (dN (aa (pv 0) (aa (pv 1) ag))) (bK (pv 2) rfl) rfl))) (fun _ _ _ _ _ _=>(pv 0))))))) (sX T.cls)
theorem fk(T:Txt K mg):fe sL P w K mg base 2 "Chest" "works" ["self"] (dH K):=T.yH.cal (rd:=jf K) xj (aI rfl) (fun f cdv A outer s H E hr=>
 (aj (az (vB (cg (N:=["work","cost","self"]) (mp:=[none,none,some 0]) rfl ⟨rfl,nofun,by rfl,rfl,by rfl⟩ (DX (bK (pv 0) rfl)) (fun _ _ _ _ _ _=>(cW rfl (aG (aD (i:=0) (by show QK (["work","cost","self"]:List Qg);decide +kernel) rfl (Qn rfl)) (aG (aD (i:=1) (by show QK (["work","cost","self"]:List Qg);decide +kernel) rfl (Qn rfl)) cp)))) (fun _ _ _ _ _ _=>bQ) (fun _ _ _ _ _ _=>(dN (aa (pv 0) (aa (pv 1) (aa (ro (sh T) T.aY (hr.mono (by decide)) (pv 2) (aa (pv 0) ag)) ag)))))))))) (wC T.cls)
theorem pK(T:Txt K mg):fe sL P w K mg base 1 "Chest" "pot" ["self"] (iR K):=T.DJ.cal (rd:=mo K) AM (aI rfl) (fun f cdv A outer s H E hr=>
 (aj (az (bK (pv 0) rfl)))) (BG T.cls)
theorem mZ(T:Txt K mg):fe sL P w K mg base 1 "Chest" "given" ["self"] (fU K):=T.y0.cal (rd:=i8 K) wb (aI rfl) (fun f cdv A outer s H E hr=>
 (aj (az (bK (pv 0) rfl)))) (xB T.cls)
theorem mM(T:Txt K mg):fe sL P w K mg base 1 "Chest" "spent" ["self"] (gv K):=T.yU.cal (rd:=jn K) wQ (aI rfl) (fun f cdv A outer s H E hr=>
 (aj (az (bK (pv 0) rfl)))) (xq T.cls)
theorem Ct(T:Txt K mg):vi P w K mg base 10 "say_one" ["chest","deed"] (qo K):=T.HF.calX (rd:=qZ K) Ew (fun _ _ _ _ h=>h.1) (fun f cdv A outer s H E hr=>
 (ah (PS.nox (bz (aE bX (pv 1) aB (aJ _)) (aj (PS.nox (az (aM (uS T) (hr.mono (by decide)) (aa (pv 0) ag))))) aK))
   (ah (PS.nox (bz (aE bX (pv 1) aB (aJ _)) (aj (PS.nox (az (aM (wc T) (hr.mono (by decide)) (aa (c7 (fk T) T.aY (hr.mono (by decide)) (pv 0)) ag))))) aK))
   (ah (PS.nox (bz (aE bX (pv 1) aB (aJ _)) (aj (PS.nox (az (bR dc (by rfl) T.z_str RT (aa (c7 (pK T) T.aY (hr.mono (by decide)) (pv 0)) ag))))) aK))
   (ah (PS.nox (bz (aE bX (pv 1) aB (aJ _)) (aj (PS.nox (az (bR dc (by rfl) T.z_str RT (aa (c7 (mZ T) T.aY (hr.mono (by decide)) (pv 0)) ag))))) aK))
   (ah (PS.nox (bz (aE bX (pv 1) aB (aJ _)) (aj (PS.nox (az (bR dc (by rfl) T.z_str RT (aa (c7 (mM T) T.aY (hr.mono (by decide)) (pv 0)) ag))))) aK))
   (aj (dq T.gr (aa (dF (.cons aB (.cons (iN (pv 1)) .nil))) ag))))))))) Fq
theorem Dr(T:Txt K mg):jN P w K mg base 1 "is_name" ["name"] (qx K):=T.HY.cal (rd:=qL K) EK (aI rfl) (fun f cdv A outer s H E hr=>
 (aj (az (JS (DM Ax Ax ak (bf oW (by rfl) T.z_len Rp (aa (pv 0) ag)) (T.wq.pe (by rfl))) (IX (bf (wW rfl) (by rfl) T.z_all Ww (aa (cg (N:=["sign"]) (mp:=[none]) rfl ⟨rfl,nofun,by rfl,rfl,by rfl⟩ (F7 (pv 0)) (fun _ _ _ _ _ _=>(aD (i:=0) (by show QK (["sign"]:List Qg);decide +kernel) rfl (Qn rfl))) (fun _ _ _ _ _ _=>bQ) (fun _ _ _ _ _ _=>(dJ Kv (pv 0) (T.Ic.pe (by rfl)) rfl))) ag))))))) Ef
theorem ji(T:Txt K mg):vi P w K mg base 2 "check_new_name" ["name","names"] (d7 K):=T.tK.calX (rd:=fO K) rR (fun _ _ _ _ h=>h.1) (fun f cdv A outer s H E hr=>
 (ah (bz (lI (mi (aM (Dr T) (hr.mono (by decide)) (aa (pv 0) ag)))) (aj (dq T.kF (aa (dF (.cons aB (.cons (iN (pv 0)) .nil))) ag))) aK)
   (aj (bz (Ek (Mz (yf hr) (pv 0) (pv 1))) (aj (dq T.oX (aa (dF (.cons aB (.cons (lH (pv 0)) .nil))) ag))) aK)))) rK
theorem m6(T:Txt K mg):vi P w K mg base 1 "check_place" ["names","most"] (gh K):=T.zq.calX (rd:=jK K) vM (fun _ _ _ _ h=>h.1) (fun f cdv A outer s H E hr=>
 (aj (bz (aE Bb (bf jt (by rfl) T.z_len Rp (aa (pv 0) ag)) (pv 1) (aJ _)) (aj (dq T.sR (aa (dF (.cons aB (.cons (qU (pv 1)) (.cons aB .nil)))) ag))) aK))) wJ
theorem mT(T:Txt K mg):fe (eQ P w base) P w K mg base 3 "Chest" "enrol" ["self","name"] (gd K):=T.zc.calX (rd:=jB K) xD (fun _ _ _ _ h=>h.1) (fun f cdv A outer s H E hr=>
 (ah (bV (ff (ji T) (hr.mono (by decide)) (aa (pv 1) (aa (bK (pv 0) rfl) ag))))
   (ah (bV (ff (m6 T) (hr.mono (by decide)) (aa (bK (pv 0) rfl) (aa (T.yW.pe (by rfl)) ag))))
   (aj (PS.nox (Fz (yf hr) (bK (pv 0) rfl) (pv 1) ak rfl)))))) (yi T.cls)
theorem di(T:Txt K mg):fe (eQ P w base) P w K mg base 1 "Chest" "check_voter" ["self","voter"] (cB K):=T.pz.calX (rd:=ef K) oH (fun _ _ _ _ h=>h.1) (fun f cdv A outer s H E hr=>
 (aj (bz (Ek (zS (yf hr) (pv 1) (bK (pv 0) rfl))) (aj (dq T.i6 (aa (dF (.cons aB (.cons (iN (pv 1)) .nil))) ag))) aK))) (oO T.cls)
theorem qT(T:Txt K mg):fe (eQ P w base) P w K mg base 2 "Chest" "purse_of" ["self","voter"] (fX K):=T.tj.calX (rd:=fW K) sq (fun _ _ _ _ h=>h.1) (fun f cdv A outer s H E hr=>
 (ah (bV (ck (di T) T.aY (hr.mono (by decide)) (pv 0) (aa (pv 1) ag)))
   (aj (PS.nox (az (FA (yf hr) (bK (pv 0) rfl) (pv 1) (fun _ _=>rfl))))))) (rM T.cls)
theorem mQ(T:Txt K mg):fe (eQ P w base) P w K mg base 2 "Chest" "leave" ["self","name"] (fQ K):=T.yO.calX (rd:=jw K) xl (fun _ _ _ _ h=>h.1) (fun f cdv A outer s H E hr=>
 (ah (bV (ck (di T) T.aY (hr.mono (by decide)) (pv 0) (aa (pv 1) ag)))
   (ah (PS.nox (i0 (pv 0) (Cb (bK (pv 0) rfl) (pv 1) ⟨rfl,rfl,rfl,rfl⟩) xV))
   (aj (PS.nox (ip (pv 0) (cg (N:=["voter","work","name"]) (mp:=[none,none,some 1]) rfl ⟨rfl,nofun,by rfl,rfl,by rfl⟩ (b9 (bK (pv 0) rfl)) (fun _ _ _ _ _ _=>(cW rfl (aG (aD (i:=0) (by show QK (["voter","work","name"]:List Qg);decide +kernel) rfl (Qn rfl)) (aG (aD (i:=1) (by show QK (["voter","work","name"]:List Qg);decide +kernel) rfl (Qn rfl)) cp)))) (fun _ _ _ _ _ _=>(jq (aE Gi (pv 0) (pv 2) (aJ _)))) (fun _ _ _ _ _ _=>(dN (aa (pv 0) (aa (pv 1) ag))))) rfl)))))) (xP T.cls)
theorem mW(T:Txt K mg):vi P w K mg base 1 "check_coins" ["coins","least"] (gA K):=T.y9.calX (rd:=jb K) w6 (fun _ _ _ _ h=>h.1) (fun f cdv A outer s H E hr=>
 (aj (bz (PW.pt (zE (aE w9 (pv 0) (pv 1) (aJ _)) (tJ (aE J8 (pv 0) (T.om.pe (by rfl)) (aJ _))))) (aj (dq T.i4 (aa (dF (.cons aB (.cons (qU (pv 1)) (.cons aB (.cons (qU (T.om.pe (by rfl))) (.cons aB .nil)))))) ag))) aK))) xx
theorem vg(T:Txt K mg):fe sL P w K mg base 1 "Chest" "share" ["self","part"] (jv K):=T.ze.cal (rd:=i9 K) x9 (aI rfl) (fun f cdv A outer s H E hr=>
 (ah (i0 (pv 0) (aA fj (pv 1) (bf jt (by rfl) T.z_len Rp (aa (bK (pv 0) rfl) ag))) Mw)
   (aj (ip (pv 0) (bR (Fj rfl) (by rfl) T.Kz nofun (aa (vB (cg (N:=["voter","purse","part"]) (mp:=[none,none,some 1]) rfl ⟨rfl,nofun,by rfl,rfl,by rfl⟩ (DX (bK (pv 0) rfl)) (fun _ _ _ _ _ _=>(cW rfl (aG (aD (i:=0) (by show QK (["voter","purse","part"]:List Qg);decide +kernel) rfl (Qn rfl)) (aG (aD (i:=1) (by show QK (["voter","purse","part"]:List Qg);decide +kernel) rfl (Qn rfl)) cp)))) (fun _ _ _ _ _ _=>bQ) (fun _ _ _ _ _ _=>(dN (aa (pv 0) (aa (aA cF (pv 1) (pv 2)) ag)))))) ag)) rfl)))) (yd T.cls)
theorem nE(T:Txt K mg):fe (eQ P w base) P w K mg base 2 "Chest" "give" ["self","coins"] (g9 K):=T.Bt.calX (rd:=kl K) yB (fun _ _ _ _ h=>h.1) (fun f cdv A outer s H E hr=>
 (ah (bV (ff (mW T) (hr.mono (by decide)) (aa (pv 1) (aa ak ag))))
   (ah (PS.nox (i0 (pv 0) (pv 1) xV))
   (ah (PS.nox (i0 (pv 0) (pv 1) xV))
   (aj (PS.nox (bz (E4 (bK (pv 0) rfl)) (aj (PS.nox (bV (ro (vg T) T.aY (hr.mono (by decide)) (pv 0) (aa (aA c5 (bK (pv 0) rfl) (bf jt (by rfl) T.z_len Rp (aa (bK (pv 0) rfl) ag))) ag))))) aK))))))) (yz T.cls)
theorem yl(T:Txt K mg):jN P w K mg base 1 "is_number" ["word"] (mB K):=T.CB.cal (rd:=lL K) BK (aI rfl) (fun f cdv A outer s H E hr=>
 (ah (bz (mi (gG RZ Xc aat yn (pv 0) (aa aB ag))) (aj (az (dJ bX (pv 0) aB (aJ _)))) aK)
   (aj (az (JS (DM Ax Ax ak (bf oW (by rfl) T.z_len Rp (aa (pv 0) ag)) (T.xY.pe (by rfl))) (IX (bf (wW rfl) (by rfl) T.z_all Ww (aa (cg (N:=["sign"]) (mp:=[none]) rfl ⟨rfl,nofun,by rfl,rfl,by rfl⟩ (F7 (pv 0)) (fun _ _ _ _ _ _=>(aD (i:=0) (by show QK (["sign"]:List Qg);decide +kernel) rfl (Qn rfl))) (fun _ _ _ _ _ _=>bQ) (fun _ _ _ _ _ _=>(dJ Kv (pv 0) (T.Hh.pe (by rfl)) rfl))) ag)))))))) AL
theorem m9(T:Txt K mg):vi P w K mg base 2 "read_number" ["word"] (gk K):=T.zr.calX (rd:=jr K) xR (fun _ _ _ _ h=>h.1) (fun f cdv A outer s H E hr=>
 (ah (bz (lI (mi (aM (yl T) (hr.mono (by decide)) (aa (pv 0) ag)))) (aj (dq T.gr (aa (dF (.cons aB (.cons (iN (pv 0)) .nil))) ag))) aK)
   (aj (PS.nox (az (bR Ho (by rfl) T.z_int Vo (aa (pv 0) ag))))))) vZ
theorem CP(T:Txt K mg):vi P w K mg base 4 "say_two" ["chest","deed","word"] (ql K):=T.GO.calX (rd:=qE K) EV (fun _ _ _ _ h=>h.1) (fun f cdv A outer s H E hr=>
 (ah (bz (aE bX (pv 1) aB (aJ _)) (aj (az (bR dc (by rfl) T.z_str RT (aa (ck (qT T) T.aY (hr.mono (by decide)) (pv 0) (aa (pv 2) ag)) ag)))) aK)
   (ah (bz (aE bX (pv 1) aB (aJ _)) (aj (bV (ck (mT T) T.aY (hr.mono (by decide)) (pv 0) (aa (pv 2) ag)))) (aj (bz (aE bX (pv 1) aB (aJ _)) (aj (bV (ck (mQ T) T.aY (hr.mono (by decide)) (pv 0) (aa (pv 2) ag)))) (aj (bz (aE bX (pv 1) aB (aJ _)) (aj (bV (ck (nE T) T.aY (hr.mono (by decide)) (pv 0) (aa (ff (m9 T) (hr.mono (by decide)) (aa (pv 2) ag)) ag)))) (aj (bz (aE bX (pv 1) aB (aJ _)) (aj (bV (ck (fB T) T.aY (hr.mono (by decide)) (pv 0) (aa (pv 2) ag)))) (aj (dq T.gr (aa (dF (.cons aB (.cons (iN (pv 1)) .nil))) ag))))))))))
   (aj (PS.nox (az aB)))))) Fw
theorem jP(T:Txt K mg):fe (eQ P w base) P w K mg base 3 "Chest" "propose" ["self","work","cost"] (eL K):=T.uY.calX (rd:=gR K) tf (fun _ _ _ _ h=>h.1) (fun f cdv A outer s H E hr=>
 (ah (bV (ff (ji T) (hr.mono (by decide)) (aa (pv 1) (aa (bK (pv 0) rfl) ag))))
   (ah (bV (ff (mW T) (hr.mono (by decide)) (aa (pv 2) (aa ak ag))))
   (ah (bV (ff (m6 T) (hr.mono (by decide)) (aa (bK (pv 0) rfl) (aa (T.Bh.pe (by rfl)) ag))))
   (aj (PS.nox (Fz (yf hr) (bK (pv 0) rfl) (pv 1) (pv 2) rfl))))))) (tQ T.cls)
theorem nX(T:Txt K mg):fe (eQ P w base) P w K mg base 2 "Chest" "want" ["self","voter","work"] (ia K):=T.AH.calX (rd:=j8 K) yk (fun _ _ _ _ h=>h.1) (fun f cdv A outer s H E hr=>
 (ah (bV (ck (di T) T.aY (hr.mono (by decide)) (pv 0) (aa (pv 1) ag)))
   (ah (bV (ck (eu T) T.aY (hr.mono (by decide)) (pv 0) (aa (pv 2) ag)))
   (aj (PS.nox (bz (aE (K3 hr.units) (dN (aa (pv 1) (aa (pv 2) ag))) (bK (pv 0) rfl) rfl) (aj (PS.nox (bV (gG Uj Tf Ub gI (bK (pv 0) rfl) (aa (dN (aa (pv 1) (aa (pv 2) ag))) ag))))) aK)))))) (yR T.cls)
theorem kQ(T:Txt K mg):fe (eQ P w base) P w K mg base 2 "Chest" "unwant" ["self","voter","work"] (fm K):=T.yg.calX (rd:=iw K) vb (fun _ _ _ _ h=>h.1) (fun f cdv A outer s H E hr=>
 (ah (bV (ck (di T) T.aY (hr.mono (by decide)) (pv 0) (aa (pv 1) ag)))
   (ah (bV (ck (eu T) T.aY (hr.mono (by decide)) (pv 0) (aa (pv 2) ag)))
   (aj (PS.nox (ip (pv 0) (cg (N:=["wish","voter","work"]) (mp:=[none,some 1,some 2]) rfl ⟨rfl,nofun,by rfl,rfl,by rfl⟩ (b9 (bK (pv 0) rfl)) (fun _ _ _ _ _ _=>(aD (i:=0) (by show QK (["wish","voter","work"]:List Qg);decide +kernel) rfl (Qn rfl))) (fun _ _ _ _ _ _=>(jq (aE (jG hr.units) (pv 0) (dN (aa (pv 1) (aa (pv 2) ag))) (aJ _)))) (fun _ _ _ _ _ _=>(pv 0))) rfl)))))) (vq T.cls)
theorem y6(T:Txt K mg):vi P w K mg base 4 "say_three" ["chest","deed","word","last"] (kZ K):=T.DH.calX (rd:=lG K) A8 (fun _ _ _ _ h=>h.1) (fun f cdv A outer s H E hr=>
 (ah (bz (aE bX (pv 1) aB (aJ _)) (aj (bV (ck (jP T) T.aY (hr.mono (by decide)) (pv 0) (aa (pv 2) (aa (ff (m9 T) (hr.mono (by decide)) (aa (pv 3) ag)) ag))))) (aj (bz (aE bX (pv 1) aB (aJ _)) (aj (bV (ck (nX T) T.aY (hr.mono (by decide)) (pv 0) (aa (pv 2) (aa (pv 3) ag))))) (aj (bz (aE bX (pv 1) aB (aJ _)) (aj (bV (ck (kQ T) T.aY (hr.mono (by decide)) (pv 0) (aa (pv 2) (aa (pv 3) ag))))) (aj (dq T.gr (aa (dF (.cons aB (.cons (iN (pv 1)) .nil))) ag))))))))
   (aj (PS.nox (az aB))))) AZ
theorem AF(T:Txt K mg):fe (eQ P w base) P w K mg base 11 "Desk" "say" ["self","row"] (jS K):=T.EW.calX (rd:=nB K) uI (fun _ _ _ _ h=>h.1) (fun f cdv A outer s H E hr=>
 (ah (aS (i:=2) uI.nd rfl (Qn rfl) (ff (xO T) (hr.mono (by decide)) (aa (pv 1) ag)))
   (ah (bz (aE bX (bf cA (by rfl) T.z_len Rp (aa (pv 2) ag)) ak (aJ _)) (aj (az (ff (Ct T) (hr.mono (by decide)) (aa (bK (pv 0) rfl) (aa (bF aU (pv 2) ak (fun _ _=>rfl)) ag))))) aK)
   (ah (bz (aE bX (bf cA (by rfl) T.z_len Rp (aa (pv 2) ag)) ak (aJ _)) (aj (az (ff (CP T) (hr.mono (by decide)) (aa (bK (pv 0) rfl) (aa (bF aU (pv 2) ak (fun _ _=>rfl)) (aa (bF aU (pv 2) ak (fun _ _=>rfl)) ag)))))) aK)
   (ah (bz (aE bX (bf cA (by rfl) T.z_len Rp (aa (pv 2) ag)) ak (aJ _)) (aj (az (ff (y6 T) (hr.mono (by decide)) (aa (bK (pv 0) rfl) (aa (bF aU (pv 2) ak (fun _ _=>rfl)) (aa (bF aU (pv 2) ak (fun _ _=>rfl)) (aa (bF aU (pv 2) ak (fun _ _=>rfl)) ag))))))) aK)
   (aj (dq T.gr (aa (dF (.cons aB (.cons (iN (pv 1)) .nil))) ag)))))))) (Cc T.cls)
theorem cw(T:Txt K mg):jN P w K mg base 12 "_law_said" ["desk","row"] (cj K):=T.CF.cal (rd:=mv K) fP (aI rfl) (fun f cdv A outer s H E hr=>
 (ah (aS (i:=2) fP.nd rfl (Qn rfl) gT)
   (ah (aS (i:=3) fP.nd rfl (Qn rfl) gT)
   (ah (GV (i:=4) (j:=3) rfl rfl (fun b=>(RD:b∉([]:List Qh))) rfl fP.nd rfl rfl rfl (by rfl) T.iO.bound (fun E=>(K8 (E:=E) (AF T) T.wX (hr.mono (by decide)) (fun b=>(RD:b∉([]:List Qh))) (pv 0) (aa (pv 1) ag))) (fun v=>(aj (aS (i:=2) fP.nd rfl (Qn rfl) (pv 4)))))
   (ah (bz (aE BY (pv 2) gT (aJ _)) (aj (az (pv 3))) aK)
   (aj (az (aM (kK T) (hr.mono (by decide)) (aa (pv 2) ag))))))))) (AV T.cls)
theorem mI(T:Txt K mg):jN P w K mg base 9 "_law_closed" ["chest"] (gf K):=T.ym.cal (rd:=jJ K) df (aI rfl) (fun f cdv A outer s H E hr=>
 (ah (Kt (c7 (mP T) T.aY (hr.mono (by decide)) (pv 0)) (cW rfl (aG (aD (i:=1) df.nd rfl (Qn rfl)) (aG (aD (i:=2) df.nd rfl (Qn rfl)) cp))))
   (ah (aS (i:=3) df.nd rfl (Qn rfl) (cO ag))
   (ah (eT Rx rfl (b9 (pv 1)) (cW rfl (aG (aD (i:=4) df.nd rfl (Qn rfl)) (aG (aD (i:=5) df.nd rfl (Qn rfl)) (aG (aD (i:=6) df.nd rfl (Qn rfl)) cp)))) (aj (bV (gG Uj Tf Ub gI (pv 3) (aa (aA bU (aA bU (aA bU (aA bU (pv 4) aB) (bR dc (by rfl) T.z_str RT (aa (pv 5) ag))) aB) (gG RZ Se Sv ib aB (aa (cg (N:=["name","part"]) (mp:=[none,none]) rfl ⟨rfl,nofun,by rfl,rfl,by rfl⟩ (b9 (pv 6)) (fun _ _ _ _ _ _=>(cW rfl (aG (aD (i:=0) (by show QK (["name","part"]:List Qg);decide +kernel) rfl (Qn rfl)) (aG (aD (i:=1) (by show QK (["name","part"]:List Qg);decide +kernel) rfl (Qn rfl)) cp)))) (fun _ _ _ _ _ _=>bQ) (fun _ _ _ _ _ _=>(aA bU (aA bU (pv 0) aB) (bR dc (by rfl) T.z_str RT (aa (pv 1) ag))))) ag))) ag)))))
   (ah (bz (aE (dD hr.units) (pv 3) (cO ag) (aJ _)) (aj (az aB)) aK)
   (aj (az (aA bU (aA bU (gG RZ Se Sv ib aB (aa (pv 3) ag)) aB) (bR dc (by rfl) T.z_str RT (aa (pv 2) ag)))))))))) wY
theorem cz(T:Txt K mg):jN P w K mg base 2 "_law_name" ["cell","k"] (bN K):=T.Dx.cal (rd:=kX K) eJ (aI rfl) (fun f cdv A outer s H E hr=>
 (ah (aS (i:=2) eJ.nd rfl (Ti rfl) aB)
   (ah (aS (i:=3) eJ.nd rfl (Qn rfl) (aM (nM T) (hr.mono (by decide)) (aa (pv 0) (aa ak ag))))
   (ah (aS (i:=4) eJ.nd rfl (Qn rfl) (gG RZ Se Sv ib aB (aa (cg (N:=["x","letters"]) (mp:=[none,some 2]) rfl ⟨rfl,nofun,by rfl,rfl,by rfl⟩ (b9 (eW AG (pv 3) j2 (fg ak))) (fun _ _ _ _ _ _=>(aD (i:=0) (by show QK (["x","letters"]:List Qg);decide +kernel) rfl (Qn rfl))) (fun _ _ _ _ _ _=>bQ) (fun _ _ _ _ _ _=>(bF tI (pv 1) (aA bu (pv 0) ak) (fun _ _=>rfl)))) ag)))
   (ah (bz (aE bX (aA bu (bF aU (pv 3) ak (fun _ _=>rfl)) ak) ak (aJ _)) (aj (az (aA bU (bF tI (pv 2) (aA bu (aA cF (bF aU (pv 3) ak (fun _ _=>rfl)) (aA c5 (pv 1) ak)) ak) (fun _ _=>rfl)) (eW qm (pv 4) j2 (fg (aA bu (pv 1) ak)))))) aK)
   (ah (bz (aE bX (aA bu (bF aU (pv 3) ak (fun _ _=>rfl)) ak) ak (aJ _)) (aj (az (aA bU (eW qm (pv 4) (fg (aA ri ak (aA bu (pv 1) ak))) j2) (bF tI (pv 2) (aA bu (aA cF (bF aU (pv 3) ak (fun _ _=>rfl)) (aA c5 (pv 1) ak)) ak) (fun _ _=>rfl))))) aK)
   (ah (aS (i:=4) eJ.nd rfl (Qn rfl) (eW qm (pv 4) j2 (fg (aA bu (aA c5 (bF aU (pv 3) ak (fun _ _=>rfl)) ak) ak))))
   (ah (aS (i:=5) eJ.nd rfl (Qn rfl) (aA bu (aA c5 (bF aU (pv 3) ak (fun _ _=>rfl)) ak) (aA cF (bf oW (by rfl) T.z_len Rp (aa (pv 4) ag)) ak)))
   (aj (az (aA bU (aA bU (eW qm (pv 4) j2 (fg (pv 5))) (bF tI (pv 2) (aA bu (aA cF (bF aU (pv 3) ak (fun _ _=>rfl)) (pv 1)) ak) (fun _ _=>rfl))) (eW qm (pv 4) (fg (pv 5)) j2)))))))))))) AK
theorem zf(T:Txt K mg):vi P w K mg base 4 "_law_call" ["chest","word","things"] (iW K):=T.DY.calX (rd:=mD K) Bs (fun _ _ _ _ h=>h.1) (fun f cdv A outer s H E hr=>
 (ah (bz (aE bX (pv 1) aB (aJ _)) (aj (az (ck (mT T) T.aY (hr.mono (by decide)) (pv 0) (aa (bF aU (pv 2) ak (fun _ _=>rfl)) ag)))) aK)
   (ah (bz (aE bX (pv 1) aB (aJ _)) (aj (az (ck (mQ T) T.aY (hr.mono (by decide)) (pv 0) (aa (bF aU (pv 2) ak (fun _ _=>rfl)) ag)))) aK)
   (ah (bz (aE bX (pv 1) aB (aJ _)) (aj (az (ck (nE T) T.aY (hr.mono (by decide)) (pv 0) (aa (bF aU (pv 2) ak (fun _ _=>rfl)) ag)))) aK)
   (ah (bz (aE bX (pv 1) aB (aJ _)) (aj (az (ck (jP T) T.aY (hr.mono (by decide)) (pv 0) (aa (bF aU (pv 2) ak (fun _ _=>rfl)) (aa (bF aU (pv 2) ak (fun _ _=>rfl)) ag))))) aK)
   (ah (bz (aE bX (pv 1) aB (aJ _)) (aj (az (ck (fB T) T.aY (hr.mono (by decide)) (pv 0) (aa (bF aU (pv 2) ak (fun _ _=>rfl)) ag)))) aK)
   (ah (bz (aE bX (pv 1) aB (aJ _)) (aj (az (ck (nX T) T.aY (hr.mono (by decide)) (pv 0) (aa (bF aU (pv 2) ak (fun _ _=>rfl)) (aa (bF aU (pv 2) ak (fun _ _=>rfl)) ag))))) aK)
   (aj (az (ck (kQ T) T.aY (hr.mono (by decide)) (pv 0) (aa (bF aU (pv 2) ak (fun _ _=>rfl)) (aa (bF aU (pv 2) ak (fun _ _=>rfl)) ag)))))))))))) BU
theorem gZ(T:Txt K mg):jN P w K mg base 5 "_law_done" ["chest","word","things"] (eF K):=T.Dg.cal (rd:=md K) iS (aI rfl) (fun f cdv A outer s H E hr=>
 (ah (aS (i:=3) iS.nd rfl (Qn rfl) gT)
   (ah (JH (i:=4) (fun b=>(RD:b∉([]:List Qh))) rfl iS.nd rfl rfl rfl (by rfl) T.iO.bound (fun E=>(MM (E:=E) (zf T) (hr.mono (by decide)) (fun b=>(RD:b∉([]:List Qh))) (aa (pv 0) (aa (pv 1) (aa (pv 2) ag))))) (fun v=>(aj (aS (i:=3) iS.nd rfl (Qn rfl) (pv 4)))))
   (ah (bz (aE BY (pv 3) gT (aJ _)) (aj (az aB)) aK)
   (aj (az (aM (kK T) (hr.mono (by decide)) (aa (pv 3) ag)))))))) (A3 T.cls)
theorem yt(T:Txt K mg):jN P w K mg base 13 "_law_full" ["desk","chest","cell"] (mE K):=T.DZ.cal (rd:=lU K) eI (aI rfl) (fun f cdv A outer s H E hr=>
 (ah (eT Rx rfl (i3 (by rfl) T.mh (aa ak ag)) (aD (i:=3) eI.nd rfl (Qn rfl)) (aj (bz (aE (jG hr.units) (aM (cw T) (hr.mono (by decide)) (aa (pv 0) (aa (aA bU aB (aM (cz T) (hr.mono (by decide)) (aa (pv 2) (aa (pv 3) ag)))) ag))) (aM (gZ T) (hr.mono (by decide)) (aa (pv 1) (aa aB (aa (cO (aa (aM (cz T) (hr.mono (by decide)) (aa (pv 2) (aa (pv 3) ag))) ag)) ag)))) (aJ _)) (aj (az ic)) aK)))
   (ah (eT Rx rfl (i3 (by rfl) T.mh (aa ak ag)) (aD (i:=3) eI.nd rfl (Qn rfl)) (ah (aS (i:=4) eI.nd rfl (Qn rfl) (aM (cz T) (hr.mono (by decide)) (aa (aA c5 (pv 2) ak) (aa (pv 3) ag))))
   (ah (bz (aE (jG hr.units) (aM (cw T) (hr.mono (by decide)) (aa (pv 0) (aa (aA bU (aA bU (aA bU aB (pv 4)) aB) (bR dc (by rfl) T.z_str RT (aa (aA cF ak (aA fj ak (pv 3))) ag))) ag))) (aM (gZ T) (hr.mono (by decide)) (aa (pv 1) (aa aB (aa (cO (aa (pv 4) (aa (aA cF ak (aA fj ak (pv 3))) ag))) ag)))) (aJ _)) (aj (az ic)) aK)
   (aj (eT Rx rfl (i3 (by rfl) T.mh (aa (aA cF (pv 3) ak) ag)) (aD (i:=5) eI.nd rfl (Qn rfl)) (ah (aS (i:=6) eI.nd rfl (Qn rfl) (aM (cz T) (hr.mono (by decide)) (aa (pv 2) (aa (aA bu (aA cF (aA fj (pv 3) ak) (pv 5)) ak) ag))))
   (aj (bz (aE (jG hr.units) (aM (cw T) (hr.mono (by decide)) (aa (pv 0) (aa (aA bU (aA bU (aA bU aB (pv 6)) aB) (pv 4)) ag))) (aM (gZ T) (hr.mono (by decide)) (aa (pv 1) (aa aB (aa (cO (aa (pv 6) (aa (pv 4) ag))) ag)))) (aJ _)) (aj (az ic)) aK))))))))
   (aj (az ic))))) BO
theorem eE(T:Txt K mg):fe sL P w K mg base 1 "Chest" "voters" ["self"] (du K):=T.xh.cal (rd:=ir K) vc (aI rfl) (fun f cdv A outer s H E hr=>
 (aj (az (bR (Fi rfl) (by rfl) T.Fu VT (aa (Ex US Vg Yz JD (bK (pv 0) rfl)) ag))))) (u5 T.cls)
theorem yY(T:Txt K mg):jN P w K mg base 3 "_law_word" ["xs","chest","most"] (lX K):=T.CD.cal (rd:=mG K) lj (aI rfl) (fun f cdv A outer s H E hr=>
 (ah (aS (i:=3) lj.nd rfl (Qn rfl) (cO (aa aB (aa aB (aa aB (aa aB (aa aB (aa aB (aa aB (aa aB (aa aB (aa aB ag))))))))))))
   (ah (aS (i:=4) lj.nd rfl (Qn rfl) (bF aU (pv 3) (aA bu (bF aU (pv 0) ak (fun _ _=>rfl)) ak) (fun _ _=>rfl)))
   (ah (bz (PW.pt (qk (mi (pv 2)) (qk (aE bX (pv 4) aB (aJ _)) (sy (aE Bb (bf cA (by rfl) T.z_len Rp (aa (c7 (eE T) T.aY (hr.mono (by decide)) (pv 1)) ag)) ak (aJ _)))))) (aj (az aB)) aK)
   (ah (bz (PW.pt (qk (mi (pv 2)) (qk (aE bX (pv 4) aB (aJ _)) (sy (aE Bb (bf cA (by rfl) T.z_len Rp (aa (c7 (fk T) T.aY (hr.mono (by decide)) (pv 1)) ag)) ak (aJ _)))))) (aj (az aB)) aK)
   (aj (az (pv 4)))))))) AI
theorem iy(T:Txt K mg):jN P w K mg base 1 "_law_spoilt" ["name","x"] (eh K):=T.yN.cal (rd:=jz K) jm (aI rfl) (fun f cdv A outer s H E hr=>
 (ah (aS (i:=2) jm.nd rfl (Qn rfl) (aA bu (aA c5 (pv 1) ak) (bf oW (by rfl) T.z_len Rp (aa (pv 0) ag))))
   (ah (aS (i:=3) jm.nd rfl (Qn rfl) aB)
   (ah (bz (aE bX (aA bu (pv 1) ak) ak (aJ _)) (aj (az (aA bU (aA bU (eW qm (pv 0) j2 (fg (pv 2))) (bF tI (pv 3) (aA bu (aA c5 (pv 1) ak) ak) (fun _ _=>rfl))) (eW qm (pv 0) (fg (aA cF (pv 2) ak)) j2)))) aK)
   (ah (bz (aE bX (aA bu (pv 1) ak) ak (aJ _)) (aj (az (Ex RZ Y6 aa3 JZ (pv 0)))) aK)
   (ah (bz (aE bX (aA bu (pv 1) ak) ak (aJ _)) (aj (az (aA bU (pv 0) (bF tI aB (aA bu (aA c5 (pv 1) ak) ak) (fun _ _=>rfl))))) aK)
   (ah (bz (aE bX (aA bu (pv 1) ak) ak (aJ _)) (aj (az (aA bU (pv 0) aB))) aK)
   (aj (az (pv 0)))))))))) we
theorem mU(T:Txt K mg):jN P w K mg base 1 "_law_amount" ["x"] (gw K):=T.za.cal (rd:=jx K) xw (aI rfl) (fun f cdv A outer s H E hr=>
 (ah (bz (aE bX (aA bu (pv 0) ak) ak (aJ _)) (aj (az (bF aU (cO (aa ak (aa ak (aa (aA vC ak ak) (aa (aA cF (aA vC ak ak) ak) (aa (aA ri (aA vC ak ak) ak) ag)))))) (aA bu (aA c5 (pv 0) ak) ak) (fun _ _=>rfl)))) aK)
   (ah (bz (aE bX (aA bu (pv 0) ak) ak (aJ _)) (aj (az (aA bu (aA c5 (pv 0) ak) ak))) aK)
   (aj (az (aA bu (aA fj (pv 0) ak) (aA cF (aA vC ak ak) ak))))))) wo
theorem yy(T:Txt K mg):jN P w K mg base 4 "_law_deed" ["xs","cell","chest","most"] (ma K):=T.Cw.cal (rd:=lZ K) cS (aI rfl) (fun f cdv A outer s H E hr=>
 (ah (aS (i:=4) cS.nd rfl (Qn rfl) (aM (yY T) (hr.mono (by decide)) (aa (pv 0) (aa (pv 2) (aa (pv 3) ag)))))
   (ah (oU (i:=5) (N:=["name","coffer"]) (mp:=[none,none]) cS.nd rfl (Qn rfl) rfl ⟨rfl,nofun,by rfl,rfl,by rfl⟩ (b9 (c7 (eE T) T.aY (hr.mono (by decide)) (pv 2))) (fun _ _ _ _ _ _=>(cW rfl (aG (aD (i:=0) (by show QK (["name","coffer"]:List Qg);decide +kernel) rfl (Qn rfl)) (aG (aD (i:=1) (by show QK (["name","coffer"]:List Qg);decide +kernel) rfl (Qn rfl)) cp)))) (fun _ _ _ _ _ _=>bQ) (fun _ _ _ _ _ _=>(pv 0)) (by with_unfolding_all rfl))
   (ah (oU (i:=6) (N:=["row"]) (mp:=[none]) cS.nd rfl (Qn rfl) rfl ⟨rfl,nofun,by rfl,rfl,by rfl⟩ (b9 (c7 (fk T) T.aY (hr.mono (by decide)) (pv 2))) (fun _ _ _ _ _ _=>(aD (i:=0) (by show QK (["row"]:List Qg);decide +kernel) rfl (Qn rfl))) (fun _ _ _ _ _ _=>bQ) (fun _ _ _ _ _ _=>(bF Ej (pv 0) ak (fun _ _=>rfl))) (by with_unfolding_all rfl))
   (ah (aS (i:=7) cS.nd rfl (Qn rfl) (bF aU (aA wR (pv 5) (cO (aa (aM (cz T) (hr.mono (by decide)) (aa (pv 1) (aa (aA bu (bF aU (pv 0) ak (fun _ _=>rfl)) ak) ag))) ag))) (aA bu (aA c5 (bF aU (pv 0) ak (fun _ _=>rfl)) ak) (aA cF (bf cA (by rfl) T.z_len Rp (aa (pv 5) ag)) ak)) (fun _ _=>rfl)))
   (ah (aS (i:=8) cS.nd rfl (Qn rfl) (bF aU (aA wR (pv 6) (cO (aa (aM (cz T) (hr.mono (by decide)) (aa (aA c5 (pv 1) ak) (aa (aA bu (bF aU (pv 0) ak (fun _ _=>rfl)) ak) ag))) ag))) (aA bu (aA c5 (bF aU (pv 0) ak (fun _ _=>rfl)) ak) (aA cF (bf cA (by rfl) T.z_len Rp (aa (pv 6) ag)) ak)) (fun _ _=>rfl)))
   (ah (bz (PW.pt (zE (aE bX (aA bu (bF aU (pv 0) ak (fun _ _=>rfl)) ak) ak (aJ _)) (tJ (aE bX (pv 4) aB (aJ _))))) (aj (aS (i:=7) cS.nd rfl (Qn rfl) (aM (cz T) (hr.mono (by decide)) (aa (pv 1) (aa (aA bu (bF aU (pv 0) ak (fun _ _=>rfl)) ak) ag))))) aK)
   (ah (bz (PW.pt (zE (aE bX (aA bu (aA c5 (bF aU (pv 0) ak (fun _ _=>rfl)) ak) ak) ak (aJ _)) (tJ (aE bX (pv 4) aB (aJ _))))) (aj (aS (i:=8) cS.nd rfl (Qn rfl) (aM (cz T) (hr.mono (by decide)) (aa (aA c5 (pv 1) ak) (aa (aA bu (bF aU (pv 0) ak (fun _ _=>rfl)) ak) ag))))) aK)
   (ah (aS (i:=7) cS.nd rfl (Qn rfl) (aM (iy T) (hr.mono (by decide)) (aa (pv 7) (aa (bF aU (pv 0) ak (fun _ _=>rfl)) ag))))
   (ah (aS (i:=8) cS.nd rfl (Qn rfl) (aM (iy T) (hr.mono (by decide)) (aa (pv 8) (aa (bF aU (pv 0) ak (fun _ _=>rfl)) ag))))
   (ah (bz (aE bX (pv 4) aB (aJ _)) (aj (az (dN (aa (pv 4) (aa (cO (aa (aM (mU T) (hr.mono (by decide)) (aa (bF aU (pv 0) ak (fun _ _=>rfl)) ag)) ag)) ag))))) aK)
   (ah (bz (aE bX (pv 4) aB (aJ _)) (aj (az (dN (aa (pv 4) (aa (cO (aa (pv 8) (aa (aM (mU T) (hr.mono (by decide)) (aa (bF aU (pv 0) ak (fun _ _=>rfl)) ag)) ag))) ag))))) aK)
   (ah (bz (aE bX (pv 4) aB (aJ _)) (aj (az (dN (aa (pv 4) (aa (cO (aa (pv 8) ag)) ag))))) aK)
   (ah (bz (PW.pt (zE (aE bX (pv 4) aB (aJ _)) (tJ (aE bX (pv 4) aB (aJ _))))) (aj (az (dN (aa (pv 4) (aa (cO (aa (pv 7) ag)) ag))))) aK)
   (aj (az (dN (aa (pv 4) (aa (cO (aa (pv 7) (aa (pv 8) ag))) ag))))))))))))))))))) B0
theorem wk(T:Txt K mg):jN P w K mg base 2 "_law_purse" ["chest","name"] (j9 K):=T.BB.cal (rd:=kB K) kd (aI rfl) (fun f cdv A outer s H E hr=>
 (ah (eT Rx rfl (b9 (c7 (eE T) T.aY (hr.mono (by decide)) (pv 0))) (cW rfl (aG (aD (i:=2) kd.nd rfl (Qn rfl)) (aG (aD (i:=3) kd.nd rfl (Qn rfl)) cp))) (aj (bz (aE bX (pv 2) (pv 1) (aJ _)) (aj (az (bR dc (by rfl) T.z_str RT (aa (pv 3) ag)))) aK)))
   (aj (az (cO (aa ic (aa ic (aa ic (aa ic (aa ic (aa ic (aa ic (aa ic ag))))))))))))) yr
theorem xS(T:Txt K mg):jN P w K mg base 3 "_law_works" ["chest"] (ku K):=T.Bl.cal (rd:=kr K) dY (aI rfl) (fun f cdv A outer s H E hr=>
 (ah (aS (i:=1) dY.nd rfl (Qn rfl) (cO ag))
   (ah (eT Rx rfl (b9 (c7 (fk T) T.aY (hr.mono (by decide)) (pv 0))) (cW rfl (aG (aD (i:=2) dY.nd rfl (Qn rfl)) (aG (aD (i:=3) dY.nd rfl (Qn rfl)) (aG (aD (i:=4) dY.nd rfl (Qn rfl)) cp)))) (ah (aS (i:=5) dY.nd rfl (Qn rfl) (aA bU (gG RZ Se Sv ib aB (aa (pv 4) ag)) (aA vT aB (bR tW (by rfl) T.z_int Vo (aa (dJ (dD hr.units) (pv 4) (cO ag) (aJ _)) ag)))))
   (aj (bV (gG Uj Tf Ub gI (pv 1) (aa (aA bU (aA bU (aA bU (aA bU (pv 2) aB) (bR dc (by rfl) T.z_str RT (aa (pv 3) ag))) aB) (pv 5)) ag))))))
   (aj (az (aA bU (gG RZ Se Sv ib aB (aa (pv 1) ag)) (aA vT aB (bR tW (by rfl) T.z_int Vo (aa (dJ (dD hr.units) (pv 1) (cO ag) (aJ _)) ag))))))))) zh
theorem jX(T:Txt K mg):jN P w K mg base 13 "_law_question" ["desk","chest","way","name"] (eG K):=T.vv.cal (rd:=gP K) tu (aI rfl) (fun f cdv A outer s H E hr=>
 (ah (bz (aE bX (pv 2) ak (aJ _)) (aj (az (dJ (dD hr.units) (aM (cw T) (hr.mono (by decide)) (aa (pv 0) (aa aB ag))) (bR dc (by rfl) T.z_str RT (aa (c7 (pK T) T.aY (hr.mono (by decide)) (pv 1)) ag)) (aJ _)))) aK)
   (ah (bz (aE bX (pv 2) ak (aJ _)) (aj (az (dJ (dD hr.units) (aM (cw T) (hr.mono (by decide)) (aa (pv 0) (aa aB ag))) (bR dc (by rfl) T.z_str RT (aa (c7 (mZ T) T.aY (hr.mono (by decide)) (pv 1)) ag)) (aJ _)))) aK)
   (ah (bz (aE bX (pv 2) ak (aJ _)) (aj (az (dJ (dD hr.units) (aM (cw T) (hr.mono (by decide)) (aa (pv 0) (aa aB ag))) (bR dc (by rfl) T.z_str RT (aa (c7 (mM T) T.aY (hr.mono (by decide)) (pv 1)) ag)) (aJ _)))) aK)
   (ah (bz (aE bX (pv 2) ak (aJ _)) (aj (az (dJ (dD hr.units) (aM (cw T) (hr.mono (by decide)) (aa (pv 0) (aa aB ag))) (aM (xS T) (hr.mono (by decide)) (aa (pv 1) ag)) (aJ _)))) aK)
   (aj (az (dJ (dD hr.units) (aM (cw T) (hr.mono (by decide)) (aa (pv 0) (aa (aA bU aB (pv 3)) ag))) (aM (wk T) (hr.mono (by decide)) (aa (pv 1) (aa (pv 3) ag))) (aJ _))))))))) sU
theorem Bp(T:Txt K mg):jN P w K mg base 14 "_law_row" ["desk","chest","xs","cell","most","closings"] (oq K):=T.Fb.cal (rd:=nZ K) jQ (aI rfl) (fun f cdv A outer s H E hr=>
 (ah (bz (PW.pt (qk (aE bX (aA bu (bF aU (pv 2) ak (fun _ _=>rfl)) ak) ak (aJ _)) (sy (aE w9 (pv 5) ak (aJ _))))) (aj (az (dJ (dD hr.units) (aM (cw T) (hr.mono (by decide)) (aa (pv 0) (aa aB ag))) (aM (mI T) (hr.mono (by decide)) (aa (pv 1) ag)) (aJ _)))) aK)
   (ah (bz (aE w9 (aA bu (bF aU (pv 2) ak (fun _ _=>rfl)) ak) ak (aJ _)) (aj (az (aM (jX T) (hr.mono (by decide)) (aa (pv 0) (aa (pv 1) (aa (aA bu (bF aU (pv 2) ak (fun _ _=>rfl)) ak) (aa (aM (iy T) (hr.mono (by decide)) (aa (aM (cz T) (hr.mono (by decide)) (aa (pv 3) (aa (aA bu (bF aU (pv 2) ak (fun _ _=>rfl)) ak) ag))) (aa (bF aU (pv 2) ak (fun _ _=>rfl)) ag))) ag))))))) aK)
   (ah (Kt (aM (yy T) (hr.mono (by decide)) (aa (pv 2) (aa (pv 3) (aa (pv 1) (aa (pv 4) ag))))) (cW rfl (aG (aD (i:=6) jQ.nd rfl (Qn rfl)) (aG (aD (i:=7) jQ.nd rfl (Qn rfl)) cp))))
   (ah (aS (i:=8) jQ.nd rfl (Qn rfl) (gG RZ Se Sv ib aB (aa (aA wR (cO (aa (pv 6) ag)) (cg (N:=["thing"]) (mp:=[none]) rfl ⟨rfl,nofun,by rfl,rfl,by rfl⟩ (b9 (pv 7)) (fun _ _ _ _ _ _=>(aD (i:=0) (by show QK (["thing"]:List Qg);decide +kernel) rfl (Qn rfl))) (fun _ _ _ _ _ _=>bQ) (fun _ _ _ _ _ _=>(bR Hr (by rfl) T.z_str RT (aa (pv 0) ag))))) ag)))
   (aj (az (dJ (dD hr.units) (aM (cw T) (hr.mono (by decide)) (aa (pv 0) (aa (pv 8) ag))) (aM (gZ T) (hr.mono (by decide)) (aa (pv 1) (aa (pv 6) (aa (pv 7) ag)))) (aJ _))))))))) Cf
theorem Nf(T:Txt K mg){f:Qh}{cdv:Qi}{A:QF}{outer:List QP}{s:Qk}{H:Hp}{E:XK}(hr:dv 14 (A.deeper (Rt "law" (ao CV) s.heap.objs.size f cdv))):
  xc (cJ sL P w K mg base ["script","first","cell","desk","chest","closings","one","xs","names","k","way"] "law" (ao CV) f cdv A outer s H E).nox (dO CV) (EU K):=
 (ah (aS (i:=1) iF.nd rfl (Qn rfl) (aM (rW T) (hr.mono (by decide)) (aa (pv 0) (aa ak ag))))
   (ah (aS (i:=2) iF.nd rfl (Qn rfl) (aM (rW T) (hr.mono (by decide)) (aa (pv 0) (aa ak ag))))
   (ah (aS (i:=3) iF.nd rfl (Qn rfl) (sV (rA T) T.wX (hr.mono (by decide))))
   (ah (aS (i:=4) iF.nd rfl (Qn rfl) (sV (jD T) T.aY (hr.mono (by decide))))
   (ah (bz (PW.pt (qk (aE bX (aA bu (pv 1) ak) ak (aJ _)) (sy (lI (mi (aM (yt T) (hr.mono (by decide)) (aa (pv 3) (aa (pv 4) (aa (pv 2) ag))))))))) (aj (az ic)) aK)
   (ah (aS (i:=5) iF.nd rfl (Qn rfl) ak)
   (ah (eT Rx rfl (b9 (eW AG (pv 0) (fg ak) (fg ak))) (aD (i:=6) iF.nd rfl (Qn rfl)) (ah (aS (i:=7) iF.nd rfl (Qn rfl) (aM (nM T) (hr.mono (by decide)) (aa (pv 6) (aa ak ag))))
   (ah (bz (lI (mi (aM (Bp T) (hr.mono (by decide)) (aa (pv 3) (aa (pv 4) (aa (pv 7) (aa (pv 2) (aa (dJ Gi (aA bu (pv 1) ak) ak (aJ _)) (aa (pv 5) ag))))))))) (aj (az ic)) aK)
   (aj (aS (i:=5) iF.nd rfl (Qn rfl) (aA cF (pv 5) (bR tW (by rfl) T.z_int Vo (aa (dJ bX (aA bu (bF aU (pv 7) ak (fun _ _=>rfl)) ak) ak (aJ _)) ag))))))))
   (ah (bz (aE (jG hr.units) (aM (cw T) (hr.mono (by decide)) (aa (pv 3) (aa aB ag))) (aM (mI T) (hr.mono (by decide)) (aa (pv 4) ag)) (aJ _)) (aj (az ic)) aK)
   (ah (aS (i:=8) iF.nd rfl (Qn rfl) (aA wR (cg (N:=["name","coffer"]) (mp:=[none,none]) rfl ⟨rfl,nofun,by rfl,rfl,by rfl⟩ (b9 (c7 (eE T) T.aY (hr.mono (by decide)) (pv 4))) (fun _ _ _ _ _ _=>(cW rfl (aG (aD (i:=0) (by show QK (["name","coffer"]:List Qg);decide +kernel) rfl (Qn rfl)) (aG (aD (i:=1) (by show QK (["name","coffer"]:List Qg);decide +kernel) rfl (Qn rfl)) cp)))) (fun _ _ _ _ _ _=>bQ) (fun _ _ _ _ _ _=>(pv 0))) (cO (aa (aM (cz T) (hr.mono (by decide)) (aa (pv 2) (aa ak ag))) (aa (aM (cz T) (hr.mono (by decide)) (aa (pv 2) (aa ak ag))) ag)))))
   (ah (eT Rx rfl (i3 (by rfl) T.mh (aa (aA cF ak (bf cA (by rfl) T.z_len Rp (aa (pv 8) ag))) ag)) (aD (i:=9) iF.nd rfl (Qn rfl)) (ah (aS (i:=10) iF.nd rfl (Qn rfl) (aA bu (aA cF (pv 9) (pv 1)) (aA cF ak (bf cA (by rfl) T.z_len Rp (aa (pv 8) ag)))))
   (aj (bz (lI (mi (aM (jX T) (hr.mono (by decide)) (aa (pv 3) (aa (pv 4) (aa (pv 10) (aa (bF aU (pv 8) (bf (Hs rfl) (by rfl) T.z_max Zw (aa ak (aa (aA ri (pv 10) ak) ag))) (fun _ _=>rfl)) ag))))))) (aj (az ic)) aK))))
   (aj (az ic))))))))))))
end
end My
open PySem PySem.W PyProof.Rows
namespace PySem.W.Fast
def tw12734128438961746209:=0
def tw8684899018799530940:=0
def tw13200117723616568749:=0
def tw6249818629901464646:=0
def tw1996179641948262850:=0
def tw12809781270183107137:=0
def tw8000825750363972365:=0
def tw1599430277692903767:=0
def tw2874761783775971154:=0
def tw1339296247023508784:=0
def tw16311822218779541120:=0
def tw7315932256420252671:=0
def tw1385415638325196405:=0
def tw3296526153848035886:=0
def tw12583463916834999691:=0
def tw13907437553088573:=0
def tw10105835168369901327:=0
def tw16175039871858962495:=0
def tw1149586270912788062:=0
def tw490581302984429374:=0
def tw239106341086206223:=0
def tw4746518632403942365:=0
def tw8742796109652329436:=0
def tw1717192074845964766:=0
def tw2469428239911466493:=0
def tw12193678122735962057:=0
def tw3668569672946153226:=0
def tw1678824517548006858:=0
def tw10122624538264459772:=0
def tw7902297483890880858:=0
def tw15842516067002842507:=0
def tw15910429048127432584:=0
def tw6652640615663558040:=0
def tw10616632920951570153:=0
def tw8166403690736259739:=0
def tw15417562088455642:=0
def tw15896215837860438211:=0
def tw6862837760435723115:=0
def tw3302499824585328522:=0
def tw5345227450742811121:=0
def tw16352675539889397160:=0
def tw15777787567022410030:=0
def tw8347405278408615803:=0
def tw9414704062163485446:=0
def tw10404296974773131086:=0
def tw749270222091611180:=0
def tw7494126002533044745:=0
def tw6857160554029059307:=0
def tw174890736910952357:=0
def tw16520241635982278958:=0
def tw4927659221633496788:=0
def tw16699162975516200731:=0
def tw3270616236351014021:=0
def tw5791938116621105877:=0
def tw17553697772719406269:=0
def tw9725502582066541505:=0
def tw6882422555978741669:=0
def tw8292822222542252034:=0
def tw11097514945827239194:=0
def tw10994944750349148070:=0
def tw901138240713664008:=0
def tw8807808660174231538:=0
def tw17915442772713632568:=0
def tw9284099313391531470:=0
def tw8263787828711310670:=0
def tw13570468686119052596:=0
def tw3180015958466206774:=0
def tw6341425207989273893:=0
def tw14558873982894308776:=0
def tw10708774448468890270:=0
def tw15039995036152427013:=0
def tw10216035538735899685:=0
def tw2877009539697579106:=0
def tw10466808140807180862:=0
def tw10845527098150828139:=0
def tw2946428220384838552:=0
def tw4137709123822054316:=0
def tw7355771119672105142:=0
def tw15717240983535192238:=0
def tw6488315903390717363:=0
def tw6207387388372257366:=0
def tw13803450981026267703:=0
def tw7458290507283591533:=0
def tw5102245814781715431:=0
def tw3179009104206632325:=0
def tw17689856948794464177:=0
def tw7683270605247646457:=0
def tw16047531970744310452:=0
def tw6571800323440298910:=0
def tw12406144471550875742:=0
def tw8611476008140522233:=0
def tw13597913104575405675:=0
def tw13679966809195003642:=0
def tw8357801704822407706:=0
def tw16117751389722771459:=0
def tw12428242110478432380:=0
def tw16586200319014005269:=0
def tw6291837955532176456:=0
def tw17199689111685097208:=0
def tw13203574286080760550:=0
def tw14381955558208307869:=0
def tw13577168101336912609:=0
def tw17892527566282074570:=0
def tw6714556356320435016:=0
def tw8820092704088232120:=0
def tw14911373192697456081:=0
def tw13222899172673623249:=0
def tw518479672179785023:=0
def tw10607291219550749521:=0
def tw14196053045852313131:=0
def tw8114768707220049640:=0
def tw17580575651648117102:=0
def tw11235109663771468945:=0
def tw954664027074455999:=0
def tw18135375464746316760:=0
def tw2953086275862188332:=0
def tw16738352223982646288:=0
def tw11611563899589397372:=0
def tw18445430932746306210:=0
def tw8945373543252605417:=0
def tw4810665748064201776:=0
def tw6581151895764113266:=0
def tw5662144158902053886:=0
def tw18169976692401105599:=0
def tw9807043055517401302:=0
def tw13157163300767537647:=0
def tw10532836274941580768:=0
def tw15705571472114154140:=0
def tw9211261413865144765:=0
def tw2536029966408998927:=0
def tw9051503447620801254:=0
def tw4809241881679206525:=0
def tw9349316027374120220:=0
def tw3757960586804062704:=0
def tw9109239099003138025:=0
def tw8804847547530691446:=0
def tw15051358665472477363:=0
def tw4826505993399862513:=0
def tw8990732669374018039:=0
def tw6419020357535845812:=0
def tw11926882539335867969:=0
def tw4352109130464283812:=0
def tw4774993447150015952:=0
def tw1453320207294104183:=0
def tw10337271595862421683:=0
def tw12511914700298386941:=0
def tw14412115532253041835:=0
def tw14065943123387087936:=0
def tw7637043095594068145:=0
def tw17119144221649743082:=0
def tw14157687437199264555:=0
def tw11365742115318466538:=0
def tw8419586854268230745:=0
def tw9985410688200838424:=0
def tw3128274958835832240:=0
def tw7956691428101989210:=0
def tw13902162330707944377:=0
def tw4263401978573145561:=0
def tw2363133512620637009:=0
def tw12959995008524301276:=0
def tw14305332338790813434:=0
def tw629549835818937405:=0
def tw5279646020247970679:=0
def tw4102208729337154251:=0
def tw2749888176197058099:=0
def tw12357175625879440657:=0
def tw1820444788915696852:=0
def tw8162277397298192259:=0
def tw4270736337199840852:=0
def tw13183285410024382551:=0
def tw10404478174231023543:=0
def tw7343183120977774343:=0
def tw13626606416037262071:=0
def tw2733943832106687684:=0
def tw2736328828720943472:=0
def tw2621293227733937253:=0
def tw17435912205525160386:=0
def tw18434813283689837498:=0
def tw14136536848508942441:=0
def tw872335869615090888:=0
def tw17204871549781138009:=0
def tw2845623114707172328:=0
def tw7824819698531102375:=0
def tw8672095987470589755:=0
def tw2832948921489181991:=0
def tw14909340699856579427:=0
def tw6030865277749615643:=0
def tw17920078190444495717:=0
def tw14600554594761487911:=0
def tw15169619372590936639:=0
def tw8451728113209656930:=0
def tw12343449744014848333:=0
def tw4372219044469333662:=0
def tw14562371677260865864:=0
def tw12974057334277540406:=0
def tw11351711563037876299:=0
def tw15587378637940916540:=0
def tw9743702559603883252:=0
def tw6472911866847721696:=0
def tw11098883463791569941:=0
def tw16798673619386307980:=0
def tw9707037390296071203:=0
def tw6231521136276613685:=0
def tw17029967515160777405:=0
def tw668594299465695736:=0
def tw6423383043002062750:=0
def tw2596682968330152537:=0
def tw11023749668544680938:=0
def tw13302254481735818479:=0
def tw7277746590904790040:=0
def tw10925912013940488588:=0
def tw9543980368321436922:=0
def tw7001140529677649344:=0
def tw15894976749341915869:=0
def tw11280545770255914780:=0
def tw234757201808604170:=0
def tw11208457272217662186:=0
def tw17787293156646092464:=0
def tw7985342510333419984:=0
def tw14390434168880981145:=0
def tw16390485606146092332:=0
def tw10890860851185037280:=0
def tw17424941906537924110:=0
def tw11156110304305781981:=0
def tw4946688801877919058:=0
def tw14571348853951570097:=0
def tw14919267113677732825:=0
def tw8968139994687787666:=0
def tw13160638059132836182:=0
def tw1386361711369390674:=0
def tw16792789079811065392:=0
def tw1983908813994841386:=0
def tw12691405640412415142:=0
def tw17695076688678158762:=0
def tw5015613083748851340:=0
def tw283889293233299101:=0
def tw5738402811448632808:=0
def tw4090481587521386851:=0
def tw16610325977071216395:=0
def tw9100179115938788839:=0
def tw7029643946737306917:=0
def tw15907569338831044836:=0
def tw7692377004233668765:=0
def tw6421523228255241805:=0
def tw16801874354325577586:=0
def tw12571459399372922578:=0
def tw14271336012968300962:=0
def tw5991375030461030808:=0
def tw11360640455698261436:=0
def tw522351148323890490:=0
def tw7085394229246569088:=0
def tw9386062321874273202:=0
def tw15867521558635608201:=0
def tw7650815134839222333:=0
def tw9313552434197359052:=0
def tw4657442486230422072:=0
def tw5268399869554227843:=0
def tw3264316221306306900:=0
def tw14633096707287608719:=0
def tw11033740838645156949:=0
def tw8920345026422204904:=0
def tw14582648319693845778:=0
def tw921661307208565018:=0
def tw11141730060285381192:=0
def tw11946573855785868200:=0
def tw4917779433367820207:=0
def tw15223488574340260918:=0
def tw2283407728465401829:=0
def tw11270700570656551071:=0
def tw5164876187464873683:=0
def tw11311336464342000027:=0
def tw4177059256470316865:=0
def tw15400920973756997472:=0
def tw17408638553281562614:=0
def tw2543032019774896567:=0
def tw8298852004868353929:=0
def tw11990879330619415199:=0
def tw12617513682249130548:=0
def tw13089909046863551457:=0
def tw1270344069200487874:=0
def tw1641493052015610873:=0
def tw2124234829714225838:=0
def tw3513665827324176057:=0
def tw16978478366501458260:=0
def tw5409031539261576799:=0
def tw9303776680645510580:=0
def tw4265603276720323311:=0
def tw3799191292897501509:=0
def tw13398420521289216881:=0
def tw16476945413107138425:=0
def tw2027448143471920930:=0
def tw2684862525784111288:=0
def tw15988484845687993975:=0
end PySem.W.Fast
theorem My.le1{α:Type _}{P:List α->Prop}(h:∀a0,P [a0]):∀us:List α,us.length=1->P us:=fun us e=>match us,e with|[a0],_=>h a0
theorem My.le2{α:Type _}{P:List α->Prop}(h:∀a0 a1,P [a0,a1]):∀us:List α,us.length=2->P us:=fun us e=>match us,e with|[a0,a1],_=>h a0 a1
theorem My.le3{α:Type _}{P:List α->Prop}(h:∀a0 a1 a2,P [a0,a1,a2]):∀us:List α,us.length=3->P us:=fun us e=>match us,e with|[a0,a1,a2],_=>h a0 a1 a2
theorem My.le4{α:Type _}{P:List α->Prop}(h:∀a0 a1 a2 a3,P [a0,a1,a2,a3]):∀us:List α,us.length=4->P us:=fun us e=>match us,e with|[a0,a1,a2,a3],_=>h a0 a1 a2 a3
theorem My.le6{α:Type _}{P:List α->Prop}(h:∀a0 a1 a2 a3 a4 a5,P [a0,a1,a2,a3,a4,a5]):∀us:List α,us.length=6->P us:=fun us e=>match us,e with|[a0,a1,a2,a3,a4,a5],_=>h a0 a1 a2 a3 a4 a5
set_option maxRecDepth 100000 in
set_option maxHeartbeats 0 in
theorem PySem.Challenge.cw_purse_k52_rows_at_a_desk_holds : PySem.Challenge.rw_purse_k52_rows_at_a_desk.Holds := by
 w_on;o_law;k_head;(case hw=>w_witness2)
 k_fill
 refine L2.Kd (l:=PySem.Challenge.rw_purse_k52_rows_at_a_desk) (k:=15) rfl rfl ⟨rfl,by decide,by decide⟩ (fun w h Y=>ZJ Y) ?F
 case F=>
  intro w mg fa h KX G hmg
  have⟨kH,i6,oX,kF,gr,sR,i4,iO,aY,wX⟩:L2.fH (L2.zQ KX) mg "NoWork"/\L2.fH (L2.zQ KX) mg "NoVoter"/\L2.fH (L2.zQ KX) mg "Twice"/\L2.fH (L2.zQ KX) mg "NoName"/\L2.fH (L2.zQ KX) mg "NoRow"/\L2.fH (L2.zQ KX) mg "Full"/\L2.fH (L2.zQ KX) mg "TooMuch"/\L2.fH (L2.zQ KX) mg "PurseError"/\L2.oo (L2.zQ KX) mg "Chest"/\L2.oo (L2.zQ KX) mg "Desk":=by
   exists ?_,?_,?_,?_,?_,?_,?_,?_,?_
   iterate 7 (dsimp only[L2.zQ];refine' L2.KN KX G ?a ?l ?n ?l1 ?n1 ?g1 ?g2 ?g3 ?g4 ?g5 ?g6 ?hk ?hi ?hk1 ?hi1;(case a|l|n|l1|n1|g1|g2|g3|g4|g5|g6=>k_is);(case hk|hi|hk1|hi1=>(first|rfl|(with_unfolding_all rfl)|(simp[L2.keysOk,YW,Xv];done))))
   (dsimp only[L2.zQ];refine' L2.KQ KX G ?a ?l ?n ?g1 ?g2 ?g3 ?g4 ?g5 ?g6 ?hk ?hi;(case a|l|n|g1|g2|g3|g4|g5|g6=>k_is);(case hk|hi=>(first|rfl|(with_unfolding_all rfl)|(simp[L2.keysOk,YW,Xv];done))))
   iterate 2 (dsimp only[L2.zQ];refine' L2.MG KX G ?a ?pg ?hd ?po ?sa ?mk ?kp;(case a|pg|hd|po|sa|mk|kp=>k_is))
  have cls:My.il (L2.zQ KX):=by
   exists kF.some,kF.ek,oX.some,oX.ek,i6.some,i6.ek,kH.some,kH.ek,i4.some,i4.ek,sR.some,sR.ek,gr.some,gr.ek,?_,?_,?_,?_,?_,?_,?_,?_,?_,?_,?_,?_,?_,?_,?_,?_,?_,?_,?_,?_,?_,?_,?_,?_,?_,?_,?_,?_,?_,?_,?_,?_,?_,?_,?_,?_,?_,?_,?_,?_,?_,?_,?_,?_,?_,?_,?_,?_,?_,?_,?_,?_,?_,?_,?_,?_,?_,?_,?_,?_,?_,?_,?_,aY.cls,?_,?_,?_,?_,?_,?_,wX.cls
   iterate 7 ((dsimp only[L2.zQ];refine' L2.LC ?a ?b ?e ?c ?t ?s;(case a|b|e|c|t|s=>k_is));(dsimp only[L2.zQ];refine' L2.Mv ?a ?m ?s;(case a=>k_is);(case m=>(first|rfl|decide +kernel));(case s=>k_is));iterate 7 (dsimp only[L2.zQ];refine' L2.LG ?a ?b ?c ?t ?s ?n;(case a|b|c|t|s=>k_is);(case n=>(first|exact fun _=>rfl|decide))))
   iterate 7 (dsimp only[L2.zQ];refine' L2.GK ?a ?n;(case a|n=>k_is))
  have T:My.Txt (L2.zQ KX) mg:=by
   exists ?_,?_,?_,?_,?_,?_,?_,?_,?_,?_,?_,?_,?_,?_,?_,?_,?_,?_,?_,?_,?_,?_,?_,?_,?_,?_,?_,?_,?_,?_,?_,?_,?_,?_,?_,?_,?_,?_,?_,?_,?_,?_,?_,?_,?_,?_,?_,?_,?_,?_,?_,?_,?_,?_,?_,?_,?_,?_,?_,?_,?_,?_,?_,?_,?_,?_,?_,?_,?_,?_,?_,?_,?_,?_,?_,?_,?_,aY,wX,kH,i6,oX,kF,gr,sR,i4,iO,cls,?_,?_,?_,?_,?_,?_,?_,?_,?_,?_,?_,?_,?_,?_,?_,?_,?_,?_,?_,?_,?_
   iterate 77 ((dsimp only[L2.zQ];first|(refine' L2.NN KX G ?a ?l ?c ?k ?b;(case a|l|c|k=>k_is))|(refine' L2.LD (h:=h) ?a ?a4 ?fn ?l ?c ?k ?b;(case a|a4|fn|l|c|k=>k_is)));(case b=>(first|exact fun _ _ _ _ _ _=>My.le1 fun _=>rfl|exact fun _ _ _ _ _ _=>My.le2 fun _ _=>rfl|exact fun _ _ _ _ _ _=>My.le3 fun _ _ _=>rfl|exact fun _ _ _ _ _ _=>My.le4 fun _ _ _ _=>rfl|exact fun _ _ _ _ _ _=>My.le6 fun _ _ _ _ _ _=>rfl)))
   iterate 15 (refine' L2.KZ KX G ?z;(case z=>k_is))
   iterate 2 (refine' L2.LV KX G ?z;(case z=>k_is))
   iterate 5 (refine' L2.Nd KX G ?z;(case z=>k_is))
  exact L2.bG.law T.f_law hmg My.iF (L2.aI rfl) (fun base f cdv A outer s H E hr=>My.Nf T hr) My.Mo
