import PyProof.Rows.All
import Wide.All
import OpenK.AllK
import Wide.FinOn
import Lean
import PyProof.Rows.SetFrom
import PyProof.TupleKey
import PyProof.SetRoads
import PySem.SetOps
import PyProof.EqAt
import PyProof.EqKinds
import PyProof.TupleCall
import KE.KDictList
import KE.KDictLaws
import PyProof.NeKinds
import PyProof.Draws
import KE.KSortTup
import KE.KLam
import PyProof.ListRange
import PyProof.TupleOfSeq
import KE.KNestM
import KE.KMinKey
import PyProof.MinMaxWalk
import PySem.Challenge.RW_lotjoin_k31_step_told
set_option bootstrap.genMatcherCode false
set_option compiler.extract_closed false
set_option compiler.reuse false
open PySem renaming wpAny_bind->dV,Heap.get?_push_of_some->mi,wpAny_pure->nF,W.Frag->KH,Heap.lt_size->Vo,Heap.get?_push_size->Vs,W.kitOne->Xk,Spec->Xl,wpAny_holding->Xy,Heap.get?_update_self->XC,Heap.SameBut.update->XE,W.nsIn->XF,Value.ref->XH,Heap.get?_update_other->XI,W.mg_of->XR,Value.none->XY,Obj.mapSeq->X7,wpAny_loadPart'->X_,codeAny_builtin->Yj,wpAny_mono->Yl,W.keepIn->Ym,F.called_set->Yp,W.kia_one->Yq,mem_of_lookup->Ys,wpAny_truthy_bool->Yu,W.fnOf->Yv,Obj.data_mapFields->Yw,plainId_quiet->Yy,Value.int->YB,wpAny_call_entry->YC,wpAny_callSpecial?_slot->YN,F.plainAttrs_list->YO,NameKind.free->YQ,NameKind.cell->YR,wpAny_setState_of->YU,wpAny_pyIter_list->YW,Str.ofString->YX,sizeLine_eq->YZ,Heap.size_push->Y5,W.findIn->Y6,wpAny_newObj_type->Y7,wpAny_pyIter_enum->Y_,Value.type->Zb,wpAny_updateSeq->Zc,SetTable.layClean.free->Ze,F.slot_tuple_iterator_next->Zl,Obj.isFreed_of_fields->Zm,Builtin.Slice.slicePlaces->Zo,wpAny_passesOwn->Zp,Around.under_plainId->Zt,SetTable.fill->Zu,Value.bool->Zv,wpAny_standAt->Zw,Builtin.Tuple.tupleCompareSizes->Zz,wpAny_seqItems->ZD,wpAny_setField->ZF,wpAny_tryCatch->ZK,wpAny_field->ZL,codeAny_mono->ZM,wpAny_Call_Name_kw->ZN,wpAny_loadPart_at->ZV,SetTable->ZW,codeAny_call_builtin->ZY,Walks.list->ZZ,Heap.get?_none_of_le->Z0,W.codeIn->Z1,wpAny_letGo->Z2,Heap.SameBut->Z3,wpAny_askSetting->Z4,AutoSeq1.sub_tuple_tuple->Z9,F.args_tuple_add_2->Z_,Builtin.List.listTooLong->q0a,PlainL.isList->q0b,wpAny_execs_nil->q0e,wpAny_call->q0h,Code.quiet_builtin->q0i,SeqAt.EqAt->q0j,tupleKind_room_in1->q0l,wpAny_pyIter_tuple->q0m,F.entry_tuple_add->q0n,wpAny_storeSet_of->q0q,wpAny_typeOf->q0s,W.cellsFrom_some->q0t,richCompare_meets_room->q0u,F.slot_tuple_add->q0v,W.exmOne->q0A,F.slot_dict_get->q0C,intKind_is->q0E,wpAny_forIn_list->q0F,call_meets->q0I,SetTable.fits->q0J,Value.builtin->q0K,wpAny_newList->q0L,wpAny_specialOf->q0O,codeAny_of_tree->q0P,Builtin.Frozenset.updateFrom->q0Q,SeqAt.EqAt.same->q0R,F.args_tuple_iterator_next_1->q0S,wpAny_setEntries_of->q0V,F.entry_tuple_iterator_next->q0Z,SetTable.probe.go->q00,Obj.putSet->q02,wpAny_rule->q07,SeqAt.EqAt.int_str->q08,SeqAt.EqAt.str_int->q09,Calls.Name_function_global->q0_,Calls.spliced_cons->q1a,SeqAt.EqAt.int_int->q1b,Builtin.Tuple.tupleItemsOf->q1c,wpAny_letOwnedTupleGo_enum->q1e,Builtin.Slice.sliceAdjust->q1j,Builtin.SmallTypes.nextOf->q1k,Calls.call_function_entry->q1l,wpAny_of_eq->q1n,Obj.cls_mapFields->q1o,wpAny_attempt->q1v,Obj.mapFields->q1w,Builtin.List.listSameRef->q1x,F.store_ValueError->q1z,wpAny_eqBool_int->q1E,Builtin.Range.rangeSize->q1F,noFill_tuple_add->q1G,F.attr_ValueError->q1J,F.args_dict_get_3->q1K,F.args_tuple_gt_2->q1O,F.slot_list_count->q1S,F.type_list_count->q1T,Calls.callWith_builtin->q1W,F.entry_dict_get->q1Y,F.entry_tuple_gt->q1Z,wpAny_ite_split->q14,W.instObj->q15,PassesOwn.never->q19,weight_type_call_type->q2b,wpAny_isTrue_Compare1->q2c,F.slot_tuple_gt->q2d,F.sub_list_frozenset->q2j,wpAny_runValue->q2k,W.lookIn->q2l,Around.frames_deeper->q2m,Value.notImplemented->q2n,SeqAt.EqAt.none_bool->q2o,SeqAt.EqAt.bool_none->q2p,SeqAt.EqAt.bool_bool->q2q,Calls.evalArgs_plain->q2r,Heap.MadeExcOf->q2s,boot_len->q2u,SeqAt.EqAt.none_int->q2y,SeqAt.EqAt.none_str->q2z,SeqAt.EqAt.bool_int->q2A,SeqAt.EqAt.bool_str->q2B,SeqAt.EqAt.int_none->q2C,SeqAt.EqAt.int_bool->q2D,SeqAt.EqAt.str_none->q2E,SeqAt.EqAt.str_bool->q2F,call_enumerate_list->q2G,Heap.get?_update_ne->q2H,wpAny_isSubtype_exc->q2I,W.codeHd_of_K->q2M,Paired.length->q2O,seq_tuple_add->q2P,Around.under_plain->q2W,W.callWith_K->q2Y,SeqAt.EqAt.str_str->q21,call->q22,SeqAt.EqAt.of_refs->q23,W.mg_none_of->q25,Value.isInt_shape->q3a,F.entry_type_call->q3c,wpAny_pyIter_slot->q3f,wpAny_assign_Name->q3g,W.hasDictIn->q3h,W.specialIn->q3i,W.kitx_list->q3j,W.kitx_dict->q3k,Calls.spliced_nil->q3l,concat_meets->q3m,wpAny_sequenceKey->q3n,seqIndex_neg->q3o,slot_list_getitem->q3p,Heap.get?_push_at->q3r,W.isFn->q3t,wpAny_collect_seq->q3x,putSet_of->q3z,F.typeCall_set_1->q3B,F.entry_set_init->q3C,check_set_init_1->q3D,wpAny_isInstance->q3F,wpAny_execs_cons->q3G,W.plainGet->q3H,W.codeHdIn->q3P,seqIndex_of->q3Q,F.plain_set_new->q3W,F.slot_set_iter->q3X,W.takesIn->q3Y,F.slot_int_rmul->q30,pushCells_keeps->q31,W.OpenLaw->q37,SetTable.grown->q4e,F.sub_list_set->q4g,entryFor_alias->q4i,wpAny_load->q4j,wpAny_Name->q4k,typeIs_int->q4p,fitsIndex_both->q4r,wpAny_loadPart->q4t,SeqAt.RcAt->q4v,W.CodeHd->q4z,Shared.TypeIs->q4H,wpAny_handled->q4I,Value.isStrOf->q4K,rangeSize_one->q4M,intBits_le_64->q4N,call_list_seq->q4V,Within->q5r
open List renaming length_map->kF,getElem?_eq_getElem->mf,getElem?_eq_some_iff->mj,getD_eq_getElem?_getD->o8,length_cons->rC,mem_cons_of_mem->Bi,mem_map->Bk,length_append->KG,getElem?_map->KI,size_toArray->KJ,mem_cons->KN,mem_append_right->Vp,mem_cons_self->Vr,mem_iff_getElem?->Vt,mem_singleton->W7,mem_append->W9,replicate->Xb,getElem?_append_left->Xc,map_map->Xd,mem_filter->Xf,getElem?_append_right->Xi,map_append->Xj,map_cons->Xm,mem_range->Xr,mem_append_left->Xv,mem_of_getElem?->Xw,lookup_cons->Xx,range->Xz,getElem?_set_self->XD,length_singleton->XG,not_mem_nil->XJ,getElem?_set_ne->XM,length_take->XN,length_nil->XO,filter_map->XP,all_eq_true->XS,nodup_append->XT,nodup_cons->XU,set_cons_zero->XW,set_cons_succ->XX,mem_map_of_mem->X0,pairwise_map->X9,pairwise_cons->Ya,length_eq_zero_iff->Yb,drop_eq_getElem_cons->Yc,length_range->Ye,getElem?_take_of_lt->Yf,length_filter_le->Yi,getElem_mem->Yk,take_of_length_le->Yn,pairwise_lt_range->Yo,length_set->Yr,getElem?_eq_none->Yt,append_nil->Yx,countP_cons->Yz,Nodup.length_le_of_subset->YF,getElem?_range->YG,map_congr_left->YH,map_id->YI,zip_cons_cons->YL,length_drop->YM,append_assoc->YV,filter_sublist->YY,length_replicate->Y0,take_length->Y3,any_eq_false->Y8,flatten_cons->Y9,getElem?_cons_succ->Za,any_cons->Zg,any_eq_true->Zh,mem_flatten->Zi,nodup_nil->Zj,getElem?_toArray->Zn,ext_getElem?->Zr,mem_iff_getElem->Zs,filterMap_cons->ZA,replicate_succ->ZC,getElem?_replicate->ZG,take_succ->ZI,getElem?_cons_zero->ZJ,filter_append->ZP,toArray->ZQ,find?_cons->ZT,all_cons->ZU,length_eraseIdx_of_lt->ZX,getElem_map->Z5,pairwise_iff_getElem->Z6,eq_of_mem_replicate->Z7,range_succ->q0d,mem_filterMap->q0g,contains_cons->q0k,drop_of_length_le->q0w,map_nil->q0y,filter_eq_nil_iff->q0z,length_filterMap_eq_countP->q0B,nodup_range->q0D,getElem_inj->q0H,mem_of_mem_drop->q0M,map_eq_nil_iff->q0X,drop_zero->q04,Perm.refl->q05,Perm.swap->q06,perm_ext_iff_of_nodup->q1g,count_pos_iff->q1h,mem_or_eq_of_mem_set->q1i,take_sublist->q1m,zip_nil_left->q1q,Sublist.refl->q1s,sublist_append_left->q1B,cons_append->q1L,filter_cons_of_pos->q1M,filter_cons_of_neg->q1N,filter_cons->q1P,drop_length->q1Q,find?_some->q11,foldl_cons->q12,of_mem_zip->q16,nil_append->q17,cons.injEq->q18,countP_eq_length->q1_,Perm.append_left->q2a,mem_of_mem_take->q2h,Perm.cons->q2i,range_eq_range'->q2t,take_succ_cons->q2J,replicate_zero->q2L,cons.inj->q2R,find?_eq_none->q2S,filterMap_map->q2V,zip_nil_right->q2Z,countP_congr->q27,take_add_one->q3b,Pairwise.nil->q3d,foldl_append->q3w,lookup->q3R,range'->q3S,countP_map->q3U,filter_nil->q38,map_const'->q3_,foldl->q4q,map_take->q40,map_drop->q41,any_nil->q5M,filter->q60,drop->q73,Perm->q74
open Nat renaming le_refl->vr,ne_of_lt->W8,lt_of_lt_of_le->Xe,le_trans->XQ,zero_le->XZ,lt_succ_of_lt->X8,zero_add->Yd,sub_self->YE,le_of_lt->YJ,le_of_ble_eq_true->Y1,lt_succ_self->Y2,ne_of_gt->Zd,lt_irrefl->Zf,le_of_lt_succ->q0o,le_add_right->q0G,le_succ->q0N,lt_of_le_of_lt->q03,succ_ne_self->q1I,succ.inj->q10,reduceAdd->q2Q,lt_of_lt_of_eq->q24,lt_trans->q29,sub_zero->q2_,min_self->q3v,ble->q3y,le_of_not_lt->q3A,succ_le_succ->q3J,zero_lt_one->q34,min_eq_left->q39,succ_add->q5l,succ_pos->q5m,mul_comm->q5n,le_of_eq->q5N,mod_lt->q7s,not_lt->q7F
open Option renaming map_eq_some_iff->My,some.inj->XA,isSome_iff_exists->Zy,bind_some->ZH,isSome_map->q1r,getD_none->q1C,map_some->q13,isSome->q2N,join_some->q3L,none->q6x,map->q7u
open Array renaming length_toList->Xa,getElem?_eq_getElem->Xp,getElem?_toList->XB,getD_eq_getD_getElem?->X1,getElem?_eq_none->YA,getElem?_eq_some_iff->YS,toList_setIfInBounds->YT,toList_push->q0p,size_map->q0r,perm_iff_toList_perm->q1f,getElem_mem_toList->q1t,size_setIfInBounds->q1u,toList_filterMap->q1U,toList_extract->q2g,toList_append->q2v,foldl_toList->q2T,size_extract->q2U,getD->q2X,size_append->q28,replicate->q3T,size_push->q3V,Perm.refl->q32,toList->q5s
open LawfulBEq renaming eq_of_beq->Xg
open Bool renaming false_ne_true->Xh,and_eq_true->Xs,false_eq_true->Zk,eq_iff_iff->ZS,not_eq_true'->q0x,or_true->q0Y,and_false->q1d,or_false->q1y,true_or->q1X,eq_false_iff->q3s,not_eq_true->q3M,false_and->q4l,and_true->q4W
open Int renaming toNat_natCast->Xn,emod_lt_of_pos->Y4,emod_nonneg->Zq,ofNat.inj->q1A,toNat_of_nonneg->q2K,zero_add->q3u,ofNat->q3K,max_eq_right->q3N,min_eq_right->q3O,min_eq_left->q35,max_eq_left->q36,mul_one->q6v,toNat->q8f
open Classical renaming byContradiction->Xo,propDecidable->q5i,not_forall->q66,not_imp->q70
open False renaming elim->Xu
open PyProof renaming Rows.slot_tuple_getitem->Yh,Rows.callWith_type1->YP,Rows.F.entry_set_update_loop->ZE,Rows.boot_isinstance->q0T,Rows.get?_update_seq->q0U,Rows.lt_int->q0W,Rows.F.plain_set_update_loop->q1D,Rows.subscriptTail_builtinR->q1V,Rows.entry_tuple_getitem->q2x,Rows.args_tuple_getitem->q20
open Ne renaming symm->YD
open ForInStep renaming yield->YK
open True renaming intro->Zx
open Or renaming inl->q0f,inr->q2f
open Sum renaming inl->q1p,inr->q4c
open Function renaming comp->q4Z
open Prod renaming fst->q6B
set_option linter.all false
set_option autoImplicit true
set_option compiler.extract_closed false
set_option compiler.reuse false
theorem zE1{A1:Sort _}{p:A1→Prop}{R:Prop}(h:∃x1,p x1)(f:∀x1,p x1→R):R:=by obtain⟨x1,h⟩:=h;exact f _  h
theorem zE2{A1 A2:Sort _}{p:A1→A2→Prop}{R:Prop}(h:∃x1 x2,p x1 x2)(f:∀x1 x2,p x1 x2→R):R:=by obtain⟨x1,x2,h⟩:=h;exact f _ _ h
theorem zE3{A1 A2 A3:Sort _}{p:A1→A2→A3→Prop}{R:Prop}(h:∃x1 x2 x3,p x1 x2 x3)(f:∀x1 x2 x3,p x1 x2 x3→R):R:=by obtain⟨x1,x2,x3,h⟩:=h;exact f _ _ _ h
theorem zE4{A1 A2 A3 A4:Sort _}{p:A1→A2→A3→A4→Prop}{R:Prop}(h:∃x1 x2 x3 x4,p x1 x2 x3 x4)(f:∀x1 x2 x3 x4,p x1 x2 x3 x4→R):R:=by obtain⟨x1,x2,x3,x4,h⟩:=h;exact f _ _ _ _ h
theorem zE5{A1 A2 A3 A4 A5:Sort _}{p:A1→A2→A3→A4→A5→Prop}{R:Prop}(h:∃x1 x2 x3 x4 x5,p x1 x2 x3 x4 x5)(f:∀x1 x2 x3 x4 x5,p x1 x2 x3 x4 x5→R):R:=by obtain⟨x1,x2,x3,x4,x5,h⟩:=h;exact f _ _ _ _ _ h
theorem zE6{A1 A2 A3 A4 A5 A6:Sort _}{p:A1→A2→A3→A4→A5→A6→Prop}{R:Prop}(h:∃x1 x2 x3 x4 x5 x6,p x1 x2 x3 x4 x5 x6)(f:∀x1 x2 x3 x4 x5 x6,p x1 x2 x3 x4 x5 x6→R):R:=by obtain⟨x1,x2,x3,x4,x5,x6,h⟩:=h;exact f _ _ _ _ _ _ h
theorem zE7{A1 A2 A3 A4 A5 A6 A7:Sort _}{p:A1→A2→A3→A4→A5→A6→A7→Prop}{R:Prop}(h:∃x1 x2 x3 x4 x5 x6 x7,p x1 x2 x3 x4 x5 x6 x7)(f:∀x1 x2 x3 x4 x5 x6 x7,p x1 x2 x3 x4 x5 x6 x7→R):R:=by obtain⟨x1,x2,x3,x4,x5,x6,x7,h⟩:=h;exact f _ _ _ _ _ _ _ h
theorem zE8{A1 A2 A3 A4 A5 A6 A7 A8:Sort _}{p:A1→A2→A3→A4→A5→A6→A7→A8→Prop}{R:Prop}(h:∃x1 x2 x3 x4 x5 x6 x7 x8,p x1 x2 x3 x4 x5 x6 x7 x8)(f:∀x1 x2 x3 x4 x5 x6 x7 x8,p x1 x2 x3 x4 x5 x6 x7 x8→R):R:=by obtain⟨x1,x2,x3,x4,x5,x6,x7,x8,h⟩:=h;exact f _ _ _ _ _ _ _ _ h
theorem zE9{A1 A2 A3 A4 A5 A6 A7 A8 A9:Sort _}{p:A1→A2→A3→A4→A5→A6→A7→A8→A9→Prop}{R:Prop}(h:∃x1 x2 x3 x4 x5 x6 x7 x8 x9,p x1 x2 x3 x4 x5 x6 x7 x8 x9)(f:∀x1 x2 x3 x4 x5 x6 x7 x8 x9,p x1 x2 x3 x4 x5 x6 x7 x8 x9→R):R:=by obtain⟨x1,x2,x3,x4,x5,x6,x7,x8,x9,h⟩:=h;exact f _ _ _ _ _ _ _ _ _ h
theorem zA1{a0 a1 R:Prop}(h:a0∧a1)(f:a0→a1→R):R:=by obtain⟨h0,h1⟩:=h;exact f h0 h1
theorem zA2{a0 a1 a2 R:Prop}(h:a0∧a1∧a2)(f:a0→a1→a2→R):R:=by obtain⟨h0,h1,h2⟩:=h;exact f h0 h1 h2
theorem zA3{a0 a1 a2 a3 R:Prop}(h:a0∧a1∧a2∧a3)(f:a0→a1→a2→a3→R):R:=by obtain⟨h0,h1,h2,h3⟩:=h;exact f h0 h1 h2 h3
theorem zA4{a0 a1 a2 a3 a4 R:Prop}(h:a0∧a1∧a2∧a3∧a4)(f:a0→a1→a2→a3→a4→R):R:=by obtain⟨h0,h1,h2,h3,h4⟩:=h;exact f h0 h1 h2 h3 h4
theorem zA5{a0 a1 a2 a3 a4 a5 R:Prop}(h:a0∧a1∧a2∧a3∧a4∧a5)(f:a0→a1→a2→a3→a4→a5→R):R:=by obtain⟨h0,h1,h2,h3,h4,h5⟩:=h;exact f h0 h1 h2 h3 h4 h5
theorem zA6{a0 a1 a2 a3 a4 a5 a6 R:Prop}(h:a0∧a1∧a2∧a3∧a4∧a5∧a6)(f:a0→a1→a2→a3→a4→a5→a6→R):R:=by obtain⟨h0,h1,h2,h3,h4,h5,h6⟩:=h;exact f h0 h1 h2 h3 h4 h5 h6
theorem zA7{a0 a1 a2 a3 a4 a5 a6 a7 R:Prop}(h:a0∧a1∧a2∧a3∧a4∧a5∧a6∧a7)(f:a0→a1→a2→a3→a4→a5→a6→a7→R):R:=by obtain⟨h0,h1,h2,h3,h4,h5,h6,h7⟩:=h;exact f h0 h1 h2 h3 h4 h5 h6 h7
theorem zA8{a0 a1 a2 a3 a4 a5 a6 a7 a8 R:Prop}(h:a0∧a1∧a2∧a3∧a4∧a5∧a6∧a7∧a8)(f:a0→a1→a2→a3→a4→a5→a6→a7→a8→R):R:=by obtain⟨h0,h1,h2,h3,h4,h5,h6,h7,h8⟩:=h;exact f h0 h1 h2 h3 h4 h5 h6 h7 h8
theorem zA9{a0 a1 a2 a3 a4 a5 a6 a7 a8 a9 R:Prop}(h:a0∧a1∧a2∧a3∧a4∧a5∧a6∧a7∧a8∧a9)(f:a0→a1→a2→a3→a4→a5→a6→a7→a8→a9→R):R:=by obtain⟨h0,h1,h2,h3,h4,h5,h6,h7,h8,h9⟩:=h;exact f h0 h1 h2 h3 h4 h5 h6 h7 h8 h9
theorem zI2{A1 A2:Sort _}{p:A1→A2→Prop}(x1 x2)(h:p x1 x2):∃x1 x2,p x1 x2:=⟨x1,x2,h⟩
theorem zI3{A1 A2 A3:Sort _}{p:A1→A2→A3→Prop}(x1 x2 x3)(h:p x1 x2 x3):∃x1 x2 x3,p x1 x2 x3:=⟨x1,x2,x3,h⟩
theorem zI4{A1 A2 A3 A4:Sort _}{p:A1→A2→A3→A4→Prop}(x1 x2 x3 x4)(h:p x1 x2 x3 x4):∃x1 x2 x3 x4,p x1 x2 x3 x4:=⟨x1,x2,x3,x4,h⟩
theorem zI5{A1 A2 A3 A4 A5:Sort _}{p:A1→A2→A3→A4→A5→Prop}(x1 x2 x3 x4 x5)(h:p x1 x2 x3 x4 x5):∃x1 x2 x3 x4 x5,p x1 x2 x3 x4 x5:=⟨x1,x2,x3,x4,x5,h⟩
theorem zI6{A1 A2 A3 A4 A5 A6:Sort _}{p:A1→A2→A3→A4→A5→A6→Prop}(x1 x2 x3 x4 x5 x6)(h:p x1 x2 x3 x4 x5 x6):∃x1 x2 x3 x4 x5 x6,p x1 x2 x3 x4 x5 x6:=⟨x1,x2,x3,x4,x5,x6,h⟩
theorem zI7{A1 A2 A3 A4 A5 A6 A7:Sort _}{p:A1→A2→A3→A4→A5→A6→A7→Prop}(x1 x2 x3 x4 x5 x6 x7)(h:p x1 x2 x3 x4 x5 x6 x7):∃x1 x2 x3 x4 x5 x6 x7,p x1 x2 x3 x4 x5 x6 x7:=⟨x1,x2,x3,x4,x5,x6,x7,h⟩
set_option Elab.async false
set_option maxRecDepth 100000
abbrev aJ:=PySem.Value->PySem.Shared->Prop
local macro_rules | `(tactic| trivial) => `(tactic| first|exact q0f rfl|exact q2f rfl)
abbrev Bh:=@decide_eq_false
abbrev Bj:=@decide_eq_true
abbrev Vq:=@if_neg
abbrev W_:=@if_pos
abbrev Xq:=@of_decide_eq_true
abbrev Xt:=@decide_eq_true_eq
abbrev Yg:=@decide_eq_true_iff
abbrev ZO:=@beq_iff_eq
abbrev ZR:=@or_false
abbrev Z8:=@if_false
abbrev q0c:=@if_true
abbrev q01:=@of_decide_eq_false
abbrev q1H:=@beq_self_eq_true
abbrev q1R:=@decide_eq_decide
abbrev q3E:=@not_or
theorem el7{α β γ ε:Type}{A B C:α→β→γ→ε→Prop}{R:Prop}(h:∃F ad δ K, A F ad δ K∧B F ad δ K∧C F ad δ K)(k:∀F ad δ K, A F ad δ K→B F ad δ K→C F ad δ K→R): R:=h.elim λF h=>h.elim λa h=>h.elim λd h=>h.elim λK h=>k F a d K h.1 h.2.1 h.2.2
theorem el5{α β:Type}{A B C:α→β→Prop}{R:Prop}(h:∃F ad, A F ad∧B F ad∧C F ad)(k:∀F ad, A F ad→B F ad→C F ad→R): R:=h.elim λF h=>h.elim λa h=>k F a h.1 h.2.1 h.2.2
theorem el3{α:Type}{A B:α→Prop}{R:Prop}(h:∃F, A F∧B F)(k:∀F, A F→B F→R): R:=h.elim λF h=>k F h.1 h.2
set_option compiler.extract_closed false
local macro_rules | `(tactic| symm) => `(tactic| first|lia|omega (config:={}))
local macro_rules | `(⋯) => `(by symm)
abbrev D1:=PySem.Value->PySem.Shared->Prop
open Option renaming some->ζ,none->η
open Bool renaming true->θ,false->ι
open Decidable renaming decide->μ
open PySem renaming Value->ν,Addr->Z,Addr->ξ,Shared->ο,Str->π,wpAny->ρ,model->ς,Expr->υ,Stmt->χ,Program->ψ,World->ω,Heap->Α,Around->Β,Obj->Γ,Scope->Δ,Pos->Ε,Env->Ζ
theorem Y{α:Sort u}{a:α}:a=a:=rfl
theorem qzr (_:True:=by first|rfl|(intros;rfl)):True:=trivial
theorem qzd (_:True:=by decide):True:=trivial
theorem qz0 (_:True:=by kernel_rfl):True:=trivial
theorem qz1 (_:True:=by first|exact .inl Y|exact .inr Y|assumption):True:=trivial
theorem qz2 (_:True:=by first|rfl|kernel_rfl):True:=trivial
theorem qz3 (_:True:=by decide +kernel):True:=trivial
theorem qz4 (_:True:=by first|exact .inl rfl|exact .inr rfl|assumption):True:=trivial
theorem qz5 (_:True:=by first|exact .inl rfl|calc .inr rfl):True:=trivial
theorem qz6 (_:True:=by with_unfolding_all rfl):True:=trivial
theorem qz7 (_:True:=by size_fits):True:=trivial
theorem qz8 (_:True:=by trivial):True:=trivial
local macro_rules
|`(command|meta def $i:declId $s:optDeclSig $v:declVal)=>`(command|noncomputable def $i:declId $s:optDeclSig $v:declVal)
|`(command|meta abbrev $i:declId $s:optDeclSig $v:declVal)=>`(command|noncomputable abbrev $i:declId $s:optDeclSig $v:declVal)
section
open Lean in
local macro_rules
 |`(‹$x›)=>if x.raw.isOfKind `Lean.Parser.Term.hole then Macro.throwUnsupported else `(autoParam $x qzr._auto_1)
 |`(~~~$x)=>`(autoParam $x qzd._auto_1)
open Lean in
def zn(s:Name)(a:List Syntax):Syntax:=.node .none (`Lean.Parser++s) ⟨a⟩
open Lean in
def zp(s:Syntax):Syntax:=zn `Tactic.rintroPat.one [zn `Tactic.rcasesPat.paren [mkAtom "(",s,mkAtom ")"]]
open Lean in
def zv(s:String)(i:Nat):Syntax:=mkIdent (.mkSimple (s++toString i))
open Lean in
def zq:List Char→Nat→Syntax→List Syntax→List Syntax
|[],_,_,_=>[]
|d::l,i,m,c=>
 let k:=d.toNat-48
 if k==0 then zq l (i+1) m c else
 let z:=zv "y'" i
 let s:=if l.isEmpty then c.getD k z else zn `Tactic.rcasesPatLo [zn `Tactic.rcasesPatMed [mkNullNode #[zn `Tactic.rcasesPat.one [z]]],mkNullNode]
 zn `Tactic.refine [mkAtom "refine",zn `Term.app [zv (if i%2==0 then "zE" else "zA") k,mkNullNode #[m,zn `Term.syntheticHole [mkAtom "?",mkAtom "_"]]]]::mkAtom ";"::zn `Tactic.tacticTry_ [mkAtom "try",zn `Tactic.tacticSeq [zn `Tactic.tacticSeq1Indented [mkNullNode #[zn `Tactic.clear [mkAtom "clear",mkNullNode #[m]]]]]]::mkAtom ";"::zn `Tactic.rintro [mkAtom "rintro",mkNullNode ⟨(c.take k).map zp++[zp s]⟩,mkNullNode]::mkAtom ";"::zq l (i+1) z (c.drop k)
open Lean in
local macro_rules|`(tactic|obtain $p:rcasesPatMed:$n:num:=$e)=>pure (zn `Tactic.paren [mkAtom "(",zn `Tactic.tacticSeq [zn `Tactic.tacticSeq1Indented [mkNullNode ⟨zq n.raw[0].getAtomVal.toList 0 e p.raw[0][0][1].getSepArgs.toList⟩]],mkAtom ")"])
open Lean in
def qzp(s:Syntax):Syntax:=
 let n:=λs a=>mkNode (`Lean.Parser.Tactic++s) a
 s.rewriteBottomUp λs=>if s.isIdent then n `rcasesPat.one #[s] else if s.isOfKind `Lean.Parser.Term.hole then n `rcasesPat.ignore #[mkAtom "_"] else if s.isOfKind `Lean.Parser.Term.anonymousCtor then n `rcasesPat.tuple #[mkAtom "⟨",mkNullNode (s[1].getArgs.map λx=>if x.isAtom then x else n `rcasesPatLo #[n `rcasesPatMed #[mkNullNode #[x]],mkNullNode]),mkAtom "⟩"] else s
open Lean in
local macro_rules
 |`(tactic|let $d:letDecl)=>do
  let d:=d.raw[0]
  let r:TSyntax `tactic:=⟨if d.isOfKind `Lean.Parser.Term.letPatDecl then mkNode `Lean.Parser.Tactic.obtain #[mkAtom "obtain",mkNullNode #[mkNode `Lean.Parser.Tactic.rcasesPatMed #[mkNullNode #[qzp d[0]]]],mkNullNode (if d[2].getNumArgs==0 then #[] else #[mkAtom ":",d[2][0][1]]),mkNullNode #[mkAtom ":=",mkNullNode #[d[4]]]] else mkNode `Lean.Parser.Tactic.tacticHave__ #[mkAtom "have",mkNode `Lean.Parser.Term.letConfig #[mkNullNode],mkNode `Lean.Parser.Term.letDecl #[d]]⟩
  if d.isOfKind `Lean.Parser.Term.letPatDecl&&(d[0].find? (·.isOfKind `Lean.Parser.Term.hole)).isNone then `(tactic|set_option tactic.hygienic false in $r:tactic) else pure r
open Lean in
local macro_rules
 |`(fun $bs* => $e)=>do
  if (← getRef)[1][2].getAtomVal != "↦" then Macro.throwUnsupported
  let p:=bs.map λs=>⟨mkNode `Lean.Parser.Tactic.rintroPat.one #[qzp s]⟩
  `(by rintro $p*;exact $e)
local macro_rules |`(tactic|calc $e:term)=>`(tactic|refine $e)
local macro_rules |`(tactic|ext $p*)=>if p.any λx=>(x.raw.find? (·.isOfKind `Lean.Parser.Tactic.rcasesPat.ignore)).isSome then `(tactic|rintro $p*) else `(tactic|set_option tactic.hygienic false in rintro $p*)
local macro_rules |`(↑$x)=>`(($x).length)
local macro_rules |`(⇑$x)=>`(($x).heap.objs.size)
local macro_rules |`($x⁻¹)=>`(by simpa using $x)
open Lean in
local macro_rules
 |`(-$x)=>if x.raw.getKind==`Lean.Parser.Term.typeAscription||x.raw.isOfKind `num||(x.raw.isOfKind `Lean.Parser.Term.paren&&!x.raw[1].isOfKind `Lean.Parser.Term.app&&!x.raw[1].isOfKind `«term-_»&&!x.raw[1].isOfKind `«term_×_»&&!x.raw[1].isOfKind `Lean.Parser.Term.arrow) then Macro.throwUnsupported else `(List $x)
open Lean in
local macro_rules
 |`(tactic|erw[$ls,*] $[$l:location]?)=>do
  let a←ls.getElems.mapM fun r=>do
   let t:Term:=⟨r.raw[1]⟩
   if r.raw[0].getNumArgs==0 then `(Parser.Tactic.simpLemma|$t:term) else `(Parser.Tactic.simpLemma|←$t:term)
  `(tactic|simp only[$a,*] $[$l]?)
namespace LJS
open PySem PySem.SetTable
meta def nx(m i:Nat):Nat:=(i*5+1)%(m+1)
meta def kg(m:Nat):Nat->Nat->Nat
 |0,i=>i
 |n+1,i=>kg m n (nx m i)
theorem qV m:∀a b i,kg m (a+b) i=kg m b (kg m a i)
 |0,b,i=>by rw[Yd];rfl
 |a+1,b,i=>by rw[q5l];calc qV m a b (nx m i)
meta def t4(m:Nat):Nat->Nat->-Nat
 |0,_=>[]
 |n+1,i=>i::t4 m n (nx m i)
theorem zT m:∀{n i e},e∈t4 m n i->∃k,k<n/\kg m k i=e
 |0,_,_,h=>nomatch h
 |n+1,i,e,h=>by
  rcases KN.mp h with rfl|h
  .exact⟨0,q5m _,Y⟩
  .let⟨k,a,e⟩:11:=zT m h
   calc⟨k+1,Nat.succ_lt_succ a,e⟩
def Mk(m:Nat):Prop:=m=7\/m=31\/m=127
meta def oB(m:Nat):Bool:=(Xz (m+1)).all λe=>(t4 m (m+1) 0).contains e
theorem zU(h:Mk m):oB m=θ/\kg m (m+1) 0=0:=by
 rcases h with rfl|rfl|rfl<;>calc⟨by decide +kernel,by decide +kernel⟩
theorem lb(h:Mk m)(he:e<=m):∃k,k<=m/\kg m k 0=e:=by
 let:=XS.mp (zU h).1 e (Xr.mpr ⋯);let⟨k,a,q⟩:=zT m (List.contains_iff_mem.mp this);calc⟨k,q0o a,q⟩
theorem Hw(h:Mk m)(c:i<=m)(he:e<=m):∃n,n<=m/\kg m n i=e:=by
 let⟨a,f,rfl⟩:=lb h c;let⟨b,g,rfl⟩:=lb h he
 by_cases d:a<=b
 .refine⟨b-a,⋯,?_⟩
  rw[<-qV];congr 1;symm
 .refine⟨m+1-a+b,⋯,?_⟩
  rw[<-qV,show a+(m+1-a+b)=(m+1)+b by symm,qV,(zU h).2]
meta def lp(m:Nat):Nat->Nat->Nat->Nat×Nat
 |0,i,p=>(i,p)
 |n+1,i,p=>lp m n (leap m i p).1 (leap m i p).2
theorem zV m:∀a b i p,lp m (a+b) i p=lp m b (lp m a i p).1 (lp m a i p).2
 |0,b,i,p=>by rw[Yd];rfl
 |a+1,b,i,p=>by rw[q5l];calc zV m a b _ _
theorem zW m:∀n i,lp m n i 0=(kg m n i,0)
 |0,i=>Y
 |n+1,i=>by
  calc zW m n _
theorem Hx m i p:(leap m i p).1<=m:=q0o (q7s _ (q5m _))
theorem zX m:∀n i p,(lp m n i p).2=p / 32 ^ n
 |0,i,p=>by simp[lp]
 |n+1,i,p=>by
  show(lp m n (leap m i p).1 (leap m i p).2).2=_;rw[zX m n];show p / 32 / 32 ^ n=_;rw[Nat.div_div_eq_div_mul,Nat.pow_succ,q5n]
theorem reach(h:Mk m)(b:p<2 ^ 64)(he:e<=m):∃n,n<=13+m/\(lp m n i p).1=e:=by
 let z:(lp m 13 i p).2=0:=by
  rw[zX];symm
 let q:(lp m 13 i p).1<=m:=by
  exact Hx _ _ _
 let⟨n,c,a⟩:=Hw h q he;calc⟨13+n,⋯,?_⟩;rw[zV,z,zW];calc a
theorem zY j:has #[] j=ι:=by unfold has;simp
theorem t5{t:SetTable}(hd:t.dummies = #[]) j:t.slot j=.empty\/∃i,t.slot j=.live i/\i<t.place.size/\j∈t.place.toList:=by
 unfold slot;rw[hd,zY]
 by_cases c:(t.place[below t.place j]?==ζ j)=θ
 .right
  rw[W_ c];let⟨a,b⟩:=YS.mp (Xg c);exact⟨_,Y,a,by rw[<-b];calc q1t a⟩
 .left
  rw[Vq c];rfl
theorem Hy{t:SetTable}(hd:t.dummies = #[])(hj:j∉t.place.toList):t.slot j=.empty:=by
 rcases t5 hd j with h|⟨_,_,_,h⟩
 .exact h
 .calc absurd h hj
theorem zZ:∀{l l':-Nat},l.Nodup->(∀x∈l,x∈l')->↑l<=↑l'
 |[],_,_,_=>XZ _
 |a::l,l',f,c=>by
  let d:=c a (Vr ..);let b:=XU.mp f;let g:=zZ  (l':=l'.erase a) b.2 λx e=>(List.mem_erase_of_ne (λz=>b.1 (by rw[<-z];calc e))).mpr (c x (Bi _ e));rw[List.length_erase_of_mem d] at g;let:=List.length_pos_of_mem d;rw[rC];symm
theorem Hz{l:-Nat}(h:↑l<=m):∃e,e<=m/\e∉l:=by
 calc Xo λa=>?_;let:=zZ q0D (λe b=>Xo λz=>a ⟨e,q0o (Xr.mp b),z⟩);rw[Ye] at this;symm
meta def stateOf(t:SetTable)(i p:Nat):Probe:=⟨i,runEnd t.mask i-i,i,p,η⟩
theorem HA m i:runEnd m i-i<=9:=by unfold runEnd;split<;>symm
section
variable{t:SetTable}{f:Nat->Int}{h:Int}
theorem qW F p:q00 t f h (F+1) p=(match t.slot p.j with
  |.empty=>ζ (.empty p.j p.dummy)
  |.dummy=>q00 t f h F (t.advance {p with dummy:=ζ p.j})
  |.live i=>if f i==h then ζ (.candidate p.j i (t.advance p)) else q00 t f h F (t.advance p)):=rfl
theorem z0(hd:t.dummies = #[])(b:∀i,i<t.place.size->f i≠h):∀k F p,p.more=k->p.dummy=η →
  (∃j,q00 t f h (F+k+1) p=ζ (.empty j η))\/q00 t f h (F+k+1) p=q00 t f h F (stateOf t (leap t.mask p.i p.perturb).1 (leap t.mask p.i p.perturb).2)
 |0,F,p,d,a=>by
  rw[qW];rcases t5 hd p.j with e|⟨i,e,c,_⟩
  .left;rw[e];exact⟨p.j,by rw[a]⟩
  .right
   rw[e];show(if(f i==h)=θ then _ else _)=_;rw[Vq (by ext z;calc b i c (Xg z))];unfold advance;rw[d,Vq ⋯,a];rfl
 |k+1,F,p,d,a=>by
  let g:=z0 hd b k F {p with j:=p.j+1,more:=p.more-1} (by show p.more-1=k;symm) a;rw[show F+(k+1)+1=(F+k+1)+1 by symm,qW];rcases t5 hd p.j with e|⟨i,e,c,_⟩
  .left;rw[e];exact⟨p.j,by rw[a]⟩
  .rw[e]
   show(∃j,(if(f i==h)=θ then _ else _)=_)\/(if(f i==h)=θ then _ else _)=_;rw[Vq (by ext z;calc b i c (Xg z))];let l:t.advance p={p with j:=p.j+1,more:=p.more-1}:=by unfold advance;rw[W_ ⋯]
   rw[l];calc g
theorem z4(hd:t.dummies = #[])(c:∀i,i<t.place.size->f i≠h):∀n F i p,10*(n+1)<=F->t.slot (lp t.mask n i p).1=.empty->∃j,q00 t f h F (stateOf t i p)=ζ (.empty j η)
 |0,F,i,p,d,a=>by
  let⟨G,rfl⟩:∃G,F=G+1:=⟨F-1,⋯⟩;rw[qW];let e:t.slot (stateOf t i p).j=.empty:=a;rw[e];exact⟨i,Y⟩
 |n+1,F,i,p,d,a=>by
  let k:=HA t.mask i;let⟨G,g⟩:∃G,F=G+(runEnd t.mask i-i)+1:=⟨F-(runEnd t.mask i-i)-1,⋯⟩;let:=z0   hd c (runEnd t.mask i-i) G (stateOf t i p) Y Y;rw[<-g] at this;rcases this with b|b
  .exact b
  .rw[b]
   calc z4 hd c n G _ _ ⋯ a
theorem t6 h:bits h<2 ^ 64:=by
 unfold bits;symm
theorem z5(hd:t.dummies = #[])(a:Mk t.mask)(hz:t.place.size<=t.mask)(b:∀i,i<t.place.size->f i≠h):∃j,t.probe f h (t.probeStart h)=ζ (.empty j η):=by
 let⟨e,c,d⟩:=Hz   ⋯;let⟨n,k,g⟩:=reach a  (t6 h) c;calc z4 hd b n _ _ _ (by unfold turns;symm) (by rw[g];calc Hy hd d)
end
section
variable{m:Nat}{owner:Array (Option Nat)}
theorem z6 F i p:Ze m owner (F+1) i p=(match(Xz (runEnd m i+1-i)).find? λk=>(owner.getD (i+k) (ζ 0)).isNone with
   |some k=>ζ (i+k)
   |none=>Ze m owner F (leap m i p).1 (leap m i p).2):=rfl
theorem t7:∀n F i p,n+1<=F->(owner.getD (lp m n i p).1 (ζ 0)).isNone=θ->∃j,Ze m owner F i p=ζ j/\(owner.getD j (ζ 0)).isNone=θ
 |0,F,i,p,c,b=>by
  let⟨G,rfl⟩:∃G,F=G+1:=⟨F-1,⋯⟩;rw[z6]
  cases a:(Xz (runEnd m i+1-i)).find? λk=>(owner.getD (i+k) (ζ 0)).isNone with
  |some k =>
   let:=q11 a;exact⟨i+k,Y,this⟩
  |none =>
   let:=q2S.mp a 0 (Xr.mpr (by unfold runEnd;split<;>symm));exact absurd b this
 |n+1,F,i,p,c,b=>by
  let⟨G,rfl⟩:∃G,F=G+1:=⟨F-1,⋯⟩;rw[z6]
  cases a:(Xz (runEnd m i+1-i)).find? λk=>(owner.getD (i+k) (ζ 0)).isNone with
  |some k =>
   let:=q11 a;exact⟨i+k,Y,this⟩
  |none=>calc t7 n G _ _ ⋯ b
end
structure Ow(m:Nat)(owner:Array (Option Nat))(k:Nat):Prop where
 size:owner.size=m+1
 cnt:owner.toList.countP q2N=k
 lt:∀x,ζ x∈owner.toList->x<k
theorem t8:∀{l:-(Option Nat)}{j k},l[j]?=ζ η->(l.set j (ζ k)).countP q2N=l.countP q2N+1
 |[],j,k,h=>by simp at h
 |x::l,0,k,h=>by
  simp at h;subst h;rw[XW,Yz,Yz];rfl
 |x::l,j+1,k,h=>by
  simp at h;rw[XX,Yz,Yz,t8 h];symm
theorem getD_none{owner:Array (Option Nat)}(h:(owner.getD j (ζ 0)).isNone=θ):owner.toList[j]?=ζ η:=by
 rw[X1] at h;rw[XB]
 cases e:owner[j]? with
 |none=>rw[e] at h;cases h
 |some x =>
  rw[e] at h
  cases x with
  |none=>rfl
  |some y=>cases h
theorem z7{owner}(O:Ow m owner k)(g:k<=m):∃e,e<=m/\(owner.getD e (ζ 0)).isNone=θ:=by
 refine Xo λd=>?_
 let a:∀x∈owner.toList,x.isSome=θ:=by
  ext x f;let⟨e,b⟩:=Vt.mp f
  cases x with
  |some y=>rfl
  |none =>
   let c:=(mj.mp b).1;rw[Xa,O.size] at c;calc absurd ⟨e,q0o c,?_⟩ d;rw[X1,<-XB,b];rfl
 let:=q1_.mpr a;rw[O.cnt,Xa,O.size] at this;symm
theorem HB{owner}(b:Mk m)(O:Ow m owner k)(c:k<=m) h:∃j,Ze m owner (turns m) (bits h%(m+1)) (bits h)=ζ j/\Ow m (owner.setIfInBounds j (ζ k)) (k+1):=by
 let⟨e,d,f⟩:=z7 O c;let⟨n,g,i⟩:=reach b  (t6 h) d;let⟨j,l,o⟩:=t7   n (turns m) (bits h%(m+1)) (bits h) (by unfold turns;symm) (by rw[i];calc f);refine⟨j,l,by rw[q1u];calc O.size,?_,λx a=>?_⟩
 .rw[YT,t8 (getD_none o),O.cnt]
 .rw[YT] at a
  rcases q1i a with h|h
  .exact X8 (O.lt x h)
  .cases h;symm
theorem z8(d:Mk m):∀(c:-Int) owner k,Ow m owner k->k+↑c<=m+1 →
  ∃b,(c.foldl (init:=ζ (owner,k)) λacc h=>do
   let(owner,k) <- acc
   let j <- Ze m owner (turns m) (bits h%(m+1)) (bits h)
   pure (owner.setIfInBounds j (ζ k),k+1))=ζ (b,k+↑c)/\Ow m b (k+↑c)
 |[],a,k,O,_=>⟨a,Y,O⟩
 |h::c,a,k,O,e=>by
  rw[rC] at e ⊢;let⟨j,f,g⟩:11:=HB d O ⋯ h;let⟨i,l,n⟩:=z8 d c _ (k+1) g ⋯;calc⟨i,?_,by rw[show k+(↑c+1)=k+1+↑c by symm];calc n⟩;rw[q12,show k+(↑c+1)=k+1+↑c by symm,<-l];congr 1;show(do let j <- Ze m a (turns m) (bits h%(m+1)) (bits h);pure (a.setIfInBounds j (ζ k),k+1))=_;rw[f];rfl
theorem z9 m:Ow m (q3T (m+1) η) 0:=by
 refine⟨by simp,?_,λx a=>?_⟩
 .exact List.countP_eq_zero.mpr λx a=>by rw[Z7 a];decide
 .cases Z7 a
theorem HC(b:Mk m) a (hz:a.size<=m+1):∃owner,layClean m a=ζ owner/\Ow m owner a.size:=by
 let⟨o,e,O⟩:=z8 b a.toList _ 0 (z9 m) (by rw[Xa];symm);rw[Yd,Xa] at O;calc⟨o,?_,O⟩;unfold layClean;rw[<-q2T,e];rfl
meta def jU(m:Nat)(owner:Array (Option Nat)):-(Nat×Nat):=(Xz (m+1)).filterMap λj=>(owner.getD j η).map (j,·)
theorem t_(O:Ow m owner k):↑(jU m owner)=k:=by
 unfold jU;rw[q0B,<-O.cnt]
 let e:owner.toList=(Xz (m+1)).map λj=>owner.getD j η:=by
  calc Zr λi=>?_;rw[XB,KI]
  by_cases a:i<m+1
  .rw[YG a,q13,Xp (by rw[O.size];calc a),X1,Xp (by rw[O.size];calc a)];rfl
  .rw[YA (by rw[O.size];symm),Yt (by rw[Ye];symm)];rfl
 rw[e,q3U];calc q27 λj _=>?_;simp
theorem HD(O:Ow m owner k)(hz:z∈jU m owner):z.2<k:=by
 let⟨j,a,e⟩:=q0g.mp hz;let⟨x,ex,rfl⟩:=My.mp e;calc O.lt x ?_;rw[X1] at ex
 cases q:owner[j]? with
 |none=>rw[q] at ex;cases ex
 |some y =>
  rw[q] at ex;cases(ex)
  calc Vt.mpr ⟨j,by rw[XB];calc q⟩
theorem HE(d:Mk m)(t:SetTable) c a (f:sizeAbove a-1=m) (hz:c.size<=m+1) :
  ∃t' order,t.relaid c a=ζ (t',order)/\t'.mask=m/\t'.dummies = #[]/\t'.place.size=c.size/\t'.led=t.led/\t'.plain=t.plain/\order.size=c.size/\∀k∈order.toList,k<c.size:=by
 let⟨b,e,O⟩:=HC d c hz;refine(zI2 ({mask:=m,place:=((jU m b).map (·.1)).toArray,dummies := #[],finger:=t.finger,led:=t.led,moves:=t.movedTo m,plain:=t.plain}) (((jU m b).map (·.2)).toArray) ⟨?_,Y,Y,?_,Y,Y,?_,λk h=>?_⟩)
 .unfold relaid laid
  rw[f,e];rfl
 .rw[KJ,kF,t_ O]
 .rw[KJ,kF,t_ O]
 .let⟨z,g,rfl⟩:=Bk.mp h
  calc HD O g
theorem z_{b:Type}{es:Array b}{order:Array Nat}(h:∀k∈order.toList,k<es.size):(order.filterMap (es[·]?)).size=order.size/\∀e∈(order.filterMap (es[·]?)).toList,e∈es.toList:=by
 constructor
 .rw[<-Xa,q1U,q0B,q1_.mpr λk c=>?_,Xa]
  rw[Xp (h k c)];rfl
 .ext e a
  rw[q1U] at a;let⟨k,_,q⟩:=q0g.mp a;calc Vt.mpr ⟨k,by rw[XB];calc q⟩
theorem ua(t:SetTable)(hd:t.dummies = #[]) j:(t.put j).1.dummies = #[]/\(t.put j).1.mask=t.mask/\(t.put j).1.place.size=t.place.size+1/\(t.put j).1.led=t.led/\(t.put j).1.plain=t.plain/\(t.put j).1.moves=t.moves/\(t.put j).1.finger=t.finger:=by
 unfold put;rw[hd,zY];calc⟨Y,Y,?_,Y,Y,Y,Y⟩;unfold insertAt;erw[q28,q3V,q2U];symm
theorem HF{a}{xs:Array a}{p x e}(h:e∈(insertAt xs p x).toList):e=x\/e∈xs.toList:=by
 unfold insertAt at h;erw[q2v,q0p,W9,W7,q2g] at h;rcases h with(h|h)|h
 .right;exact q0M (q2h h)
 .exact .inl h
 .right;calc q0M (q2h h)
theorem ub{a}(xs:Array a) p x:(insertAt xs p x).size=xs.size+1:=by
 unfold insertAt;erw[q28,q3V,q2U];symm
end LJS
namespace LJS
open PySem PySem.SetTable PyProof.Rows
structure fq(t:SetTable)(es:Array (Int×ν))(hs:-Int):Prop where
 lg:t.dummies = #[]
 kh:Mk t.mask
 hY:t.place.size=es.size
 num:es.size=↑hs
 fW:t.tooFull=ι
 ins:∀e∈es.toList,e.1∈hs
def eY(h:Α)(S:Z)(b:-Int):Prop:=∃o a c t,h.get? S=ζ o/\o.ExactSet/\o.data=.set a c t/\fq t a b
section
variable{t:SetTable}{es:Array (Int×ν)}{hs:-Int}
theorem fq.fill(T:fq t es hs):t.fill=es.size:=by
 unfold Zu;rw[T.hY,T.lg];rfl
theorem fq.lt(T:fq t es hs):es.size*5<t.mask*3:=by
 let:=T.fW;unfold tooFull at this;rw[T.fill] at this;let:=q01 this;symm
theorem fq.fits(T:fq t es hs):t.fits es.size=θ:=by
 let:=T.lt;unfold q0J;rw[T.fill,T.hY];simp;symm
theorem fq.uc(T:fq t es hs):t.gaveWay=ι:=by
 unfold SetTable.gaveWay;rcases T.kh with h|h|h<;>rw[h]<;>rfl
end
theorem Aa:sizeAbove (grown 5)-1=31:=by decide +kernel
theorem Ab:sizeAbove (grown 19)-1=127:=by decide +kernel
section
variable{prog:ψ}{w:ω}{A:Β}{E:aJ}{s:ο}
theorem HG{S x h b o es c t}{Q:SetFound->ο->Prop}(d:s.heap.get? S=ζ o)(hd:o.data=.set es c t)(T:fq t es b)(hn:h∉b)
  (k:∀j,Q (.free j ι) s):ρ (ς prog w) A (setSearch S x h θ) Q E s:=by
 calc dV (YU d hd T.fits ?_);dsimp only;rw[T.uc];let e:t.place.size<=t.mask:=by let:=T.lt;rw[T.hY];symm
 let⟨j,g⟩:=z5  (f:=λi=>(es[i]?.map (·.1)).getD 0) (h:=h) T.lg T.kh e (λi a z=>by
  rw[T.hY] at a;rw[Xp a] at z
  calc hn (by rw[<-z];calc T.ins _ (q1t a)))
 erw[q1C];generalize l:t.probe _ h (t.probeStart h)=P;rw[(l.symm.trans g)];calc nF (k j)
theorem HH{S:ξ}{x:ν}{h:Int}{u:-Int}{Q:Bool->ο->Prop}(X:x.scannable=ι)(Y:eY s.heap S u)(hn:h∉u)(Z:↑u<60)
  (hv:∀L:Bool->ο->Prop,(∀b,L b s)->ρ (ς prog w) A (hashByValue 8 x) L E s)
  (k:∀h',Z3 S s.heap h'->eY h' S (u++[h])->Q θ {s with heap:=h'}):ρ (ς prog w) A (setAddHashed S x h) Q E s:=by
 let⟨o,d,ep,t,v,y,r,T⟩:43:=Y;calc Xy ?_;calc dV (YU v r T.fits ?_);let hb:byScan x d=ι:=by unfold byScan;rw[X];rfl
 dsimp only;rw[hb];calc dV (HG v r T hn λj=>?_);calc dV (YU v r T.fits ?_);let⟨p1,p2,p3,p4,p5,p6,p7⟩:06:=ua t T.lg j
 let z:∀b:Bool,ρ (ς prog w) A (do
   storeSet S (SetTable.insertAt d (t.put j).2 (h,x)) (if b=θ then(t.put j).1 else{(t.put j).1 with plain:=false})
   if(!ι&&(if b=θ then(t.put j).1 else{(t.put j).1 with plain:=false}:SetTable).tooFull)=θ then do
       setRelay S (q4e (d.size+1))
       pure θ
    else pure θ) Q E s:=by
  ext b;generalize n:(if b=θ then(t.put j).1 else{(t.put j).1 with plain:=false}:SetTable)=g;let M:g.dummies = #[]:=by rw[<-n];cases b<;>exact p1
  let N:g.mask=t.mask:=by rw[<-n];cases b<;>exact p2
  let G:g.place.size=d.size+1:=by rw[<-n,<-T.hY];cases b<;>exact p3
  let c:=ub d (t.put j).2 (h,x)
  let i:∀e∈(insertAt d (t.put j).2 (h,x)).toList,e.1∈u++[h]:=λe B=>by
   rcases HF B with rfl|B
   .exact Vp _ (W7.mpr rfl)
   .exact Xv _ (T.ins e B)
  generalize insertAt d (t.put j).2 (h,x)=a at c i;let HI:d.size<60:=by rw[T.num];exact Z
  refine dV (q0q v r ?_ (by rw[c,YZ];symm))
  let l:(s.heap.update S (q02 a g)).get? S=ζ {o with data:=.set a (ep+1) g}:=by
   let:=XC (q02 a g) v (by rw[q3z a g r];rfl);rw[q3z a g r] at this;exact this
  let fl:g.fill=d.size+1:=by unfold Zu;rw[M,G];rfl
  let lt:=T.lt
  let p:g.fits a.size=θ:=by
   unfold q0J;rw[fl,G,c,N];simp;rcases T.kh with e|e|e<;>rw[e] at lt ⊢ <;> symm
  by_cases O:g.tooFull=θ
  .rw[W_ (by rw[O];rfl)]
   let HJ:=by
    let:=Xq O;symm
   let⟨m,H,hw,hsz⟩:∃m,Mk m/\sizeAbove (grown (d.size+1))-1=m/\(d.size+1)*5<m*3:=by
    rcases T.kh with e|e|e
    .let:d.size+1=5:=by symm
     rw[this];exact⟨31,.inr (.inl rfl),Aa,⋯⟩
    .let:d.size+1=19:=by symm
     rw[this];exact⟨127,.inr (.inr rfl),Ab,⋯⟩
    symm
   calc dV (dV (YU l rfl p ?_));dsimp only
   let I:¬ SetTable.sizeAbove (q4e (d.size+1))>sizeLine:=by
    rw[YZ];rcases H with e|e|e<;>symm
   rw[Vq I];let⟨P,f,er,R,U,J,_,_,C,V⟩:27:=HE H g (a.map (·.1)) (grown (d.size+1)) hw (by rw[q0r,c];symm);rw[er];rw[q0r,c] at J C;rw[q0r] at V;let⟨F,o2⟩:=z_   V;refine dV ?_
   show ρ _ _ (do
    if(f.filterMap (a[·]?)).size != a.size then
     unsupported "internal:set-table-lost-an-element"
    pure (f.filterMap (a[·]?),P)) _ _ _
   rw[Vq (by rw[F,C,c];simp)];refine nF (q0q l rfl ?_ (by rw[F,C,YZ];symm))
   let K:=by
    let:=XC (q02 (f.filterMap (a[·]?)) P) l (rfl);exact this
   refine nF (k _ ?_ (zI4 _ _ _ _ ⟨K,y,rfl,U,by rw[R];calc H,by rw[J,F,C],by rw[F,C,T.num,KG];rfl,?_,λe B=>i e (o2 e B)⟩))
   .exact (XE ..).trans (XE ..)
   .unfold tooFull Zu
    rw[U,J,R];simp;symm
  .let D:g.tooFull=ι:=by cases q:g.tooFull<;>simp_all
   rw[Vq (by rw[D];decide)];refine nF (k _ (XE ..) (zI4 _ _ _ _ ⟨l,y,rfl,M,by rw[N];calc T.kh,by rw[G,c],by rw[c,T.num,KG];rfl,D,i⟩))
 by_cases W:(t.put j).1.plain=θ
 .rw[W_ W]
  exact dV (hv _ λb=>z b)
 .rw[Vq W]
  calc z θ
end
end LJS
namespace LJS
open PySem PySem.SetTable
def Up(xs:Array Nat):Prop:=xs.toList.Pairwise (· < ·)
theorem Up.lt{xs}(u:Up xs){i k}(a:i<k)(b:k<xs.size):xs[i]'⋯<xs[k]:=by
 let:=Z6.mp u i k (by rw[Xa];symm) ⋯ a;simpa using this
theorem ud{xs}(u:Up xs) j:∀f k g,g<=xs.size->k<=g->g-k<=f->(∀i,(h:i<xs.size)->i<k->xs[i]<j)->(∀i,(h:i<xs.size)->g<=i->j<=xs[i]) →
  below.go xs j f k g<=xs.size/\(∀i,(h:i<xs.size)->i<below.go xs j f k g->xs[i]<j)/\(∀i,(h:i<xs.size)->below.go xs j f k g<=i->j<=xs[i])
 |0,k,g,m,o,p,a,b=>by
  let:k=g:=by symm
  subst this;exact⟨m,a,b⟩
 |f+1,k,g,m,o,p,a,b=>by
  unfold below.go
  by_cases c:k<g
  .rw[W_ c]
   let n:(k+g) / 2<xs.size:=by symm
   let q:xs.getD ((k+g) / 2) j=xs[(k+g) / 2]:=by rw[X1,Xp n];rfl
   erw[q]
   by_cases d:xs[(k+g) / 2]<j
   .rw[W_ d]
    refine ud u j f _ g m ⋯ ⋯ (λi l r=>?_) b
    by_cases e:i<(k+g) / 2
    .exact q29 (u.lt e n) d
    .let:i=(k+g) / 2:=by symm
     subst this;exact d
   .rw[Vq d]
    refine ud u j f k _ ⋯ ⋯ ⋯ a λi l r=>?_
    by_cases e:(k+g) / 2<i
    .exact YJ (q03 ⋯ (u.lt e l))
    .let:i=(k+g) / 2:=by symm
     subst this;symm
  .rw[Vq c]
   let:k=g:=by symm
   subst this;calc⟨m,a,b⟩
theorem qX{xs}(u:Up xs) j:below xs j<=xs.size/\(∀i,(h:i<xs.size)->i<below xs j->xs[i]<j)/\(∀i,(h:i<xs.size)->below xs j<=i->j<=xs[i]) :=
 ud u j xs.size 0 xs.size (vr _) (XZ _) ⋯ (λi _ h=>by symm) (λi h a=>by symm)
theorem HK{xs}(u:Up xs){i} d:below xs (xs[i]+1)=i+1:=by
 let⟨g,e,f⟩:02:=qX u (xs[i]+1)
 let a:i<below xs (xs[i]+1):=by
  calc Nat.lt_of_not_le λz=>?_;let:=f i d z;symm
 let b:below xs (xs[i]+1)<=i+1:=by
  calc q3A λz=>?_;let c:i+1<xs.size:=by symm
  let:=e (i+1) c z;let:=u.lt (k:=i+1) (Y2 i) c;symm
 symm
theorem HL{xs}(u:Up xs):below xs 0=0:=by
 let⟨b,a,c⟩:02:=qX u 0;calc Nat.eq_zero_of_not_pos λz=>?_;let:=a 0 ⋯ z;symm
theorem HM{t:SetTable}(u:Up t.place){j:Nat}(hj:j∉t.place.toList):Up (t.put j).1.place:=by
 let⟨o,k,l⟩:02:=qX u j;show Up (insertAt t.place (below t.place j) j);unfold Up insertAt;generalize below t.place j=p at o k l
 let q:(((t.place.extract 0 p).push j)++t.place.extract p t.place.size).toList=t.place.toList.take p++([j]++t.place.toList.drop p):=by
  erw[q2v,q0p,q2g,List.extract_eq_take_drop,q04,q2_,YV];let r:List.take (t.place.size-p) (q73 p t.place.toList)=q73 p t.place.toList:=Yn (by rw[YM,Xa];calc vr _);rw[r]
 rw[q]
 let m:∀x∈t.place.toList.take p,x<j:=by
  ext x d;let⟨i,f,e⟩:=Zs.mp d;rw[XN,Xa] at f;let:=k i ⋯ ⋯;rw[<-e];simpa using this
 let c:∀x∈t.place.toList.drop p,j<x:=by
  ext x d;let⟨i,f,e⟩:=Zs.mp d;rw[YM,Xa] at f;let:=l (p+i) ⋯ ⋯;let g:j<=x:=by rw[<-e];simpa using this
  calc Nat.lt_of_le_of_ne g λz=>hj ?_;rw[z];exact q0M d
 refine List.pairwise_append.mpr ⟨u.sublist (q1m _ _),?_,λa n b h=>?_⟩
 .exact Ya.mpr ⟨c,u.sublist (List.drop_sublist _ _)⟩
 .rcases KN.mp h with rfl|h
  .exact m a n
  .calc q29 (m a n) (c b h)
theorem HN n (f:Nat->Option Nat):(((Xz n).filterMap λj=>(f j).map λx=>(j,x)).map (·.1)).Pairwise (· < ·):=by
 rw[X9];calc List.Pairwise.filterMap _ (λa g c b e h d=>?_) (Yo);let⟨x,_,rfl⟩:=My.mp e;let⟨y,_,rfl⟩:=My.mp d;calc c
theorem HP m owner:((jU m owner).map (·.1)).Pairwise (· < ·):=HN (m+1) λj=>owner.getD j η
theorem Ac{f} d:∀c k (b:-f) out,↑b<=c->(pickOrder.go d c k b out).toList.Perm (out.toList++b)
 |0,k,b,g,h=>by
  let:b=[]:=Yb.mp ⋯;subst this;rw[Yx];exact q05 _
 |c+1,k,b,g,h=>by
  unfold pickOrder.go
  cases b with
  |nil=>simp
  |cons a l =>
   let e:d k%↑(a::l)<↑(a::l):=q7s _ (by rw[rC];symm);rw[mf e];refine(Ac d c (k+1) _ _ ?_).trans ?_
   .rw[ZX e];symm
   .rw[q0p,YV]
    exact q2a _ ((hZ e).symm)
where
 hZ {f}:∀{l:-f}{j}(h:j<↑l),q74 l (l[j]::l.eraseIdx j)
  |[],_,h=>by simp at h
  |a::l,0,_=>q05 _
  |a::l,j+1,h=>(q2i a (hZ   h⁻¹)).trans (q06 _ _ _)
theorem HQ{b} a (xs:Array b):(pickOrder a xs).toList.Perm xs.toList:=by
 let:=Ac a xs.size 0 xs.toList #[] (vr _);unfold pickOrder;simpa using this
theorem ue{t f h}:∀{a p j d},q00 t f h a p=ζ (.empty j d)->t.slot j=.empty
 |0,_,_,_,e=>nomatch e
 |a+1,p,j,d,e=>by
  rw[qW] at e
  cases q:t.slot p.j with
  |empty =>
   rw[q] at e;cases e
   exact q
  |dummy =>
   rw[q] at e;exact ue e
  |live i =>
   rw[q] at e
   by_cases c:(f i==h)=θ
   .erw[c,q0c] at e;cases e
   .erw[c,Z8] at e;calc ue e
theorem HR{t:SetTable}(u:Up t.place){j:Nat}(e:t.slot j=.empty):j∉t.place.toList:=by
 ext f;let⟨i,g,h⟩:=Zs.mp f;let c:i<t.place.size:=by rw[<-Xa];exact g
 let d:t.place[i]=j:=by simpa using h
 let⟨n,k,l⟩:02:=qX u j;let a:¬ i<below t.place j:=λz=>by let:=k i c z;symm
 let b:¬ below t.place j<i:=λz=>by
  let:=l (below t.place j) ⋯ (vr _);let:=u.lt z c;symm
 let m:below t.place j=i:=by symm
 unfold slot at e;rw[m] at e;let:(t.place[i]?==ζ j)=θ:=by rw[Xp c,d];simp
 erw[this,q0c] at e;cases e
def jV(owner:Array (Option Nat))(k:Nat):Prop:=(owner.toList.filterMap id).Perm (Xz k)
theorem uf:∀{l:-(Option Nat)}{j k},l[j]?=ζ η->((l.set j (ζ k)).filterMap id).Perm (k::l.filterMap id)
 |[],j,k,h=>by simp at h
 |x::l,0,k,h=>by
  simp at h;subst h;rfl
 |x::l,j+1,k,h=>by
  simp at h
  cases x with
  |none =>
   show((l.set j (ζ k)).filterMap id).Perm (k::l.filterMap id);exact uf h
  |some y =>
   calc(q2i y (uf h)).trans (q06 _ _ _)
theorem HU{owner:Array (Option Nat)}{j k:Nat}(P:jV owner k)(h:owner.toList[j]?=ζ η):jV (owner.setIfInBounds j (ζ k)) (k+1):=by
 unfold jV at P ⊢;rw[YT,q0d];calc(uf h).trans ((q2i k P).trans (List.perm_append_singleton k _).symm)
theorem HV{m:Nat}{owner:Array (Option Nat)}{k:Nat}(c:Mk m)(O:Ow m owner k)(d:jV owner k)(f:k<=m)(h:Int):∃j,Ze m owner (turns m) (bits h%(m+1)) (bits h)=ζ j/\Ow m (owner.setIfInBounds j (ζ k)) (k+1)/\jV (owner.setIfInBounds j (ζ k)) (k+1):=by
 let⟨e,g,i⟩:=z7 O f;let⟨n,l,o⟩:=reach c  (t6 h) g;let⟨j,p,a⟩:=t7   n (turns m) (bits h%(m+1)) (bits h) (by unfold turns;symm) (by rw[o];calc i);refine⟨j,p,⟨by rw[q1u];calc O.size,?_,λx b=>?_⟩,HU d (getD_none a)⟩
 .rw[YT,t8 (getD_none a),O.cnt]
 .rw[YT] at b
  rcases q1i b with h|h
  .exact X8 (O.lt x h)
  .cases h;symm
theorem Ad{m:Nat}(e:Mk m):∀(c:-Int)(owner:Array (Option Nat))(k:Nat),Ow m owner k->jV owner k->k+↑c<=m+1 →
  ∃b,(c.foldl (init:=ζ (owner,k)) λacc h=>do
   let(owner,k) <- acc
   let j <- Ze m owner (turns m) (bits h%(m+1)) (bits h)
   pure (owner.setIfInBounds j (ζ k),k+1))=ζ (b,k+↑c)/\Ow m b (k+↑c)/\jV b (k+↑c)
 |[],a,k,O,d,_=>⟨a,Y,O,d⟩
 |h::c,a,k,O,d,f=>by
  rw[rC] at f ⊢;let⟨j,g,i,l⟩:12:=HV e O d ⋯ h;let⟨n,o,p,q⟩:12:=Ad e c _ (k+1) i l ⋯;calc⟨n,?_,by rw[show k+(↑c+1)=k+1+↑c by symm];calc⟨p,q⟩⟩;rw[q12,show k+(↑c+1)=k+1+↑c by symm,<-o];congr 1;show(do let j <- Ze m a (turns m) (bits h%(m+1)) (bits h);pure (a.setIfInBounds j (ζ k),k+1))=_;rw[g];rfl
theorem HW m:jV (q3T (m+1) η) 0:=by
 unfold jV;rw[Array.toList_replicate,List.filterMap_eq_nil_iff.mpr λx a=>by rw[Z7 a];rfl];rfl
theorem HX{m:Nat}(c:Mk m)(a:Array Int)(hz:a.size<=m+1):∃owner,layClean m a=ζ owner/\Ow m owner a.size/\jV owner a.size:=by
 let⟨o,e,O,b⟩:12:=Ad c a.toList _ 0 (z9 m) (HW m) (by rw[Xa];symm);rw[Yd,Xa] at O b;calc⟨o,?_,O,b⟩;unfold layClean;rw[<-q2T,e];rfl
theorem HY{m owner}(b:owner.size=m+1):(jU m owner).map (·.2)=owner.toList.filterMap id:=by
 unfold jU;rw[List.map_filterMap]
 let e:owner.toList=(Xz (m+1)).map λj=>owner.getD j η:=by
  calc Zr λi=>?_;rw[XB,KI]
  by_cases a:i<m+1
  .rw[YG a,q13,Xp (by rw[b];calc a),X1,Xp (by rw[b];calc a)];rfl
  .rw[YA ⋯,Yt (by rw[Ye];symm)];rfl
 rw[e,q2V];congr 1;funext j;show q7u (λx  => x.2) (q7u (λx=>(j,x)) (owner.getD j η))=owner.getD j η;cases owner.getD j η<;>rfl
theorem HZ{m}(d:Mk m)(t:SetTable) c b (f:sizeAbove b-1=m) (hz:c.size<=m+1) :
  ∃t' order,t.relaid c b=ζ (t',order)/\t'.mask=m/\t'.dummies = #[]/\t'.place.size=c.size/\t'.led=t.led/\t'.plain=t.plain/\Up t'.place/\order.toList.Perm (Xz c.size):=by
 let⟨a,e,O,g⟩:12:=HX d c hz;refine(zI2 ({mask:=m,place:=((jU m a).map (·.1)).toArray,dummies := #[],finger:=t.finger,led:=t.led,moves:=t.movedTo m,plain:=t.plain}) (((jU m a).map (·.2)).toArray) ⟨?_,Y,Y,?_,Y,Y,?_,?_⟩)
 .unfold relaid laid
  rw[f,e];rfl
 .rw[KJ,kF,t_ O]
 .exact HP m a
 .rw[HY O.size];calc g
theorem H7{order n}(h:order.toList.Perm (Xz n)):coversAll order n=θ:=by
 calc List.isPerm_iff.mpr h
end LJS
namespace LJS
open PySem PySem.SetTable PyProof.Rows
meta def keyOf(e:Int×ν):Int:=match e.2 with
 |.int k _=>k
 |_=>0
structure cz(t:SetTable)(es:Array (Int×ν))(led:Bool)(ks:-Int):Prop where
 lg:t.dummies = #[]
 kh:Mk t.mask
 hY:t.place.size=es.size
 fW:t.tooFull=ι
 up:Up t.place
 oC:t.plain=θ
 ug:t.led=led
 qY:∀e∈es.toList,∃k tk,e=(hashInt k,YB k tk)
 keys:(es.toList.map keyOf).Perm ks
 lT:ks.Nodup
def eH(h:Α)(S:Z)(led:Bool)(ks:-Int):Prop:=∃o a b t,h.get? S=ζ o/\o.ExactSet/\o.data=.set a b t/\cz t a led ks
section
variable{t:SetTable}{es:Array (Int×ν)}{led:Bool}{ks:-Int}
theorem cz.num(T:cz t es led ks):es.size=↑ks:=by rw[<-T.keys.length_eq,kF,Xa]
theorem cz.fill(T:cz t es led ks):t.fill=es.size:=by unfold Zu;rw[T.hY,T.lg];rfl
theorem cz.lt(T:cz t es led ks):es.size*5<t.mask*3:=by
 let:=T.fW;unfold tooFull at this;rw[T.fill] at this;let:=q01 this;symm
theorem cz.fits(T:cz t es led ks):t.fits es.size=θ:=by
 let:=T.lt;unfold q0J;rw[T.fill,T.hY];simp;symm
theorem cz.elems{prog w}(T:cz t es led ks):ElemsOf (intKind prog w) es.toList:=λe a=>by
 let⟨k,b,rfl⟩:2:=T.qY e a;calc⟨⟨k,q0E ..,Y⟩,Y⟩
theorem cz.lay(T:cz t es led ks) k tk:∃j,j∉t.place.toList/\layNew t es (hashInt k) (.int k tk)=(insertAt es (t.put j).2 (hashInt k,.int k tk),(t.put j).1,ι,ι):=by
 let g:=T.lt;let⟨j,a⟩:=z5  (f:=λ_=>hashInt k+1) (h:=hashInt k) T.lg T.kh (by rw[T.hY];symm) (λi _ z=>by symm);let⟨b,c,d,_⟩:03:=ua t T.lg j;refine⟨j,HR T.up (ue a),?_⟩
 let e:(t.put j).1.fits (insertAt es (t.put j).2 (hashInt k,YB k tk)).size=θ:=by
  unfold q0J Zu;rw[b,c,d,ub,T.hY];simp;symm
 unfold layNew freeSlot;rw[a];show(insertAt es (t.put j).2 (hashInt k,YB k tk),(t.put j).1.orStandIn (insertAt es (t.put j).2 (hashInt k,YB k tk)).size,ι,!(t.put j).1.fits (insertAt es (t.put j).2 (hashInt k,YB k tk)).size)=_;unfold SetTable.orStandIn;rw[e,W_ Y];rfl
end
section
variable{prog:ψ}{w:ω}{A:Β}{E:aJ}{s:ο}
theorem add_int{S:ξ}{k:Int}{tk:Tok}{led:Bool}{ks:-Int}{Q:Bool->ο->Prop}(hS:eH s.heap S led ks)(hl:↑ks<60)
  (p:∀(b:Bool) h',Z3 S s.heap h'->eH h' S led (if k∈ks then ks else ks++[k])->Q b {s with heap:=h'}):ρ (ς prog w) A (setAddHashed S (.int k tk) (hashInt k)) Q E s:=by
 let⟨o,g,ep,t,D,v,C,T⟩:43:=hS;let V:g.size<scanBound:=by rw[T.num];unfold scanBound;symm
 let el:=T.elems (prog:=prog) (w:=w);show ρ _ _ (setAddHashedIn S (.int k tk) (hashInt k) (99999+1)) _ _ _;calc dV (YU D C T.fits ?_);dsimp only;rw[byScan_of (knd:=intKind prog w) rfl V el];calc dV ?_;calc dV (q07 ?_);refine dV (wpAny_setScan_of (knd:=intKind prog w) (k:=k) (q0E ..) D C T.fits el ?_)
 let F:∀e∈g.toList,(intKind prog w).is k e.2=μ (k=keyOf e):=λe r=>by
  let⟨k',jo,rfl⟩:2:=T.qY e r;exact KeyKind.is_eq_decide (q0E ..) k
 cases hr:g.toList.findIdx? (λe=>(intKind prog w).is k e.2) with
 |some j =>
  let⟨hj,G,_⟩:=List.findIdx?_eq_some_iff_getElem.mp hr;let H:g.toList[j]∈g.toList:=Yk hj;rw[F _ H] at G;let N:k∈ks:=T.keys.mem_iff.mp (by rw[Xq G];calc Bk.mpr ⟨_,H,rfl⟩);calc nF (nF ?_);let e:s={s with heap:=s.heap}:=by cases s;rfl
  exact p ι s.heap (Heap.SameBut.refl S s.heap) (by rw[W_ N];calc(zI4 o g ep t ⟨D,v,C,T⟩))
 |none =>
  let N:k∉ks:=λz=>by
   let⟨e,r,ek⟩:=Bk.mp (T.keys.mem_iff.mpr z);let:=List.findIdx?_eq_none_iff.mp hr e r;rw[F e r,<-ek,Bj rfl] at this;cases this
  let⟨j,nj,ej⟩:=T.lay k tk;rw[ej];rw[Vq N] at p;let⟨W,p2,X,Y,O,p6,p7⟩:06:=ua t T.lg j;let I:=HM T.up nj;let f:=ub g (t.put j).2 (hashInt k,YB k tk)
  let y:(insertAt g (t.put j).2 (hashInt k,YB k tk)).toList.Perm (g.toList++[(hashInt k,YB k tk)]):=by
   let:=SetTable.insertAt_perm g (t.put j).2 (hashInt k,YB k tk);rw[q0p] at this;exact this
  let lt:=T.lt;let HI:g.size<60:=by rw[T.num];exact hl
  generalize(t.put j).1=h at W p2 X Y O I ⊢;generalize insertAt g (t.put j).2 (hashInt k,YB k tk)=c at f y ⊢
  let i:∀e∈c.toList,∃k tk,e=(hashInt k,YB k tk):=λe r=>by
   rcases W9.mp (y.mem_iff.mp r) with q|q
   .exact T.qY e q
   .exact⟨k,tk,W7.mp q⟩
  let l:(c.toList.map keyOf).Perm (ks++[k]):=by
   calc(y.map keyOf).trans ?_;rw[Xj];exact List.Perm.append_right _ T.keys
  let u:(ks++[k]).Nodup:=XT.mpr ⟨T.lT,by simp,λa ha b V z=>N (by rw[<-W7.mp V,<-z];calc ha)⟩;let J:h.place.size=c.size:=by rw[X,T.hY,f]
  let fl:h.fill=g.size+1:=by unfold Zu;rw[W,X,T.hY];rfl
  calc dV (nF ?_);dsimp only;rw[O,T.oC,W_ rfl];calc dV ?_;rw[hashByValue_scannable 8 rfl];calc nF ?_;rw[W_ (show plainKind (YB k tk)=θ from rfl)];refine dV (q0q D C ?_ (by rw[f,YZ];symm))
  let B:(s.heap.update S (q02 c h)).get? S=ζ {o with data:=.set c (ep+1) h}:=by
   let:=XC (q02 c h) D (by rw[q3z c h C];rfl);rw[q3z c h C] at this;exact this
  by_cases tf:h.tooFull=θ
  .rw[W_ (by rw[tf];rfl)]
   let HJ:=by
    let:=Xq tf;symm
   let⟨m,H,hw,hsz⟩:∃m,Mk m/\sizeAbove (grown c.size)-1=m/\(g.size+1)*5<m*3:=by
    rw[f];rcases T.kh with e|e|e
    .let:g.size+1=5:=by symm
     rw[this];exact⟨31,.inr (.inl rfl),Aa,⋯⟩
    .let:g.size+1=19:=by symm
     rw[this];exact⟨127,.inr (.inr rfl),Ab,⋯⟩
    symm
   let⟨P,d,er,Z,r2,R,r4,r5,r6,U⟩:27:=HZ H h (c.map (·.1)) (grown c.size) hw (by rw[q0r,f];symm);rw[q0r] at R U;let n:=relayAll_perm h c (grown c.size)
   let e3:relayAll h c (grown c.size)=(d.filterMap (c[·]?),P,ι):=by
    let H_:(d.filterMap (c[·]?)).size=c.size:=by
     let:=z_   λx hx=>Xr.mp (U.mem_iff.mp hx);rw[this.1,<-Xa,U.length_eq,Ye]
    let ff:P.fits (d.filterMap (c[·]?)).size=θ:=by
     unfold q0J Zu;rw[H_,r2,R,Z,f];simp;symm
    unfold relayAll;rw[er];show(if(coversAll d c.size&&P.fits (d.filterMap (c[·]?)).size)=θ then _ else _)=_;rw[H7 U,ff];rfl
   rw[e3] at n ⊢;calc dV (nF ?_);generalize d.filterMap (c[·]?)=K at n ⊢;let L:K.size=c.size:=by rw[<-Xa,n.length_eq,Xa]
   refine dV (q0q B rfl ?_ (by rw[L,f,YZ];symm))
   let Ia:=by
    let:=XC (q02 K P) B (rfl);exact this
   calc nF (nF (p θ _ ((XE ..).trans (XE ..)) (zI4 _ _ _ _ ⟨Ia,v,rfl,r2,by rw[Z];calc H,by rw[R,L],?_,r6,by rw[r5,O];calc T.oC,by rw[r4,Y];calc T.ug,λe r=>i e (n.mem_iff.mp r),(n.map keyOf).trans l,u⟩)));unfold tooFull Zu;rw[r2,R,Z,f];simp;symm
  .let M:h.tooFull=ι:=by cases q:h.tooFull<;>simp_all
   rw[Vq (by rw[M];decide)];calc nF (nF (p θ _ (XE ..) (zI4 _ _ _ _ ⟨B,v,rfl,W,by rw[p2];calc T.kh,J,M,I,by rw[O];calc T.oC,by rw[Y];calc T.ug,i,l,u⟩)))
theorem Ib{ks}:∀{vs},ItemsAre (intKind prog w) ks vs->∀v∈vs,∃i t,v=.int i t:=by
 induction ks with
 |nil=>ext b h v a;cases h;cases a
 |cons k g c =>
  ext b h v a
  cases h with
  |cons d f =>
   rcases KN.mp a with rfl|a
   .let⟨t,e⟩:=q3a   (by first|exact d|rfl)
    exact(zI2 _ _ e)
   .calc c f v a
theorem Ic{ks a}{Q:Bool->ο->Prop}(f:IsTupleKey (intKind prog w) s.heap ks a)(h:∀b,Q b s):ρ (ς prog w) A (hashByValue 8 (.ref a)) Q E s:=by
 let g:=f.typeIs;let⟨o,j,n,k,_,l,m⟩:33:=f;calc dV (q0O g F.slot_tuple_hash.lookup (dV (ZD k l (dV ?_))));rw[<-Array.forIn_toList];refine q0F _ (λc _ e=>e=s/\∀v∈c,∃i t,v=YB i t) _ ?_ ?_ _ _ ⟨Y,Ib m⟩
 .ext v c r e ⟨rfl,d⟩
  let⟨i,t,rfl⟩:2:=d v Vr;exact nF ⟨Y,λu p=>d u (Bi _ p)⟩
 .ext ⟨q,x⟩ e ⟨rfl,_⟩
  cases q with
  |none=>exact nF (h _)
  |some b=>calc nF (h _)
theorem uh{h h' ks a}(x:IsTupleKey (intKind prog w) h ks a)(k:∀o,h.get? a=ζ o->h'.get? a=ζ o):IsTupleKey (intKind prog w) h' ks a:=by
 let⟨o,b,n,c,r⟩:31:=x;calc(zI3 o b n ⟨k o c,r⟩)
meta abbrev hT(prog:ψ)(w:ω)(ks:-Int):Int:=tupleKeyHash (intKind prog w) ks
theorem ui{h h' S a}(x:eY h S a)(k:∀o,h.get? S=ζ o->h'.get? S=ζ o):eY h' S a:=by
 let⟨o,b,c,t,d,r⟩:41:=x;calc(zI4 o b c t ⟨k o d,r⟩)
end
section
variable{prog:ψ}{w:ω}{A:Β}{R:Result->ο->Prop}{I S:Z}{fp wr:-Z}{G:Array GenState->Array GenState->Prop}{n:Nat}{P:Nat->ν->Prop}{St:Nat->ο->Prop}
theorem Ie(W:WalksS prog w A.in1 I fp wr G n P St)(out:S∉fp)(x:Nat->Z)(ks:Nat->-Int)(t:∀i v,P i v->v=.ref (x i))(c:∀i,i<n->x i∉S::wr)(u:A.in1.units<cLine)
  (f:∀i j,i<n->j<i->hT prog w (ks j)≠hT prog w (ks i)) (L:n<=30) :
  ∀a i s,i+a=n->St i s->(∀j,j<n->IsTupleKey (intKind prog w) s.heap (ks j) (x j))->eY s.heap S ((Xz i).map λj=>hT prog w (ks j)) →
   (∀s',Moved (S::wr) G s s'->eY s'.heap S ((Xz n).map λj=>hT prog w (ks j))->R (.ok (.ret .none)) s') →
   codeAny (ς prog w) A (.builtin "set.update.loop" ⟨[.ref S,.ref I],[]⟩) R s:=by
 let h:=λz=>out (W.sub _ z);let d:∀b,b∈wr->b∈S::wr:=λb k=>Bi _ k;ext a
 induction a with
 |zero =>
  ext i s N y K B l;obtain rfl:i=n:=by symm
  exact Yj ZE (dV (W.done s _ _ y λM r=>nF (l M (r.mono d) (ui B λo e=>r.heap S o h e))))
 |succ a O =>
  ext i s N y K B l;let g:i<n:=by symm
  calc Yj ZE (dV (W.item i s _ _ g y λv Q T C r=>?_));obtain rfl:=t i v T;let p:=λj m=>uh (K j m) λo e=>r.heap _ o (λz=>c j m (d _ z)) e;refine dV (Xy (Xy (dV (wpAny_pyHash_tuple u (p i g) (HH   rfl (ui B λo e=>r.heap S o h e) (λz=>?_) (by rw[kF,Ye];symm) (λX q=>Ic (p i g) q) λY D E=>?_)))))
  .let⟨j,m,e⟩:=Bk.mp z
   exact f i j g (Xr.mp m) e
  .let U:∀b,b∈fp->b≠S:=λb k z=>out (by rw[<-z];calc k)
   refine nF ⟨Yy q1D _,O (i+1) _ ⋯ (W.frame _ Q _ _ C (q0G _ _) λb k o e=>by rw[D.2 b (U b k)];calc e) (λj m=>uh (p j m) λo e=>?_) (by rw[q0d,Xj];calc E) λV H J=>?_⟩
   .rw[D.2 _ (λz=>c j m (by rw[z];calc Vr))];exact e
   .refine l V (Moved.trans W.gtrans ((r.mono d).then_heap (q0G _ _) λb o k e=>?_) H) J
    rw[D.2 b (λz=>k (by rw[z];calc Vr))];calc e
end
theorem uj{h h' S led ks}(x:eH h S led ks)(k:∀o,h.get? S=ζ o->h'.get? S=ζ o):eH h' S led ks:=by
 let⟨o,a,b,t,c,r⟩:41:=x;calc(zI4 o a b t ⟨k o c,r⟩)
meta def once(ks:-Int)(n:Int):-Int:=if n∈ks then ks else ks++[n]
meta def gr(ns:-Int):Nat->-Int
 |0=>[]
 |i+1=>once (gr ns i) (ns.getD i 0)
theorem uk ns:∀i,↑(gr ns i)<=i
 |0=>vr _
 |i+1=>by
  let:=uk ns i;show↑(once (gr ns i) (ns.getD i 0))<=i+1;unfold once;split
  .omega
  .rw[KG,XG];symm
theorem um ns x:∀i,i<=ns.length->(x∈gr ns i↔x∈ns.take i)
 |0,_=>by simp[gr]
 |i+1,h=>by
  let b:=um ns x i ⋯;let d:i<ns.length:=by symm
  let e:ns.getD i 0=ns[i]:=by rw[o8,mf d];rfl
  show x∈once (gr ns i) (ns.getD i 0)↔_;rw[q3b,mf d,e];unfold once;let a:=um ns ns[i] i ⋯
  by_cases c:ns[i]∈gr ns i
  .rw[W_ c,b]
   constructor
   .ext q;exact Xv _ q
   .ext q
    rcases W9.mp q with q|q
    .exact q
    .let:=by simpa using q
     rw[this];exact a.mp c
  .rw[Vq c,W9,b,W9]
   simp
section
variable{prog:ψ}{w:ω}{A:Β}{R:Result->ο->Prop}{I S:Z}{fp wr:-Z}{G:Array GenState->Array GenState->Prop}{n:Nat}{P:Nat->ν->Prop}{St:Nat->ο->Prop}
theorem Ig(W:WalksS prog w A.in1 I fp wr G n P St)(out:S∉fp){led:Bool} ns (f:∀i v,P i v->∃t,v=.int (ns.getD i 0) t) (B:n<=40) :
  ∀a i s,i+a=n->St i s->eH s.heap S led (gr ns i)->(∀s',Moved (S::wr) G s s'->eH s'.heap S led (gr ns n)->R (.ok (.ret .none)) s') →
   codeAny (ς prog w) A (.builtin "set.update.loop" ⟨[.ref S,.ref I],[]⟩) R s:=by
 let c:=λz=>out (W.sub _ z);let d:∀b,b∈wr->b∈S::wr:=λb g=>Bi _ g;ext a
 induction a with
 |zero =>
  ext i s D k l h;obtain rfl:i=n:=by symm
  exact Yj ZE (dV (W.done s _ _ k λC j=>nF (h C (j.mono d) (uj l λo e=>j.heap S o c e))))
 |succ a E =>
  ext i s D k l h;let m:i<n:=by symm
  calc Yj ZE (dV (W.item i s _ _ m k λv H J p j=>?_));let⟨t,rfl⟩:=f i v J;calc dV (Xy (Xy (dV ((intKind prog w).pyHash  (q0E _ _ _ _) ?_))));let x:=uk ns i;calc add_int  (uj l λo e=>j.heap S o c e) ⋯ λb M y q=>?_;let K:∀b,b∈fp->b≠S:=λb g z=>out (by rw[<-z];calc g);calc nF ⟨Yy q1D _,E (i+1) _ ⋯ (W.frame _ H _ _ p (q0G _ _) λb g o e=>by rw[y.2 b (K b g)];calc e) q λL r u=>h L (Moved.trans W.gtrans ((j.mono d).then_heap (q0G _ _) λb o g e=>?_) r) u⟩;rw[y.2 b (λz=>g (by rw[z];calc Vr))];calc e
end
meta abbrev cA(led:Bool):Γ:={cls:=.type "set",dict:=none,data:=.set #[] 0 (.fresh 0 0 led)}
theorem Ih{h S led}(e:h.get? S=ζ (cA led)):eY h S [] :=
 (zI4 _ #[] 0 _ ⟨e,⟨Y,Y,Y⟩,Y,Y,.inl Y,Y,Y,by cases led<;>decide,λ_ h=>nomatch h⟩)
section
variable{prog:ψ}{w:ω}{A:Β}{E:aJ}{s:ο}
set_option maxHeartbeats 3200000 in
theorem Ii {l:Z} {items:Array ν} {Q:aJ} (ad:Nat->Z) (ks:Nat->-Int) (hh:A.handled=η) (room:A.units+8<cLine) (oD:s.heap.IsList l items) (uo:∀(i:Nat)(v:ν),items[i]?=ζ v->v=.ref (ad i))
  (tk:∀i,i<items.size->IsTupleKey (intKind prog w) s.heap (ks i) (ad i)) (unlike:∀i j,i<items.size->j<i->hT prog w (ks j)≠hT prog w (ks i)) (h_:items.size<=30)
  (fin:∀(h':Α)(tk:Nat),eY h' ⇑s ((Xz items.size).map λj=>hT prog w (ks j))->(∀b o,b<⇑s->s.heap.get? b=ζ o->h'.get? b=ζ o)->Q (.ref ⇑s) {s with heap:=h',toks:=tk}) :
  ρ (ς prog w) A (call (.type "set") [.ref l]) Q E s:=by
 let⟨c,tl,uq⟩:=Yp.mro;let m1:=Yp.made;let m2:=Yp.sub;let m3:=Yp.notType;let m4:=Yp.canCreate;let m5:=q3B (.ref l);calc q0h (q0P ?_);show ρ _ _ (callAny (.type "set") _) _ _ _;calc nF ⟨q0i _ (by decide +kernel),Yj q3c ?_⟩;rw[q2W (q2b "set" [.ref l] []) Y]
 repeat(any_goals (first|assumption|wp_step))
 refine ZM (code_set_new_1 (.ref l) (E:=E) (Q₁:=λr s1=>∃led:Bool,r=.ref ⇑s/\s1={s with heap:=s.heap.push (cA led)}) λled=>⟨led,Y,Y⟩) λr s1 hr=>?_
 cases r with
 |error e=>exact hr
 |ok fl =>
  cases fl with
  |ret obj =>
   let⟨led,rfl,rfl⟩:=hr;let gS:(s.heap.push (cA led)).get? ⇑s=ζ (cA led):=Vs _ Y;let tS:q4H {s with heap:=s.heap.push (cA led)} (.ref ⇑s) "set" := ⟨_,gS,Y⟩;let m6:=Yp.init.lookup;let m7:=Yp.init.bind (.ref ⇑s)
   repeat(any_goals (first|assumption|wp_step))
   refine ZM (ZY (R:=wants (λr s2=>r=.none/\∃h' tk,s2={s with heap:=h',toks:=tk}/\eY h' ⇑s ((Xz items.size).map λj=>hT prog w (ks j)) ∧
     ∀b o,b<⇑s->s.heap.get? b=ζ o->h'.get? b=ζ o) E) Yp.init.plain q3C (q3D tS ?_)) λr2 s2 jq=>?_
   .let⟨ol,gl,cl,nl,dl⟩:=oD
    let⟨c0,d0,Ij,ur⟩:=ol;simp only at cl dl;subst cl;subst dl;let uu:(s.heap.push (cA led)).get? l=ζ {cls:=.type "list",dict:=d0,data:=.seq items nl,slots:=ur}:=mi _ gl;let x1:=q4g;let x2:=q2j;let x3:(Zb "list" == Zb "dict")=ι:=by decide
    let jr:(s.heap.push (cA led)).IsList l items:=⟨_,uu,Y,nl,Y⟩;let ll:l<⇑s:=Vo gl;unfold Builtin.«set.__init__» noKeywords q0Q;generalize uv:pyIter=PI
    wp_walk
    subst uv;calc YW jr (dV (q2k ?_));let h3:A.in1.in1.in1.handled=η:=by simp[hh]
    let ez:(s.heap.push (cA led)).objs.size=⇑s+1:=Y5 ..;let nI:l≠(s.heap.push (cA led)).objs.size:=by rw[ez];exact W8 (X8 ll)
    let lt:∀i,i<items.size->ad i<⇑s:=λi hi=>by
     let⟨o,_,_,e,_⟩:=tk i hi;exact Vo e
    refine Ie ((ZZ h3 _ l nI items).toS) (S:=s.heap.objs.size) ?out ad ks (λi v hv=>uo i v hv) ?apart ?room unlike h_ items.size 0 _ (Yd _)
     ⟨⟨_,Vs _ Y,Y,Y⟩,jr.push _⟩ ?tk ?fresh ?fin
    case out =>
     erw[KN,XJ,ZR,q3E,ez];exact⟨W8 (Y2 _),Zd ll⟩
    case apart =>
     ext i hi;let:=lt i hi;erw[KN,XJ,ZR,q3E,ez];exact⟨W8 this,W8 (X8 this)⟩
    case room =>
     show A.units+1+1+1<cLine;exact q03 (Nat.add_le_add_left (by decide:3<=8) _) room
    case tk =>
     ext j hj;exact uh (tk j hj) λo e=>mi _ (mi _ e)
    case fresh =>
     exact Ih (led:=led) (mi _ gS)
    case fin =>
     ext s' mv se;let⟨h',g',d',jo,uw⟩:=s';obtain rfl:g'=s.gens:=mv.gens;obtain rfl:d'=s.drawn:=mv.drawn;obtain rfl:uw=s.os:=mv.os;show ρ _ _ _ _ _ _;calc nF ?_;show ρ _ _ (ret XY) _ _ _;calc nF ⟨Y,h',jo,Y,se,λb o hb e=>?_⟩;calc mv.heap b o ?_ (mi _ (mi _ e));erw[KN,XJ,ZR,q3E,ez];exact⟨W8 hb,W8 (X8 hb)⟩
   .cases r2 with
    |error e=>exact jq
    |ok ux =>
     cases ux with
     |ret r =>
      let⟨rfl,h',jo,rfl,se,kp⟩:=jq
      repeat(any_goals (first|assumption|wp_step))
      exact fin _ _ se kp
     |next=>exact jq
     |brk=>exact jq
     |cont=>exact jq
  |next=>exact hr
  |brk=>exact hr
  |cont=>calc hr
end
meta abbrev gs(w:ω):Bool := !w.params.followText "set-order"
theorem Ik{h S led}(e:h.get? S=ζ (cA led)):eH h S led [] :=
 (zI4 _ #[] 0 _ ⟨e,⟨Y,Y,Y⟩,Y,Y,.inl Y,Y,by cases led<;>decide,q3d,Y,Y,(λ_ h=>nomatch h),q05 _,Zj⟩)
section
variable{prog:ψ}{w:ω}{A:Β}{E:aJ}{s:ο}
theorem Il(a:ν){Q₁:aJ}(h:Q₁ (.ref ⇑s) {s with heap:=s.heap.push (cA (gs w))}):
  codeAny (ς prog w) A (.call (.builtin "set.__new__") ⟨[.type "set",a],[]⟩) (wants Q₁ E) s:=by
 calc q0P ?_;show ρ _ A.in1 (checkBuiltinCall "set.__new__" ⟨[.type "set",a],[]⟩ >>= λ_=>again (.builtin "set.__new__" ⟨[.type "set",a],[]⟩)) _ _ s;calc dV (q1n (F.newCall_set_1 a) (nF ⟨Yy q3W _,?_⟩));calc Yj F.entry_set_new ?_;rw[Zt q3W _];let b:=sub_set_self;unfold Builtin.«set.__new__» Builtin.Frozenset.newClass newSet setsByText;let⟨c,g,d,e,f⟩:=s;dsimp only
 wp_walk
 calc Z4 (nF ?_);dsimp only;erw[newObj];exact dV (wpAny_alloc (nF (nF h)))
set_option maxHeartbeats 3200000 in
theorem Im {l:Z} {items:Array ν} {Q:aJ} (ns:-Int) (hh:A.handled=η) (oD:s.heap.IsList l items) (isInt:∀(i:Nat)(v:ν),items[i]?=ζ v->∃t,v=.int (ns.getD i 0) t) (Io:items.size<=40)
  (fin:∀(h':Α)(tk:Nat),eH h' ⇑s (gs w) (gr ns items.size)->(∀b o,b<⇑s->s.heap.get? b=ζ o->h'.get? b=ζ o)->Q (.ref ⇑s) {s with heap:=h',toks:=tk}) :
  ρ (ς prog w) A (call (.type "set") [.ref l]) Q E s:=by
 let⟨c,tl,uq⟩:=Yp.mro;let m1:=Yp.made;let m2:=Yp.sub;let m3:=Yp.notType;let m4:=Yp.canCreate;let m5:=q3B (.ref l);calc q0h (q0P ?_);show ρ _ _ (callAny (.type "set") _) _ _ _;calc nF ⟨q0i _ (by decide +kernel),Yj q3c ?_⟩;rw[q2W (q2b "set" [.ref l] []) Y]
 repeat(any_goals (first|assumption|wp_step))
 refine ZM (Il (.ref l) (E:=E) (Q₁:=λr s1=>r=.ref ⇑s/\s1={s with heap:=s.heap.push (cA (gs w))}) ⟨Y,Y⟩) λr s1 hr=>?_
 cases r with
 |error e=>exact hr
 |ok fl =>
  cases fl with
  |ret obj =>
   let⟨rfl,rfl⟩:=hr;generalize Ip:gs w=led at fin ⊢;let gS:(s.heap.push (cA led)).get? ⇑s=ζ (cA led):=Vs _ Y;let tS:q4H {s with heap:=s.heap.push (cA led)} (.ref ⇑s) "set" := ⟨_,gS,Y⟩;let m6:=Yp.init.lookup;let m7:=Yp.init.bind (.ref ⇑s)
   repeat(any_goals (first|assumption|wp_step))
   refine ZM (ZY (R:=wants (λr s2=>r=.none/\∃h' tk,s2={s with heap:=h',toks:=tk}/\eH h' ⇑s led (gr ns items.size) ∧
     ∀b o,b<⇑s->s.heap.get? b=ζ o->h'.get? b=ζ o) E) Yp.init.plain q3C (q3D tS ?_)) λr2 s2 jq=>?_
   .let⟨ol,gl,cl,nl,dl⟩:=oD
    let⟨c0,d0,Ij,ur⟩:=ol;simp only at cl dl;subst cl;subst dl;let uu:(s.heap.push (cA led)).get? l=ζ {cls:=.type "list",dict:=d0,data:=.seq items nl,slots:=ur}:=mi _ gl;let x1:=q4g;let x2:=q2j;let x3:(Zb "list" == Zb "dict")=ι:=by decide
    let jr:(s.heap.push (cA led)).IsList l items:=⟨_,uu,Y,nl,Y⟩;let ll:l<⇑s:=Vo gl;unfold Builtin.«set.__init__» noKeywords q0Q;generalize uv:pyIter=PI
    wp_walk
    subst uv;calc YW jr (dV (q2k ?_));let h3:A.in1.in1.in1.handled=η:=by simp[hh]
    let ez:(s.heap.push (cA led)).objs.size=⇑s+1:=Y5 ..;let nI:l≠(s.heap.push (cA led)).objs.size:=by rw[ez];exact W8 (X8 ll)
    refine Ig ((ZZ h3 _ l nI items).toS) (S:=s.heap.objs.size) ?out (led:=led) ns (λi v hv=>isInt i v hv) Io items.size 0 _ (Yd _)
     ⟨⟨_,Vs _ Y,Y,Y⟩,jr.push _⟩ ?fresh ?fin
    case out =>
     erw[KN,XJ,ZR,q3E,ez];exact⟨W8 (Y2 _),Zd ll⟩
    case fresh =>
     exact Ik (led:=led) (mi _ gS)
    case fin =>
     ext s' mv se;let⟨h',g',d',jo,uw⟩:=s';obtain rfl:g'=s.gens:=mv.gens;obtain rfl:d'=s.drawn:=mv.drawn;obtain rfl:uw=s.os:=mv.os;show ρ _ _ _ _ _ _;calc nF ?_;show ρ _ _ (ret XY) _ _ _;calc nF ⟨Y,h',jo,Y,se,λb o hb e=>?_⟩;calc mv.heap b o ?_ (mi _ (mi _ e));erw[KN,XJ,ZR,q3E,ez];exact⟨W8 hb,W8 (X8 hb)⟩
   .cases r2 with
    |error e=>exact jq
    |ok ux =>
     cases ux with
     |ret r =>
      let⟨rfl,h',jo,rfl,se,kp⟩:=jq
      repeat(any_goals (first|assumption|wp_step))
      exact fin _ _ se kp
     |next=>exact jq
     |brk=>exact jq
     |cont=>exact jq
  |next=>exact hr
  |brk=>exact hr
  |cont=>calc hr
end
theorem aQ:Slot "set_iterator" "__next__" "set_iterator.__next__" :=
 .of (owner:="set_iterator") (n:="__next__") (by kernel_rfl) (by decide +kernel) (by decide +kernel) (by decide +kernel)
  (by first|exact .inl (by decide +kernel)|calc .inr (by decide +kernel)) (by kernel_rfl)
theorem Ae:Slot "set_iterator" "__iter__" "set_iterator.__iter__" :=
 .of (owner:="set_iterator") (n:="__iter__") (by kernel_rfl) (by decide +kernel) (by decide +kernel) (by decide +kernel)
  (by first|exact .inl (by decide +kernel)|calc .inr (by decide +kernel)) (by kernel_rfl)
theorem Af:entryFor table "set_iterator.__next__" = ζ Builtin.«set_iterator.__next__» := entryFor_of_fast (by kernel_rfl)
theorem Iq:entryFor table "set_iterator.__iter__" = ζ Builtin.«dict_keyiterator.__iter__» :=
 q4i (id':="dict_keyiterator.__iter__") (by kernel_rfl) Y (by decide +kernel) (by kernel_rfl)
theorem Ir:entryFor table "set.__iter__" = ζ Builtin.«frozenset.__iter__» :=
 q4i (id':="frozenset.__iter__") (by kernel_rfl) Y (by decide +kernel) (by kernel_rfl)
theorem Ag a:argsOk "set_iterator.__next__" ⟨[a],[]⟩:=by kernel_rfl
theorem Iu a:argsOk "set_iterator.__iter__" ⟨[a],[]⟩:=by kernel_rfl
def bS(h:Α)(I S:Z)(a:ν)(i n b:Nat):Prop:=∃o,h.get? I=ζ o/\o.cls=.type "set_iterator" /\ o.data=.fields #[a,.int i 0,.ref S,.int n 0,.int b 0]
theorem bS.typeIs{s:ο}{I S:Z}{f:ν}{i n a:Nat}(x:bS s.heap I S f i n a):s.TypeIs (.ref I) "set_iterator" := let⟨o,b,c,_⟩:=x;⟨o,b,c⟩
theorem bS.at{h h':Α}{I S:Z}{f:ν}{i n a:Nat}(x:bS h I S f i n a)(e:∀o,h.get? I=ζ o->h'.get? I=ζ o):bS h' I S f i n a:=let⟨o,b,r⟩:=x;⟨o,e _ b,r⟩
meta def gu(w:ω)(S:Z)(a:Nat)(es:Array (Int×ν)):Array (Int×ν):=if w.params.followText "set-order" = θ then pickOrder (w.params.setOrder S a) es else es
theorem uy(w:ω)(S:Z)(a:Nat)(es:Array (Int×ν)):(gu w S a es).toList.Perm es.toList:=by
 unfold gu;split
 .exact HQ _ _
 .rfl
theorem qZ(w:ω)(S:Z)(a:Nat)(es:Array (Int×ν)):(gu w S a es).size=es.size:=by
 let:=(uy w S a es).length_eq;simpa using this
meta def slotAt(t:SetTable)(i:Nat):Nat:=if i=0 then 0 else t.place.getD (i-1) 0+1
structure uz(w:ω)(I S:Z)(o:Γ)(es:Array (Int×ν))(ep:Nat)(t:SetTable)(i:Nat)(h:Α):Prop where
 set:h.get? S=ζ o
 it:∃slot:Nat,bS h I S (.int slot 0) i es.size ep/\(w.params.followText "set-order" = ι->slot=slotAt t i)
section
variable{prog:ψ}{w:ω}{A:Β}{I S:Z}{o:Γ}{es:Array (Int×ν)}{ep:Nat}{t:SetTable}{ks:-Int}
theorem Iv(T:cz t es (gs w) ks){i:Nat}(b:i<=es.size):below t.place (slotAt t i)=i:=by
 unfold slotAt;split
 .rename_i h;subst h;exact HL T.up
 .let a:i-1<t.place.size:=by rw[T.hY];symm
  let e:t.place.getD (i-1) 0=t.place[i-1]:=by simp[q2X,a]
  rw[e,HK T.up a];symm
theorem Ah{E:aJ}{s:ο}{Q:Option (ν×Nat)->ο->Prop}(j:s.heap.get? S=ζ o)(hd:o.data=.set es ep t)(T:cz t es (gs w) ks){a i:Nat}(m:i<=es.size)(n:w.params.followText "set-order" = ι->a=slotAt t i)
  (k:∀c:Nat,(w.params.followText "set-order" = ι->i<es.size->c=slotAt t (i+1))->Q (((gu w S ep es)[i]?).map λe=>(e.2,c)) s):ρ (ς prog w) A (setNext S a i ep) Q E s:=by
 calc dV (YU j hd T.fits (dV (dV (Z4 (nF ?_)))));let d:(ς prog w).w=w:=Y
 cases q:w.params.followText "set-order" with
 |true =>
  rw[d,q];erw[bne_self_eq_false,Zk,Z8,q0c];calc dV (dV (YU j hd T.fits (dV (dV (Z4 (nF ?_))))));rw[d,q,W_ Y];calc dV (Z4 (nF (nF ?_)));let:=k a λz=>by rw[q] at z;cases z
  unfold gu at this;rw[W_ q] at this;exact this
 |false =>
  rw[d,q,Vq (by decide)];let f:=n q;subst f;rw[(Iv T m)];calc q14 (λh=>absurd (show(!t.plain&&μ (es.size>1))=θ from h) (by rw[T.oC];simp)) (λ_=>dV (q14  (λh=>absurd h (by rw[T.ug];unfold gs;rw[q];simp)) (λ_=>nF (nF ?_))));let b:=k (slotAt t (i+1)) λ_ _=>Y;unfold gu at b;rw[Vq (by rw[q];decide)] at b
  by_cases g:i<es.size
  .let l:i<t.place.size:=by rw[T.hY];exact g
   rw[Xp g] at b;rw[Xp g,Xp l]
   let e:slotAt t (i+1)=t.place[i]+1:=by
    unfold slotAt;simp[q2X,l]
   rw[e] at b;exact b
  .rw[YA ⋯] at b
   rw[YA ⋯];calc b
theorem Ai{E:aJ}{s:ο}{a:Z}{b:Γ}{vs:Array ν}{Q:Array ν->ο->Prop}(c:s.heap.get? a=ζ b)(hd:b.data=.fields vs)(h:Q vs s):ρ (ς prog w) A (fieldsOf (.ref a)) Q E s:=by
 calc dV (q4j c ?_);rw[hd];calc nF h
theorem Iw(J:A.handled=η)(n:S≠I)(K:o.ExactSet)(hd:o.data=.set es ep t)(T:cz t es (gs w) ks):
  Walks prog w A I [I,S] [I] es.size (λi v=>∃e,(gu w S ep es)[i]?=ζ e/\v=e.2) (uz w I S o es ep t) where
 sub:=λb l=>by simp at l;simp[l]
 frame:=λi h M f B=>⟨B S (by simp) _ f.set,let⟨d,x,y⟩:=f.it;⟨d,x.at λo e=>B I (by simp) o e,y⟩⟩
 item:=λi s Q E C f p=>by
  let⟨d,a,u⟩:=f.it;let⟨L,g,D,c⟩:12:=id a
  refine dV (q1v (YN  a.typeIs aQ
   (YC aQ a.typeIs Af ?_ (Ag _))))
  calc dV  (nF (dV (Ai g c (dV (q0V f.set hd T.fits ?_)))));rw[Vq (by simp)];calc dV (Ah f.set hd T  (i:=i) ⋯ u λj F=>?_);let G:(gu w S ep es)[i]?=ζ ((gu w S ep es)[i]'(by rw[qZ];calc C)):=Xp _;rw[G];calc dV (ZF g c (by simp) ?_);let q:=XC (q1w (·.setIfInBounds 0 (rawInt j))) g (Zm (Yw c _));let k:=Yw c (·.setIfInBounds 0 (rawInt j));refine dV (ZF q k (by simp) (nF ⟨_,Y,nF (p _ _ s.toks ⟨_,G,Y⟩ ⟨?_,j,⟨_,(XC (q1w (·.setIfInBounds 1 (rawInt (i+1)))) q (Zm (Yw k _))),?_,?_⟩,λz=>F z C⟩ λb H l e=>?_)⟩))
  .rw[XI _ _ (YD n),XI _ _ (YD n)];exact f.set
  .exact (q1o ..).trans ((q1o ..).trans D)
  .rw[(Yw k (·.setIfInBounds 1 (rawInt (i+1))))];simp[rawInt]
  .let r:I≠b:=λz=>l (by simp[z])
   rw[XI _ _ r,XI _ _ r];exact e
 done:=λs Q E f p=>by
  let⟨d,a,u⟩:=f.it;let⟨L,g,D,c⟩:=id a
  refine dV (q1v (YN  a.typeIs aQ
   (YC aQ a.typeIs Af ?_ (Ag _))))
  calc dV  (nF (dV (Ai g c (dV (q0V f.set hd T.fits ?_)))));rw[Vq (by simp)];calc dV (Ah f.set hd T   (vr _) u λj F=>?_);rw[YA (by rw[qZ];calc vr _)];calc dV (ZF g c (by simp) (dV (dV (m:=firstArgMember _ _) (q1n  (by first|rfl|(erw[firstArgMember])) (Y7 (dV (q4I ?_)) (by size_fits))))));rw[J];calc dV (nF (wpAny_throw ?_));calc dV (q3F   ⟨_,Vs _ Y,Y⟩ isSubtype_stop ?_);exact nF (p _ s.toks λb H l e=>(((XE ..).extBut.push _).push _) b H (λz=>l (by simp[z])) e)
 self:=λi s Q E f p=>by
  let⟨d,a,_⟩:=f.it;calc q3f a.typeIs Ae (YC Ae a.typeIs Iq (nF ⟨_,Y, "set_iterator",_,a.typeIs,aQ.lookup,p⟩) (Iu _))
theorem Iy{E:aJ}{s:ο}{Q:Bool->ο->Prop}(a:s.heap.get? S=ζ o)(hd:o.data=.set es ep t)(T:cz t es (gs w) ks)(k:Q ι s):ρ (ς prog w) A (setDrawn S) Q E s:=by
 calc dV (YU a hd T.fits (dV (dV (Z4 (nF (nF ?_))))));let e:(!(ς prog w).w.params.followText "set-order" && (!t.plain&&μ (es.size>1)))=ι:=by rw[T.oC];simp
 calc e▸k
theorem Iz{E:aJ}{s:ο}{Q:aJ}(a:s.heap.get? S=ζ o)(c:o.ExactSet)(hd:o.data=.set es ep t)(T:cz t es (gs w) ks)
  (k:∀h',(∀b d,s.heap.get? b=ζ d->h'.get? b=ζ d)->uz w ⇑s S o es ep t 0 h'->Q (.ref ⇑s) {s with heap:=h'}):ρ (ς prog w) A (pyIter (.ref S)) Q E s:=by
 let f:s.TypeIs (.ref S) "set" := ⟨o,a,c.1⟩;calc q3f f q3X (YC q3X f Ir (dV (m:=Builtin.Frozenset.sizeOf _) (dV (q0V a hd T.fits (nF (dV (Iy a hd T (dV (nF (dV (wpAny_setEpoch_of a hd T.fits (dV  (Y7 (nF ⟨_,Y, "set_iterator",_,⟨_,Vs _ Y,Y⟩,aQ.lookup,?_⟩))))))))))))) (F.args_set_iter_1 _));calc k _ (λb d e=>mi _ e) ⟨mi _ a,0,⟨_,Vs _ Y,Y,Y⟩,λ_=>Y⟩
end
section
variable{prog:ψ}{w:ω}{A:Β}{S:Z}{o:Γ}{es:Array (Int×ν)}{ep:Nat}{t:SetTable}{ks:-Int}
theorem IA{E:aJ}{s:ο}{Q:Bool->ο->Prop}(a:s.TypeIs (.ref S) "set")(k:Q ι s):ρ (ς prog w) A (Builtin.List.listLengthHint (.ref S)) Q E s:=by
 calc dV (q0O a F.slot_set_len.lookup ?_);generalize c:("set.__len__" : String)=e
 wp_delta
 subst c;calc dV (q3F (T:="set") (b:=true) a (by rw[isSubtype_type];kernel_rfl) ?_);calc q14 (λd=>absurd d (by decide)) (λ_=>?_);calc dV (q0s a ?_);calc nF k
theorem IB{E:aJ}{s:ο}{Q:-ν->ο->Prop}(R:A.handled=η)(O:s.heap.get? S=ζ o)(l:o.ExactSet)(hd:o.data=.set es ep t)(T:cz t es (gs w) ks)(hn:es.size<=1000)
  (h:∀(h':Α)(tk:Nat),(∀b d,s.heap.get? b=ζ d->h'.get? b=ζ d)->⇑s<=h'.objs.size->Q ((gu w S ep es).toList.map (·.2)) {s with heap:=h',toks:=tk}):ρ (ς prog w) A (collect (.ref S)) Q E s:=by
 let H:S<⇑s:=Vo O;calc dV (q2k (Yj F.entry_proto_collect (dV (Y7 (nF ⟨Yy F.plain_list_iadd _,Yj F.entry_list_iadd ?_⟩)))));generalize m:({s with heap:=s.heap.push {cls:=.type "list",data:=.seq [].toArray}})=f;let p:f.heap.get? S=ζ o:=by rw[<-m];exact mi _ O
 let U:f.heap.get? ⇑s=ζ {cls:=.type "list",data:=.seq [].toArray}:=by rw[<-m];exact Vs _ rfl
 let P:⇑f=⇑s+1:=by rw[<-m];exact Y5 ..
 show ρ _ A.in1 (Builtin.List.listExtendWith (.ref ⇑s) (.ref S) (.ref ⇑s)) _ _ _;calc dV (q0s  ⟨o,p,l.1⟩ ?_);let V:q1x (.ref ⇑s) (.ref S)=ι:=by simp[q1x];exact Zd H
 let X:(Zb "set" == Zb "list")=ι:=by decide
 let Y:(Zb "set" == Zb "tuple")=ι:=by decide
 erw[V,X,Y,q1y,Zk,Z8];calc dV (Iz p l hd T λq u z=>dV (Xy (IA ⟨o,u _ _ p,l.1⟩ ?_)));let K:S≠⇑f:=by rw[P];exact W8 (X8 H)
 let W:=(Iw (prog:=prog) (A:=A.in1)  (by simp[R]) K l hd T).toS
 let L:⇑s∉[⇑f,S]:=by
  erw[KN,XJ,ZR,q3E,P];exact⟨W8 ⋯,Zd H⟩
 let M:∀g c,uz w ⇑f S o es ep t 0 g->g.get? ⇑s=ζ {cls:=.type "list",data:=.seq #[] c}->(∀b d,b≠⇑s->q.get? b=ζ d->g.get? b=ζ d) →
   codeAny (ς prog w) A (.builtin "list.extend.loop" ⟨[.ref ⇑s,.ref ⇑f,.ref ⇑s],[]⟩) (λr I=>match r with
    |.ok (.ret v)=>ρ (ς prog w) A (match v with
     |.ref a=>do match(<- load a).data with
      |.seq Z _=>pure Z.toList
      |_=>unsupported "internal:collect"
     |_=>unsupported "internal:collect") Q E I
    |.ok _=>False
    |.error e=>E e I) {f with heap:=g}:=by
  refineλg c st hL kp=>codeAny_extend_loopS W (by rw[YZ];symm) _ L _ es.size 0 _ #[] c rfl (XZ _) st hL (ItemsOf.nil _) λI n c' J B j=>dV (q4j B (nF ?_))
  let ea:n.toList=(gu w S ep es).toList.map (·.2):=by
   calc Zr λi=>?_;rw[KI]
   by_cases hi:i<es.size
   .let C:i<n.size:=by rw[j.1];exact hi
    let⟨e,he,hv⟩:11:=j.2 i _ (Xp C);rw[XB,Xp C,XB,he,hv];rfl
   .rw[XB,YA (by rw[j.1];symm),XB,YA (by rw[qZ];symm)];rfl
  rw[ea];let⟨Vj,g3,d3,Vk,N⟩:=I;obtain rfl:g3=f.gens:=J.gens;obtain rfl:d3=f.drawn:=J.drawn;obtain rfl:N=f.os:=J.os;subst m;calc h _ _ (λb d e=>?_) (YJ (Vo B));let y:=Vo e;calc J.heap b d ?_ (kp b d (W8 y) (u b d (mi _ e)));erw[KN,XJ,ZR,q3E];exact⟨W8 y,by rw[Y5];calc W8 (X8 y)⟩
 let D:=u _ _ U;calc dV (q07 (dV (dV (Zc D rfl ?_))));let k:=XC (X7 (·.push XY)) D rfl;refine Zc  k rfl ?_
 let x:∀b d,b≠⇑s->q.get? b=ζ d->((q.update ⇑s (X7 (·.push XY))).update ⇑s (X7 (·.pop))).get? b=ζ d :=
  λb d y e=>(XI _ _ (YD y)).trans ((XI _ _ (YD y)).trans e)
 calc nF ⟨Yy F.plain_extend_loop _,M _ _ ?_ (XC (X7 (·.pop)) k rfl) x⟩;let⟨G,it,sl⟩:11:=z.it;calc⟨x _ _ (W8 H) z.set,G,it.at λd e=>x _ _ ⋯ e,sl⟩
end
end LJS
namespace L2
open PySem PySem.Spec PyProof.Rows
abbrev Key:=Sum Int π
meta def ny:Key->ν->Bool
 |.inl k,v=>Value.isInt k v
 |.inr x,v=>q4K x v
meta def uA(w:ω):Key->Int
 |.inl k=>hashInt k
 |.inr x=>hashStr w x
theorem ki:∀{k v},ny k v=θ->(∃i t,k=q1p i/\v=YB i t)\/(∃x t,k=q4c x/\v=Value.str x t)
 |.inl i,v,h=>by
  let⟨t,e⟩:=q3a   h;exact .inl ⟨i,t,Y,e⟩
 |.inr x,v,h=>by
  let⟨t,e⟩:=Value.isStrOf_shape   h;calc .inr ⟨x,t,Y,e⟩
theorem IC i t:ny (.inl i) (.int i t)=θ:=by simp[ny,Value.isInt]
theorem ID x t:ny (.inr x) (.str x t)=θ:=by simp[ny,q4K]
theorem IE a b:μ ((q1p a:Key)=q1p b)=(a==b):=by
 by_cases e:a=b
 .subst e;simp
 .rw[Bh (λq=>e (Sum.inl.inj q))]
  calc(beq_eq_false_iff_ne.mpr e).symm
theorem IF a b:μ ((q4c a:Key)=q4c b)=μ (a=b):=by
 by_cases e:a=b
 .simp
 .rw[Bh (λq=>e (Sum.inr.inj q)),Bh e]
theorem IG a b:μ ((q1p a:Key)=q4c b)=ι:=Bh (λq=>nomatch q)
theorem IH a b:μ ((q4c a:Key)=q1p b)=ι:=Bh (λq=>nomatch q)
meta def gw(prog:ψ)(w:ω):PySem.KeyKind prog w Key where
 is:=ny
 hash:=uA w
 inj:=λv a b f d=>by
  rcases ki f with⟨i,t,rfl,rfl⟩|⟨x,t,rfl,rfl⟩
  .rcases ki d with⟨j,u,rfl,e⟩|⟨y,u,rfl,e⟩
   .injection e with e1 _;rw[e1]
   .exact nomatch e
  .rcases ki d with⟨j,u,rfl,e⟩|⟨y,u,rfl,e⟩
   .exact nomatch e
   .injection e with e1 _;rw[e1]
 byValue:=λk v h=>by
  rcases ki h with⟨i,t,rfl,rfl⟩|⟨x,t,rfl,rfl⟩<;>rfl
 pyHash:=λc h=>by
  rcases ki c with⟨i,t,rfl,rfl⟩|⟨x,t,rfl,rfl⟩
  .exact wpAny_pyHash_int h
  .exact wpAny_pyHash_str h
 eqBool:=λg c h=>by
  rcases ki g with⟨i,t,rfl,rfl⟩|⟨x,t,rfl,rfl⟩
  .rcases ki c with⟨j,u,rfl,rfl⟩|⟨y,u,rfl,rfl⟩
   .rw[IE] at h;exact q1E h
   .rw[IG] at h;exact q08 i t y u _ _ _ _ h
  .rcases ki c with⟨j,u,rfl,rfl⟩|⟨y,u,rfl,rfl⟩
   .rw[IH] at h;exact q09 x t j u _ _ _ _ h
   .rw[IF] at h;exact wpAny_eqBool_str h
 «strs» := λk x t v h=>by
  rcases ki h with⟨i,u,rfl,e⟩|⟨y,u,rfl,e⟩
  .exact nomatch e
  .injection e with e1 _
   subst e1;cases v<;>rfl
theorem II prog w i t:(gw prog w).is (.inl i) (.int i t)=θ:=IC i t
theorem IJ prog w x t:(gw prog w).is (.inr x) (.str x t)=θ:=ID x t
inductive V where
 |non|bl (b:Bool)|int (i:Int)|str (x:π)|byt (b:Array UInt8)|flt (b:UInt64)|ref (a:Z)|ty (n:String)
 deriving DecidableEq
def RelV:V->ν->Prop
 |.non,u=>u=XY
 |.bl b,u=>u=Zv b
 |.int i,u=>∃t,u=YB i t
 |.str x,u=>∃t,u=Value.str x t
 |.byt b,u=>∃t,u=Value.bytes b t
 |.flt b,u=>∃t,u=Value.float b t
 |.ref a,u=>u=XH a
 |.ty n,u=>u=Zb n
abbrev Vals:-V->-ν->Prop:=Paired RelV
theorem Vals.length{xs us}(r:Vals xs us):↑xs=↑us:=q2O r
theorem Vals.get:∀{xs us}{i:Nat}{x},Vals xs us->xs[i]?=ζ x->∃u,us[i]?=ζ u/\RelV x u
 |_,_,_,_,.nil,e=>by simp at e
 |_,_,0,_,.cons r _,e=>by simp at e;subst e;exact⟨_,Y,r⟩
 |_,_,i+1,x,.cons _ t,e=>by
  let⟨u,a,b⟩:=Vals.get   t e⁻¹;calc⟨u,by simpa using a,b⟩
theorem Vals.set{x u}(r:RelV x u):∀{xs us} i,Vals xs us->Vals (xs.set i x) (us.set i u)
 |_,_,_,.nil=>.nil
 |_,_,0,.cons _ t=>.cons r t
 |_,_,i+1,.cons q t=>.cons q (Vals.set r i t)
theorem Vals.append:∀{xs ys us ws},Vals xs us->Vals ys ws->Vals (xs++ys) (us++ws)
 |_,_,_,_,.nil,s=>s
 |_,_,_,_,.cons r t,s=>.cons r (Vals.append t s)
theorem Vals.take:∀{xs us} n,Vals xs us->Vals (xs.take n) (us.take n)
 |_,_,0,_=>.nil
 |_,_,_+1,.nil=>.nil
 |_,_,n+1,.cons r t=>.cons r (Vals.take n t)
theorem Vals.drop:∀{xs us} n,Vals xs us->Vals (xs.drop n) (us.drop n)
 |_,_,0,r=>r
 |_,_,_+1,.nil=>.nil
 |_,_,n+1,.cons _ t=>Vals.drop n t
def d6:Option V->Option ν->Prop
 |some v,some u=>RelV v u
 |none,none=>True
 |_,_=>False
def KV{κ:Type}:-(κ×V)->-(κ×ν)->Prop:=Paired λ(p:κ×V) (q:κ×Value)=>p.1=q.1/\RelV p.2 q.2
meta def kV:Key->V
 |.inl i=>.int i
 |.inr x=>.str x
inductive HO where
 |lst (xs:-V)
 |tup (xs:-V)
 |dK (au:-(Key×V))|dT (au:-(-Key×V))
 |set (S:Int->Bool) (n:Nat)
 |ins (C dx:Z) (fs:-(π×V))
 |own (x:Z)
 |xd (fs:-(π×V))
 |met (f x:Z)
 |rng (lo hi:Int)
 |frz (o:Γ) (u:HO)
 |tbl (ps:Array ν)
 |ext (φ:Α->Prop)
abbrev Hp:=Z->Option HO
meta def upd(H:Hp)(a:Z)(o:HO):Hp:=λb=>if b=a then ζ o else H b
theorem bj{H a o}:upd H a o a=ζ o:=by unfold upd;rw[W_ Y]
theorem aG{H a b o}(h:b≠a):upd H a o b=H b:=by unfold upd;rw[Vq h]
theorem kj{H:Hp}{a b o u}(h:H a=ζ o)(h':H b=ζ u)(d:o≠u):a≠b:=by
 ext e;subst e;rw[h] at h';calc d (XA h')
theorem bU{H:Hp}{a b o}(h:H a=ζ o)(h':H b=η):a≠b:=by
 ext e;subst e;rw[h] at h';cases h'
section
variable(P:ψ)(w:ω)
def aP(H:Hp)(h:Α)(a:Z):HO->Prop
 |.lst d=>↑d<=sizeLine/\∃(b:-ν)(n:Nat),Vals d b/\h.get? a=ζ {cls:=.type "list",data:=.seq b.toArray n}
 |.tup d=>↑d<=sizeLine/\∃b:-ν,Vals d b/\IsTup h a b.toArray
 |.dK c=>↑c<=sizeLine/\(a==sysModules)=ι/\∃k,KV c k/\h.DictOf (gw P w) a k
 |.dT c=>↑c<=sizeLine/\(a==sysModules)=ι/\∃d:-(-Key×Z×ν),
   Paired (λ(p:-Key×V) (q:-Key×Addr×Value)=>p.1=q.1/\H q.2.1=ζ (.tup (p.1.map kV))/\RelV p.2 q.2.2) c d ∧
   ∃o l s,h.get? a=ζ o/\o.ExactDict/\o.data=.dict l s/\l.toList=d.map (entryOfKey (tupleKind (gw P w)))/\(d.map (·.1)).Nodup
 |.set S n=>h.SetOf (intKind P w) a S n
 |.ins C i g=>H i=ζ (.own a)/\↑g<=1000/\i≠a/\h.get? a=ζ (q15 C i) ∧
   ∃e,h.Ns1 i e/\(∀f,d6 (g.lookup f) (e f))/\q5r e (g.map (·.1))
 |.own _=>∃o,h.get? a=ζ o
 |.xd g=>∃e,h.Ns1 a e/\∀f,d6 (g.lookup f) (e f)
 |.rng y z=>∃t u v,h.get? a=ζ {cls:=.type "range",data:=.fields #[.int y t,.int z u,.int 1 v]}
 |.frz o u=>h.get? a=ζ o/\aP H h a u
 |.tbl A=>h.get? a=ζ {cls:=.none,data:=.fields A}
 |.met f x=>h.get? a=ζ (PySem.W.methodObj (.ref f) (.ref x))
 |.ext j=>j h/\(∃o,h.get? a=ζ o)/\∀m r:Α,j m->(∀o,m.get? a=ζ o->r.get? a=ζ o)->j r
def cF(H:Hp)(h:Α):Prop:=∀a o,H a=ζ o->aP P w H h a o
end
section
variable{P:ψ}{w:ω}{H H':Hp}{h h':Α}{a:Z}{o:HO}
theorem aP.lt(x:aP P w H h a o):a<h.objs.size:=by
 cases o with
 |lst c=>let⟨_,_,_,_,e⟩:0121:=x;exact Vo e
 |tup c=>let⟨_,_,_,p⟩:=x;exact p.lt
 |dK b=>let⟨_,_,_,_,o,_,_,e,_⟩:021131:=x;exact Vo e
 |dT b=>let⟨_,_,_,_,o,_,_,e,_⟩:021131:=x;exact Vo e
 |set S n=>let⟨o,_,_,_,e,_⟩:41:=x;exact Vo e
 |ins C g d=>let⟨_,_,_,e,_⟩:04:=x;exact Vo e
 |own y=>let⟨_,e⟩:=x;exact Vo e
 |xd d=>let⟨_,⟨_,_,_,e,_⟩,_⟩:=x;exact Vo e
 |rng i j=>let⟨_,_,_,e⟩:3:=x;exact Vo e
 |frz k u=>let⟨e,_⟩:=x;exact Vo e
 |tbl l=>exact Vo (x)
 |met f y=>exact Vo (x)
 |ext m=>let⟨_,⟨_,e⟩,_⟩:02:=x;calc Vo e
theorem Paired.lU{c d}{F G:c->d->Prop}:∀{l₁ l₂},Paired F l₁ l₂->(∀a b,F a b->G a b)->Paired G l₁ l₂
 |_,_,.nil,_=>.nil
 |_,_,.cons r t,f=>.cons (f _ _ r) (Paired.lU t f)
theorem aP.dE(x:aP P w H h a o)(k:∀b u,(b=a\/H b=ζ (.own a))->h.get? b=ζ u->h'.get? b=ζ u)
  (E:∀b,H b=ζ (.own a)->H' b=ζ (.own a)) (F:∀b xs,H b=ζ (.tup xs)->H' b=ζ (.tup xs)):aP P w H' h' a o:=by
 induction o with
 |lst m=>let⟨z,l,n,r,e⟩:0121:=x;exact⟨z,l,n,r,k _ _ (.inl Y) e⟩
 |tup m=>let⟨z,l,r,g,e,c⟩:=x;exact⟨z,l,r,g,k _ _ (.inl Y) e,c⟩
 |dK s=>let⟨z,y,G,r,g,i,j,e,c⟩:021131:=x;exact⟨z,y,G,r,g,i,j,k _ _ (.inl Y) e,c⟩
 |dT s =>
  let⟨z,y,m,r,g,i,j,e,c⟩:021131:=x;exact⟨z,y,m,Paired.lU r λp q z=>⟨z.1,F _ _ z.2.1,z.2.2⟩,g,i,j,k _ _ (.inl Y) e,c⟩
 |set S n=>let⟨g,i,j,t,e,c⟩:41:=x;exact(zI4 g i j t ⟨k _ _ (.inl Y) e,c⟩)
 |ins C M I =>
  let⟨d,z,J,e,A,⟨B,i,j,K,c⟩,r⟩:0411:=x;exact⟨E _ d,z,J,k _ _ (.inl Y) e,A,(zI3 B i j ⟨k _ _ (.inr d) K,c⟩),r⟩
 |own y=>let⟨g,e⟩:=x;exact⟨g,k _ _ (.inl Y) e⟩
 |xd I=>let⟨A,⟨B,i,j,e,c⟩,r⟩:=x;exact⟨A,(zI3 B i j ⟨k _ _ (.inl Y) e,c⟩),r⟩
 |rng N O=>let⟨t,u,v,e⟩:3:=x;exact(zI3 t u v (k _ _ (.inl Y) e))
 |frz g u L=>let⟨e,q⟩:=x;exact⟨k _ _ (.inl Y) e,L q⟩
 |tbl Q =>
  exact k a _ (.inl Y) x
 |met f y =>
  exact k a _ (.inl Y) x
 |ext R=>let⟨p,⟨o,e⟩,D⟩:02:=x;calc⟨D _ _ p λo q=>k _ _ (.inl Y) q,⟨o,k _ _ (.inl Y) e⟩,D⟩
theorem cF.lt(x:cF P w H h)(e:H a=ζ o):a<h.objs.size:=(x a o e).lt
theorem cF.fresh(x:cF P w H h)(e:h.objs.size<=a):H a=η:=by
 cases q:H a with
 |none=>rfl
 |some u=>calc absurd (Xe (x.lt q) e) ⋯
theorem cF.kept(x:cF P w H h)(k:∀b u,h.get? b=ζ u->h'.get? b=ζ u):cF P w H h':=λa o e =>
 (x a o e).dE (λb u _ q=>k b u q) (λ_ q=>q) λ_ _ q=>q
theorem cF.laid(x:cF P w H h)(k:∀b u,h.get? b=ζ u->h'.get? b=ζ u)(i:h.objs.size<=a)(d:aP P w (upd H a o) h' a o):cF P w (upd H a o) h':=λb u e=>by
 let f:=x.fresh i
 by_cases g:b=a
 .subst g;rw[bj] at e;cases e;exact d
 .rw[aG g] at e
  calc(x b u e).dE (λc v _ q=>k c v q) (λc q=>by rw[aG (bU q f)];calc q) λc j q=>by rw[aG (bU q f)];calc q
end
def Rd(H:Hp)(a:Z)(u:HO):Prop:=H a=ζ u\/∃o,H a=ζ (.frz o u)
theorem Rd.ok{P w H h a u}(r:Rd H a u)(x:cF P w H h):aP P w H h a u:=by
 rcases r with r|⟨o,r⟩
 .exact x a u r
 .let⟨_,q⟩:=x a _ r
  calc q
def oE:Option HO->Prop
 |some (.lst _)=>True
 |some (.dK _)=>True
 |some (.dT _)=>True
 |some (.set _ _)=>True
 |some (.ins _ _ _)=>True
 |some (.ext _)=>True
 |_=>False
section
variable{P:ψ}{w:ω}{H:Hp}{h h':Α}{x e:Z}{o':HO}
theorem cF.write(n:cF P w H h)(mu:oE (H x))(he:e=x\/H e=ζ (.own x))(k:∀b u,b≠e->h.get? b=ζ u->h'.get? b=ζ u)(i:∃u,h'.get? e=ζ u)
  (j:aP P w (upd H x o') h' x o'):cF P w (upd H x o') h':=λb u q=>by
 let d:∀c y,H c=ζ (.own y)->c≠x:=λc y r z=>by subst z;rw[r] at mu;exact mu
 by_cases f:b=x
 .subst f;rw[bj] at q;cases q;exact j
 .rw[aG f] at q
  by_cases a:b=e
  .let l:H b=ζ (.own x):=by
    rcases he with z|z
    .exact absurd (a.trans z) f
    .rw[a];exact z
   rw[q] at l;cases l;let⟨v,o⟩:=i;exact⟨v,by rw[a];calc o⟩
  .refine (n b u q).dE (λc v g r=>k c v ?_ r) (λc r=>by rw[aG (d c b r)];calc r) λc m r=>by rw[aG ((λc m r z=>by subst z;rw[r] at mu;calc mu) c m r)];exact r
   rcases g with rfl|g
   .exact a
   .ext rfl
    rcases he with z|z
    .exact d c b g z
    .rw[g] at z;cases z;calc f Y
end
structure Un(fs ex:-Z)(H H':Hp)(h h':Α):Prop where
 keep:∀b o,h.get? b=ζ o->H b=η->b∉fs->b∉ex->h'.get? b=ζ o
 slot:∀b o,h.get? b=ζ o->H b=η->b∈fs->b∉ex->∃sl,h'.get? b=ζ {o with slots:=sl}
 free:∀b o,h.get? b=ζ o->H b=η->b∉ex->H' b=η
 there:∀b o,h.get? b=ζ o->b∉ex->∃o',h'.get? b=ζ o'
 cM:∀b xs,H b=ζ (.tup xs)->H' b=ζ (.tup xs)
 dF:∀b o u,H b=ζ (.frz o u)->H' b=ζ (.frz o u)
 d7:∀b ps,H b=ζ (.tbl ps)->∃more,H' b=ζ (.tbl (ps++more))
 dG:∀b xs o,H b=ζ (.tup xs)->h.get? b=ζ o->b∉ex->h'.get? b=ζ o
section
variable{fs IK ex Vl:-Z}{H H1 H2:Hp}{h h1 h2 h':Α}{a x e:Z}{o:HO}
theorem Un.any(u:Un fs ex H H1 h h1){b a}(q:h.get? b=ζ a)(n:H b=η)(c:b∉ex):∃e,h1.get? b=ζ {a with slots:=e}:=by
 by_cases d:b∈fs
 .exact u.slot b a q n d c
 .calc⟨a.slots,u.keep b a q n d c⟩
theorem Un.kept(k:∀b u,h.get? b=ζ u->h'.get? b=ζ u):Un fs ex H H h h' :=
 ⟨λb a q _ _ _=>k b a q,λb a q _ _ _=>⟨a.slots,k b a q⟩,λ_ _ _ n _=>n,λb a q _=>⟨a,k b a q⟩,λ_ _ q=>q,λ_ _ _ q=>q,λ_ c q=>⟨#[],by rw[q];simp⟩,λb _ u _ q _=>k b u q⟩
theorem Un.refl:Un fs ex H H h h:=Un.kept λ_ _ q=>q
theorem Un.laid(k:∀b u,h.get? b=ζ u->h'.get? b=ζ u)(c:h.objs.size<=a)(hn:H a=η):Un fs ex H (upd H a o) h h' where
 keep:=λb u q _ _ _=>k b u q
 slot:=λb u q _ _ _=>⟨u.slots,k b u q⟩
 free:=λb u q n _=>by rw[aG (W8 (Xe (Vo q) c))];exact n
 there:=λb u q _=>⟨u,k b u q⟩
 cM:=λb d q=>by rw[aG (bU q hn)];exact q
 dF:=λb u d q=>by rw[aG (bU q hn)];exact q
 d7:=λb e q=>⟨#[],by rw[aG (bU q hn),q];simp⟩
 dG:=λb _ u _ q _=>k b u q
theorem Un.write(mu:oE (H x))(he:e=x\/H e=ζ (.own x))(k:∀b u,b≠e->h.get? b=ζ u->h'.get? b=ζ u)(d:∃u,h'.get? e=ζ u):Un fs ex H (upd H x o) h h':=by
 let f:∀b,H b=η->b≠x:=λb n z=>by subst z;rw[n] at mu;exact mu
 let g:∀b,H b=η->b≠e:=λb n z=>by
  subst z;rcases he with r|r
  .exact f b n r
  .rw[n] at r;cases r
 let c:∀b u,H b=ζ u->¬ oE (ζ u)->b≠x:=λb u q j z=>by subst z;rw[q] at mu;exact j mu
 refine⟨λb u q n _ _=>k b u (g b n) q,λb u q n _ _=>⟨u.slots,k b u (g b n) q⟩,λb u q n _=>by rw[aG (f b n)];calc n,λb u q _=>?_,
  λb i q=>by rw[aG (c b _ q λz=>z)];calc q,λb u i q=>by rw[aG (c b _ q λz=>z)];calc q,λb l q=>⟨#[],by rw[aG (c b _ q λz=>z),q];simp⟩,λb i u q e _=>k b u (λz=>by
   subst z;rcases he with r|r
   .exact c b _ q (λz=>z) r
   .rw[q] at r;cases r) e⟩
 by_cases a:b=e
 .subst a;exact d
 .calc⟨u,k b u a q⟩
end
meta def uB(h:Α)(H:Hp):-Z:=(Xz h.objs.size).filter λa=>(H a).isSome
meta def ft(h:Α)(H:Hp):Α:=PySem.W.hideAll h (uB h H)
theorem IM h H:(ft h H).objs.size=h.objs.size:=PySem.W.hideAll_size _ _
theorem IP{h H b o}(e:h.get? b=ζ o)(n:H b=η):(ft h H).get? b=ζ o :=
 PySem.W.hideAll_get _ e λa=>by
  let q:=(Xf.mp a).2;rw[n] at q;simp at q
theorem Aj{h H b o}(e:(ft h H).get? b=ζ o):h.get? b=ζ o/\H b=η:=by
 let a:=PySem.W.of_hideAll (uB h H) e;refine⟨a,?_⟩
 cases q:H b with
 |none=>rfl
 |some x =>
  let z:(ft h H).get? b=η:=PySem.W.hideAll_none (uB h H) (Xf.mpr ⟨Xr.mpr (Vo a),by simp[q]⟩);rw[z] at e;cases e
structure Mod(K:KH)(mg:π->Option ν)(base:Α):Prop where
 q9:K.In base
 glob:base.Ns mainGlobals mg
 blt:∃mb,base.Ns builtinsNs mb/\∀x:π,x≠"__name__" -> mb x=bootBuiltins x
 nolimit:base.NoLimit
structure Cx where
 prog:ψ
 w:ω
 K:KH
 mg:π->Option ν
 base:Α
 A:Β
 N:-π
 s₀:ο
 H₀:Hp
 env:Ζ
 outer:-Ζ
 stack:-Ζ
 ex:-Z
 fn:π->Bool
 calm:Bool
 pn:-(Z×Γ)
 xe:ν->ο->Prop
meta def d8(l:-Ζ):-Z:=l.filterMap (·.frame)
meta abbrev Cx.fs(X:Cx):-Z:=d8 X.outer
def nz(a:Δ)(x:π):Prop:=a.names.lookup x=ζ .local\/a.names.lookup x=ζ .cell\/a.names.lookup x=ζ .free
def Loc(a:Δ)(x:π):Prop:=a.names.lookup x=ζ .local\/a.names.lookup x=ζ .cell
abbrev bB(x:π):Prop:=(x==("__debug__" : π))=ι
abbrev cW(X:Cx)(x:π):Prop:=X.fn x=θ\/X.env.scope.names.lookup x=ζ .local
abbrev cI(X:Cx)(e:υ)(es:-υ):Prop:=starEach (e::es) X.env=(ι,eval e X.env)::starEach es X.env
abbrev cX(X:Cx)(p:Ε)(es:-υ):Prop:=(backTo p (starEach es X.env)).any (·.1)=ι
abbrev ax:=-(Z×Γ)
def Look(env:Ζ)(h:Α)(m:π->Option ν)(x:π)(u:ν):Prop :=
 (env.kindOf x=ζ .local/\m x=ζ u)\/((env.kindOf x=ζ .cell\/env.kindOf x=ζ .free)/\∃c,env.cells.lookup x=ζ c/\h.IsCell c (ζ u))
structure Cx.Ok(X:Cx):Prop where
 mod:Mod X.K X.mg X.base
 kind:X.env.scope.kind=.function
 glob:X.env.globals=mainGlobals
 blt:X.env.builtins=builtinsNs
 above:⇑X.s₀<=X.env.locals
 inj:∀x y c,X.env.cells.lookup x=ζ c->X.env.cells.lookup y=ζ c->x=y
 has:∀x,(X.env.kindOf x=ζ .cell\/X.env.kindOf x=ζ .free)->∃c,X.env.cells.lookup x=ζ c
 km:∀x c,X.fn x=θ->X.env.cells.lookup x=ζ c->⇑X.s₀<=c
 hd:X.calm=θ->X.A.handled=η
 frames:X.A.frames=ζ X.stack
 lV:X.stack=X.outer\/(X.stack=X.env::X.outer/\X.env.frame=ζ X.env.locals)
 oF:∀b∈X.ex,b≠X.env.locals/\∀x c,X.env.cells.lookup x=ζ c->c≠b
 bs:∀b o,X.base.get? b=ζ o->X.s₀.heap.get? b=ζ o/\(X.H₀ b=η\/∃xs,X.H₀ b=ζ (.tup xs))
 ja:X.base.objs.size<=⇑X.s₀
 fX:∀b o,X.base.get? b=ζ o->b∉X.ex
 gW:∀b∈X.ex,b∉X.fs
 cY:X.s₀.heap.FunFrames X.base X.outer
 ju:∀b∈X.fs,X.H₀ b=η
structure Inv(X:Cx)(pins:ax)(σ:-(Option V))(H:Hp)(s:ο):Prop where
 ok:X.Ok
 os:s.os=X.s₀.os
 bare:AllBare s.gens
 base:Un X.fs X.ex X.H₀ H X.s₀.heap s.heap
 loc:∃m,s.heap.Ns X.env.locals m/\∀(i:Nat)(x:π)(v:V),X.N[i]?=ζ x->σ[i]?=ζ (ζ v)->nz X.env.scope x->∃u,RelV v u/\Look X.env s.heap m x u
 cell:∀x c,X.env.cells.lookup x=ζ c->∃v,s.heap.IsCell c v
 free:H X.env.locals=η
 bI:∀x c,X.env.cells.lookup x=ζ c->H c=η
 pin:∀p∈X.pn++pins,s.heap.get? p.1=ζ p.2/\H p.1=η/\p.1≠X.env.locals/\p.1∉X.fs/\∀v,p.2.data≠.cell v
 aM:cF X.prog X.w H s.heap
 len:↑σ=↑X.N
section
variable{X:Cx}{pins:ax}{σ:-(Option V)}{H H':Hp}{s:ο}{h':Α}
theorem Cx.Ok.uC(a:X.Ok){b o}(e:X.base.get? b=ζ o):b∉X.fs:=λc=>by
 let:=(a.cY.mem c).1;rw[e] at this;cases this
theorem Inv.bs(I:Inv X pins σ H s):∀b o,X.base.get? b=ζ o->s.heap.get? b=ζ o/\(H b=η\/∃xs,H b=ζ (.tup xs)):=λb o e=>by
 obtain⟨d,a|⟨c,a⟩⟩:=I.ok.bs b o e
 .exact⟨I.base.keep b o d a (I.ok.uC e) (I.ok.fX b o e),.inl (I.base.free b o d a (I.ok.fX b o e))⟩
 .calc⟨I.base.dG b c o a d (I.ok.fX b o e),.inr ⟨c,I.base.cM b c a⟩⟩
theorem Inv.bk(I:Inv X pins σ H s):∀b o,X.base.get? b=ζ o->s.heap.get? b=ζ o:=λb o e=>(I.bs b o e).1
theorem Inv.mod(I:Inv X pins σ H s):Mod X.K X.mg X.base:=I.ok.mod
theorem Inv.dY(I:Inv X pins σ H s):X.K.In s.heap:=I.ok.mod.q9.keeps I.bk
theorem Inv.nolimit(I:Inv X pins σ H s):s.heap.NoLimit:=I.ok.mod.nolimit.keeps I.bk
theorem Inv.lt(I:Inv X pins σ H s):X.env.locals<⇑s:=let⟨_,a,_⟩:=I.loc;a.lt
theorem Inv.sz(I:Inv X pins σ H s):⇑X.s₀<=⇑s:=XQ I.ok.above (YJ I.lt)
theorem Inv.uD(I:Inv X pins σ H s){a:Z}(h:⇑s<=a):a∉X.fs:=λb=>by
 let⟨_,o,c,_⟩:=I.ok.cY.mem b;calc absurd (Xe (Vo c) (XQ I.sz h)) ⋯
theorem Inv.oG(I:Inv X pins σ H s):∀x c,X.env.cells.lookup x=ζ c->c≠X.env.locals:=λx c e z=>by
 let⟨v,o,d,f⟩:21:=I.cell x c e;let⟨m,⟨o',g,h,a,b,_⟩,_⟩:=I.loc;rw[z,a] at d;cases d;rw[b] at f;cases f
theorem Inv.cY(I:Inv X pins σ H s):s.heap.FunFrames X.base X.outer:=by
 let a:∀l,(∀b∈d8 l,b∈X.fs)->X.s₀.heap.FunFrames X.base l->s.heap.FunFrames X.base l:=by
  ext l
  induction l with
  |nil=>ext _ _;trivial
  |cons h r i =>
   ext g j;let⟨k,⟨L,o,c,m,n,p⟩,q⟩:02:=j;let d:=g L (by unfold d8;rw[ZA,c];calc Vr);let⟨t,e⟩:=I.base.slot L o n (I.ok.ju L d) d λz=>I.ok.gW L z d;exact⟨k,(zI2 L _ ⟨c,m,e,p⟩),i (λb f=>g b (by unfold d8;rw[ZA,c];calc Bi _ f)) q⟩
 calc a X.outer (λ_ f=>f) I.ok.cY
theorem Inv.stack(I:Inv X pins σ H s):s.heap.FunFrames X.base X.stack:=by
 rcases I.ok.lV with e|⟨e,a⟩
 .rw[e];exact I.cY
 .rw[e]
  let⟨m,b,_⟩:=I.loc;calc .cons (by rw[I.ok.kind];decide) a b (Z0 (XQ I.ok.ja I.ok.above)) I.cY
theorem Inv.fY(I:Inv X pins σ H s):∀b∈d8 X.stack,b∈X.env.locals::X.fs:=λb a=>by
 rcases I.ok.lV with e|⟨e,c⟩
 .rw[e] at a;exact Bi _ a
 .rw[e] at a
  unfold d8 at a;rw[ZA,c] at a;calc a
theorem Inv.dH(I:Inv X pins σ H s):∀b∈d8 X.stack,H b=η:=λb a=>by
 rcases KN.mp (I.fY b a) with e|a
 .rw[e];exact I.free
 .let⟨_,o,c,_⟩:=I.ok.cY.mem a
  calc I.base.free b o c (I.ok.ju b a) λz=>I.ok.gW b z a
theorem Inv.step{T:Array GenState}{t':Nat}{Z:Drawn}{ch:-ξ}(I:Inv X pins σ H s)
  (h:∀b∈ch,(b∈X.ex\/⇑X.s₀<=b)/\b≠X.env.locals/\(∀x c,X.env.cells.lookup x=ζ c->c≠b)/\∀p∈X.pn++pins,p.1≠b)
  (j:∀b o,b≠X.env.locals->b∉X.fs->b∉ch->s.heap.get? b=ζ o->H b=η->h'.get? b=ζ o)
  (C:∀b o,b≠X.env.locals->b∈X.fs->b∉ch->s.heap.get? b=ζ o->H b=η->∃O,h'.get? b=ζ {o with slots:=O}) (f:∀b o,b∉ch->s.heap.get? b=ζ o->H b=η->H' b=η)
  (E:∀b o,b∉ch->s.heap.get? b=ζ o->∃o',h'.get? b=ζ o')
  (J:∀b xs,H b=ζ (.tup xs)->H' b=ζ (.tup xs)) (K:∀b o u,H b=ζ (.frz o u)->H' b=ζ (.frz o u)) (L:∀b ps,H b=ζ (.tbl ps)->∃more,H' b=ζ (.tbl (ps++more)))
  (M:∀b xs o,H b=ζ (.tup xs)->s.heap.get? b=ζ o->b∉ch->h'.get? b=ζ o)
  (ns:∀m,s.heap.Ns X.env.locals m->h'.Ns X.env.locals m) (Q:cF X.prog X.w H' h') (hg:AllBare T) :
  Inv X pins σ H' {s with heap:=h',gens:=T,drawn:=Z,toks:=t'}:=by
 let N:∀b o,X.s₀.heap.get? b=ζ o->b≠X.env.locals:=λb o e=>W8 (Xe (Vo e) I.ok.above)
 let t:∀b o,X.s₀.heap.get? b=ζ o->b∉X.ex->b∉ch:=λb o e a F=>by
  rcases(h b F).1 with z|z
  .exact a z
  .exact absurd (Xe (Vo e) z) ⋯
 let A:∀x c,X.env.cells.lookup x=ζ c->∀v,s.heap.IsCell c v->h'.IsCell c v:=λx c e v ⟨o,G,R⟩↦by
  let y:=λz=>(h c z).2.2.1 x c e rfl
  by_cases U:c∈X.fs
  .let⟨O,q⟩:=C c o (I.oG x c e) U y G (I.bI x c e)
   exact⟨_,q,R⟩
  .exact⟨o,j c o (I.oG x c e) U y G (I.bI x c e),R⟩
 refine⟨I.ok,I.os,hg,⟨λb o e n F a=>?_,λb o e n F a=>?_,λb o e n a=>?_,λb o e a=>?_,λb B e=>J b B (I.base.cM b B e),λb o B e=>K b o B (I.base.dF b o B e),λb ps e=>?_,λb B o g D a=>M b B o (I.base.cM b B g) (I.base.dG b B o g D a) (t b o D a)⟩,?_,λx c e=>?_,?_,λx c e=>?_,λp V=>?_,Q,I.len⟩
 .exact j b o (N b o e) F (t b o e a) (I.base.keep b o e n F a) (I.base.free b o e n a)
 .let⟨O,g⟩:=I.base.slot b o e n F a
  let⟨S,D⟩:1:=C b _ (N b o e) F (t b o e a) g (I.base.free b o e n a);exact⟨S,D⟩
 .let⟨P,g⟩:=I.base.there b o e a
  exact f b P (t b o e a) g (I.base.free b o e n a)
 .let⟨P,g⟩:=I.base.there b o e a
  exact E b P (t b o e a) g
 .let⟨m1,g⟩:=I.base.d7 b ps e
  let⟨m2,D⟩:=L b _ g;exact⟨m1++m2,by rw[D,Array.append_assoc]⟩
 .let⟨m,hn,hl⟩:=I.loc
  calc⟨m,ns m hn,λi x v g D e3=>?_⟩;let⟨u,r,l⟩:=hl i x v g D e3;calc⟨u,r,?_⟩;rcases l with l|⟨k,c,e,z⟩
  .exact .inl l
  .exact .inr ⟨k,c,e,A x c e _ z⟩
 .let⟨v,z⟩:=I.cell x c e
  exact⟨v,A x c e v z⟩
 .let⟨m,⟨o,_,_,G,_⟩,_⟩:=I.loc
  exact f _ o (λz=>(h _ z).2.1 rfl) G I.free
 .let⟨v,o,G,R⟩:=I.cell x c e
  exact f c o (λz=>(h c z).2.2.1 x c e rfl) G (I.bI x c e)
 .let⟨e,n,W,Y,d⟩:04:=I.pin p V
  let y:=λz=>(h p.1 z).2.2.2 p V rfl;calc⟨j p.1 p.2 W Y y e n,f p.1 p.2 y e n,W,Y,d⟩
theorem Inv.un{t':Nat}(I:Inv X pins σ H s)(u:Un X.fs [] H H' s.heap h')(c:cF X.prog X.w H' h'):Inv X pins σ H' {s with heap:=h',toks:=t'}:=by
 let⟨m,⟨o,p,t,h,r⟩,_⟩:=id I.loc;let⟨v,i⟩:=u.any h I.free (by simp)
 exact I.step   (ch:=[]) (λ_ z=>nomatch z) (λb o _ d _ e n=>u.keep b o e n d (by simp)) (λb o _ d _ e n=>u.slot b o e n d (by simp)) (λb o _ e n=>u.free b o e n (by simp)) (λb o _ e=>u.there b o e (by simp)) u.cM u.dF u.d7 (λb j o q e _=>u.dG b j o q e (by simp)) (λx k=>by
  let⟨o',f,g,a,l⟩:31:=k;rw[h] at a;cases a
  calc(zI3 _ f g ⟨i,l⟩)) c I.bare
theorem Inv.call{k:Array GenState}{t':Nat}{t:Drawn}{ch:-Z}(I:Inv X pins σ H s)(u:Un (d8 X.stack) ch H H' s.heap h')(g:cF X.prog X.w H' h')(v:AllBare k)
  (d:∀b∈ch,(b∈X.ex\/⇑X.s₀<=b)/\b≠X.env.locals/\(∀x c,X.env.cells.lookup x=ζ c->c≠b)/\∀p∈X.pn++pins,p.1≠b) :
  Inv X pins σ H' {s with heap:=h',gens:=k,drawn:=t,toks:=t'}:=by
 let⟨m,⟨o,D,E,l,r⟩,_⟩:=id I.loc;let⟨F,h⟩:=u.any l I.free λz=>(d _ z).2.1 Y
 exact I.step  d (λb o h y a e n=>u.keep b o e n (λz=>(KN.mp (I.fY b z)).elim h y) a) (λb o _ _ a e n=>u.any e n a) (λb o a e n=>u.free b o e n a) (λb o a e=>u.there b o e a) u.cM u.dF u.d7 (λb A o q e a=>u.dG b A o q e a) (λG B=>by
  let⟨o',i,j,f,C⟩:31:=B;rw[l] at f;cases f
  calc(zI3 _ i j ⟨h,C⟩)) g v
theorem Inv.turned{t':Nat}{a:Z}(I:Inv X pins σ H s)(k:∀b o,b≠a->s.heap.get? b=ζ o->h'.get? b=ζ o)(hn:H a=η)(g:a≠X.env.locals)
  (h:a∈X.ex\/⇑X.s₀<=a) (i:∀x c,X.env.cells.lookup x=ζ c->c≠a) (j:∀p∈X.pn++pins,p.1≠a):Inv X pins σ H {s with heap:=h',toks:=t'}:=by
 let f:∀b u,H b=ζ u->b≠a:=λb u e z=>by rw[z,hn] at e;cases e
 refine I.step   (ch:=[a]) (λb l=>?_) (λb o _ _ d e _=>k b o (λz=>d (by simp[z])) e) (λb o _ _ d e _=>⟨o.slots,k b o (λz=>d (by simp[z])) e⟩) (λ_ _ _ _ n=>n)
  (λb o d e=>⟨o,k b o (λz=>d (by simp[z])) e⟩) (λ_ _ e=>e) (λ_ _ _ e=>e) (λb B e=>⟨#[],by rw[e];simp⟩) (λb _ o _ e d=>k b o (λz=>d (by simp[z])) e) (λm t=>?_) (λb u e=>?_) I.bare
 .let e:=by simpa using l
  subst e;exact⟨h,g,i,j⟩
 .let⟨o,w,y,A,r⟩:31:=t
  exact(zI3 o w y ⟨k _ o (YD g) A,r⟩)
 .refine (I.aM b u e).dE (λc v d q=>k c v ?_ q) (λ_ q=>q) λ_ _ q=>q
  rcases d with z|z
  .rw[z];exact f b u e
  .calc f c _ z
theorem Inv.tok(I:Inv X pins σ H s)(t:Nat):Inv X pins σ H {s with toks:=t}:=I.un   Un.refl I.aM
theorem Inv.kept{t':Nat}(I:Inv X pins σ H s)(k:∀b u,s.heap.get? b=ζ u->h'.get? b=ζ u):Inv X pins σ H {s with heap:=h',toks:=t'}:=I.un (Un.kept k) (I.aM.kept k)
theorem Inv.laid{a:Z}{o:HO}{t':Nat}(I:Inv X pins σ H s)(k:∀b u,s.heap.get? b=ζ u->h'.get? b=ζ u)(c:⇑s<=a)(d:aP X.prog X.w (upd H a o) h' a o):
  Inv X pins σ (upd H a o) {s with heap:=h',toks:=t'}:=I.un (Un.laid k c (I.aM.fresh c)) (I.aM.laid k c d)
theorem Inv.write{x e:Z}{o:HO}{t':Nat}(I:Inv X pins σ H s)(mu:oE (H x))(he:e=x\/H e=ζ (.own x))(k:∀b u,b≠e->s.heap.get? b=ζ u->h'.get? b=ζ u)(a:∃u,h'.get? e=ζ u)
  (c:aP X.prog X.w (upd H x o) h' x o):Inv X pins σ (upd H x o) {s with heap:=h',toks:=t'}:=I.un (Un.write mu he k a) (I.aM.write mu he k a c)
theorem Inv.eP{a:ax}(I:Inv X pins σ H s)(h:∀p∈a,s.heap.get? p.1=ζ p.2/\H p.1=η/\p.1≠X.env.locals/\p.1∉X.fs/\∀v,p.2.data≠.cell v):Inv X a σ H s :=
 ⟨I.ok,I.os,I.bare,I.base,I.loc,I.cell,I.free,I.bI,λp b=>(W9.mp b).elim (λz=>I.pin p (Xv _ z)) (h p),I.aM,I.len⟩
theorem uE{N:-π}(c:N.Nodup){i j:Nat}{x:π}(a:N[i]?=ζ x)(b:N[j]?=ζ x):i=j:=by
 let⟨f,d⟩:=mj.mp a;let⟨g,e⟩:=mj.mp b;calc(q0H c).mp (d.trans e.symm)
theorem Ak{M:Model}{A:Β}{E:aJ}{i:Nat}{x:π}{v:V}{u:ν}{Q:Unit->ο->Prop}(I:Inv X pins σ H s)(hN:X.N.Nodup)(R:X.N[i]?=ζ x)(l:Loc X.env.scope x)(r:RelV v u)
  (h:∀s',Inv X pins (σ.set i (ζ v)) H s'->(∃a,Z3 a s.heap s'.heap/\(a=X.env.locals\/X.env.cells.lookup x=ζ a))->Q () s') (hf:autoParam (cW X x) qz4._auto_1):ρ M A (storeName X.env x u) Q E s:=by
 let⟨m,hn,hl⟩:=id I.loc;let S:(X.env.scope.kind==.class||(X.env.scope.kind==.module&&X.env.locals != X.env.globals))=ι:=by rw[I.ok.kind];rfl
 let G:i<↑σ:=by rw[I.len];exact(mj.mp R).1
 let K:=I.oG
 let t:∀{a P},(∃o,s.heap.get? a=ζ o/\H a=η)->Z3 a s.heap P->cF X.prog X.w H P:=λ{a P} ha f b ob e=>by
  let⟨_,_,C⟩:=ha;calc(I.aM b ob e).dE (λc Z B q=>(f.2 c ?_).trans q) (λ_ q=>q) λ_ _ q=>q;ext rfl;rcases B with rfl|B
  .rw[C] at e;cases e
  .rw[C] at B;cases B
 rcases l with J|J
 .refine wpAny_storeName_local J hn (λP Al f=>?_) S
  let⟨oL,_,_,IQ,_⟩:31:=id hn;refine h _ ⟨I.ok,I.os,I.bare,⟨λb o e n L l=>?_,λb o e n L l=>?_,I.base.free,λb o e l=>?_,I.base.cM,I.base.dF,I.base.d7,λb xs o g e l=>(f.2 b (W8 (Xe (Vo e) I.ok.above))).trans (I.base.dG b xs o g e l)⟩,⟨_,Al,λj y v' g D e3=>?_⟩,λy c e=>?_,I.free,I.bI,λp hp=>?_,t ⟨oL,IQ,I.free⟩ f,by simpa using I.len⟩ ⟨_,f,.inl rfl⟩
  .exact (f.2 b (W8 (Xe (Vo e) I.ok.above))).trans (I.base.keep b o e n L l)
  .let⟨sl,g⟩:=I.base.slot b o e n L l
   exact⟨sl,(f.2 b (W8 (Xe (Vo e) I.ok.above))).trans g⟩
  .let⟨o',g⟩:=I.base.there b o e l
   exact⟨o',(f.2 b (W8 (Xe (Vo e) I.ok.above))).trans g⟩
  .by_cases O:j=i
   .subst O
    rw[R] at g;cases g;rw[XD G] at D;cases D
    exact⟨u,r,.inl ⟨J,by simp⟩⟩
   .rw[XM (YD O)] at D
    let⟨u',r',q⟩:=hl j y v' g D e3;calc⟨u',r',?_⟩;rcases q with⟨k,e⟩|⟨k,c,e,z⟩
    .refine .inl ⟨k,?_⟩
     let:y≠x:=λe=>O (uE hN g (e▸R));simp[this,e]
    .exact .inr ⟨k,c,e,z.sameBut f (K y c e)⟩
  .let⟨Z,z⟩:=I.cell y c e
   exact⟨Z,z.sameBut f (K y c e)⟩
  .let⟨e,n,ne,nf,d⟩:04:=I.pin p hp
   exact⟨(f.2 p.1 ne).trans e,n,ne,nf,d⟩
 .let F:X.fn x=θ:=by
   rcases hf with z|z
   .exact z
   .rw[z] at J;cases J
  let⟨c,B⟩:=I.ok.has x (.inl J);let⟨Z,z⟩:=I.cell x c B;calc wpAny_storeName_cell I.ok.kind J B z (λP T f=>?_);let⟨oc,U,W⟩:=id z;refine h {s with heap:=P} ⟨I.ok,I.os,I.bare,⟨λb o e n L l=>?_,λb o e n L l=>?_,I.base.free,λb o e l=>?_,I.base.cM,I.base.dF,I.base.d7,λb xs o g e l=>(f.2 b (W8 (Xe (Vo e) (I.ok.km x c F B)))).trans (I.base.dG b xs o g e l)⟩,⟨m,hn.sameBut f (YD (K x c B)),λj y v' g D e3=>?_⟩,λy c' e=>?_,I.free,I.bI,λp hp=>?_,t ⟨oc,U,I.bI x c B⟩ f,by simpa using I.len⟩ ⟨c,f,.inr B⟩
  .exact (f.2 b (W8 (Xe (Vo e) (I.ok.km x c F B)))).trans (I.base.keep b o e n L l)
  .let⟨sl,g⟩:=I.base.slot b o e n L l
   exact⟨sl,(f.2 b (W8 (Xe (Vo e) (I.ok.km x c F B)))).trans g⟩
  .let⟨o',g⟩:=I.base.there b o e l
   exact⟨o',(f.2 b (W8 (Xe (Vo e) (I.ok.km x c F B)))).trans g⟩
  .by_cases O:j=i
   .subst O
    rw[R] at g;cases g;rw[XD G] at D;cases D
    exact⟨u,r,.inr ⟨.inl J,c,B,T⟩⟩
   .rw[XM (YD O)] at D
    let⟨u',r',q⟩:=hl j y v' g D e3;calc⟨u',r',?_⟩;rcases q with q|⟨k,c',e,z'⟩
    .exact .inl q
    .refine .inr ⟨k,c',e,z'.sameBut f ?_⟩
     ext rfl;exact O (uE hN g (I.ok.inj _ _ _ e B▸R))
  .by_cases Y:c'=c
   .subst Y;exact⟨_,T⟩
   .let⟨w2,z2⟩:=I.cell y c' e
    exact⟨w2,z2.sameBut f Y⟩
  .let⟨e,n,ne,nf,d⟩:04:=I.pin p hp
   calc⟨(f.2 p.1 ?_).trans e,n,ne,nf,d⟩;ext q;rw[q,U] at e;calc d Z (by rw[<-(XA e)];calc W)
theorem q_{M:Model}{A:Β}{E:aJ}{i:Nat}{x:π}{v:V}{u:ν}{Q:Unit->ο->Prop}(I:Inv X pins σ H s)(a:X.N.Nodup)(b:X.N[i]?=ζ x)(c:Loc X.env.scope x)(r:RelV v u)
  (h:∀s',Inv X pins (σ.set i (ζ v)) H s'->Q () s') (e:autoParam (cW X x) qz1._auto_1):ρ M A (storeName X.env x u) Q E s :=
 Ak I a b c r (λd f _=>h d f) e
theorem Inv.ib{s':ο}{ch:-Z}(I:Inv X pins σ H s)(e:s'.os=s.os)(u:Un (d8 X.stack) ch H H' s.heap s'.heap)(a:cF X.prog X.w H' s'.heap)(f:AllBare s'.gens)
  (d:∀b∈ch,(b∈X.ex\/⇑X.s₀<=b)/\b≠X.env.locals/\(∀x c,X.env.cells.lookup x=ζ c->c≠b)/\∀p∈X.pn++pins,p.1≠b):Inv X pins σ H' s':=by
 let⟨g,h,i,j,k⟩:=s';subst e;calc I.call    u a f d
end
abbrev XK:=ν->Option Z->Hp->Prop
abbrev St:=-(Option V)
abbrev VK:=V->Hp->Prop
abbrev TE:=St->Hp->VK->Prop
abbrev TT:=St->Hp->(Bool->Hp->Prop)->Prop
abbrev TA:=St->Hp->(-V->Hp->Prop)->Prop
structure Ends where
 nx:St->Hp->Prop
 rt:VK
 bk:St->Hp->Prop:=λ_ _=>False
 ct:St->Hp->Prop:=λ_ _=>False
abbrev TS:=Ends->St->Hp->Prop
inductive EP (X:Cx) (pins:ax) (σ:St) (Q:VK) (u:ν) (s':ο):Prop
 |mk (v:V) (H':Hp) (I:Inv X pins σ H' s') (r:RelV v u) (q:Q v H')
def TP(X:Cx)(a:ax)(d:St)(Q:Bool->Hp->Prop)(b:Bool)(s':ο):Prop:=∃c,Inv X a d c s'/\Q b c
inductive AP (X:Cx) (pins:ax) (σ:St) (Q:-V->Hp->Prop) (us:-ν) (s':ο):Prop
 |mk (vs:-V) (H':Hp) (I:Inv X pins σ H' s') (r:Vals vs us) (q:Q vs H')
def SP(X:Cx)(b:ax)(D:Ends)(f:Flow)(s':ο):Prop :=
 match f with
 |.next=>∃a c,Inv X b a c s'/\D.nx a c
 |.brk=>∃a c,Inv X b a c s'/\D.bk a c
 |.cont=>∃a c,Inv X b a c s'/\D.ct a c
 |.ret u=>∃v a c,Inv X b a c s'/\RelV v u/\D.rt v c
structure JE(X:Cx)(e:υ)(t:TE):Prop where
 out:∀(pins:ax)(s:ο)(σ:St)(H:Hp)(Q:VK),Inv X pins σ H s->t σ H Q->ρ (ς X.prog X.w) X.A (eval e X.env) (EP X pins σ Q) X.xe s
instance {X:Cx} {e:υ} {t:TE}:CoeFun (JE X e t) (λ_=>∀(pins:ax)(s:ο)(σ:St)(H:Hp)(Q:VK),Inv X pins σ H s->t σ H Q->ρ (ς X.prog X.w) X.A (eval e X.env) (EP X pins σ Q) X.xe s):=⟨JE.out⟩
structure JT(X:Cx)(e:υ)(t:TT):Prop where
 out:∀(pins:ax)(s:ο)(σ:St)(H:Hp)(Q:Bool->Hp->Prop),Inv X pins σ H s->t σ H Q->ρ (ς X.prog X.w) X.A (isTrue e X.env (eval e X.env)) (TP X pins σ Q) X.xe s
instance {X:Cx} {e:υ} {t:TT}:CoeFun (JT X e t) (λ_=>∀(pins:ax)(s:ο)(σ:St)(H:Hp)(Q:Bool->Hp->Prop),Inv X pins σ H s->t σ H Q->ρ (ς X.prog X.w) X.A (isTrue e X.env (eval e X.env)) (TP X pins σ Q) X.xe s):=⟨JT.out⟩
structure JW(X:Cx)(e:υ)(t:TT):Prop where
 out:∀(whole:Sem ν)(pins:ax)(s:ο)(σ:St)(H:Hp)(Q:Bool->Hp->Prop),Inv X pins σ H s->t σ H Q->ρ (ς X.prog X.w) X.A (isTrue e X.env whole) (TP X pins σ Q) X.xe s
instance {X:Cx} {e:υ} {t:TT}:CoeFun (JW X e t) (λ_=>∀(whole:Sem ν)(pins:ax)(s:ο)(σ:St)(H:Hp)(Q:Bool->Hp->Prop),Inv X pins σ H s->t σ H Q->ρ (ς X.prog X.w) X.A (isTrue e X.env whole) (TP X pins σ Q) X.xe s):=⟨JW.out⟩
theorem JW.jt{X:Cx}{e:υ}{t:TT}(h:JW X e t):JT X e t:=⟨h.out _⟩
structure JA(X:Cx)(es:-υ)(t:TA):Prop where
 out:∀(pos:Ε)(pins:ax)(s:ο)(σ:St)(H:Hp)(Q:-V->Hp->Prop),Inv X pins σ H s->t σ H Q->ρ (ς X.prog X.w) X.A (spliced (backTo pos (starEach es X.env))) (AP X pins σ Q) X.xe s
instance {X:Cx} {es:-υ} {t:TA}:CoeFun (JA X es t) (λ_=>∀(pos:Ε)(pins:ax)(s:ο)(σ:St)(H:Hp)(Q:-V->Hp->Prop),Inv X pins σ H s->t σ H Q->ρ (ς X.prog X.w) X.A (spliced (backTo pos (starEach es X.env))) (AP X pins σ Q) X.xe s):=⟨JA.out⟩
structure JS(X:Cx)(st:χ)(t:TS):Prop where
 out:∀(pins:ax)(s:ο)(σ:St)(H:Hp)(D:Ends),Inv X pins σ H s->t D σ H->ρ (ς X.prog X.w) X.A (exec st X.env) (SP X pins D) X.xe s
instance {X:Cx} {st:χ} {t:TS}:CoeFun (JS X st t) (λ_=>∀(pins:ax)(s:ο)(σ:St)(H:Hp)(D:Ends),Inv X pins σ H s->t D σ H->ρ (ς X.prog X.w) X.A (exec st X.env) (SP X pins D) X.xe s):=⟨JS.out⟩
structure b3(X:Cx)(st:-χ)(t:TS):Prop where
 out:∀(pins:ax)(s:ο)(σ:St)(H:Hp)(D:Ends),Inv X pins σ H s->t D σ H->ρ (ς X.prog X.w) X.A (execs st X.env) (SP X pins D) X.xe s
instance {X:Cx} {st:-χ} {t:TS}:CoeFun (b3 X st t) (λ_=>∀(pins:ax)(s:ο)(σ:St)(H:Hp)(D:Ends),Inv X pins σ H s->t D σ H->ρ (ς X.prog X.w) X.A (execs st X.env) (SP X pins D) X.xe s):=⟨b3.out⟩
theorem aX{b:Type}{t:Sem b}{Q c:b->ο->Prop}{M:Model}{A:Β}{E:aJ}{s:ο}(h:ρ M A t Q E s)(d:∀a s,Q a s->c a s):ρ M A t c E s:=Yl h d λ_ _ x=>x
section
variable{X:Cx}
def fu(i:Nat):TE:=λa H Q=>∃v,a[i]?=ζ (ζ v)/\Q v H
def tC(v:V):TE:=λ_ H Q=>Q v H
theorem Am{i:Nat}{x:π}{pos:Ε}(k:X.N[i]?=ζ x)(n:nz X.env.scope x)(hd: ~~~(bB x))(g: ~~~((x==("__classdict__" : π))=ι)):JE X (.Name x pos) (fu i):=by
 calc⟨?_⟩;ext f s o H Q I h;let⟨v,e,h⟩:=h;let⟨m,p,q⟩:=I.loc;let⟨u,r,l⟩:=q i x v k e n;let b:EP X f o Q u s:=⟨v,H,I,r,h⟩;rcases l with⟨d,t⟩|⟨d,c,j,a⟩
 .exact q4k (wpAny_loadName_local I.ok.kind d p t b) hd
 .rcases d with d|d
  .exact q4k (wpAny_loadName_cell I.ok.kind d j a b) hd
  .calc q4k (wpAny_loadName_free I.ok.kind d j a b g) hd
theorem jw{i j pos}:JE X (.Constant (.int i) j pos) (tC (.int i)):=⟨λ_ _ _ H _ I h=>wpAny_Constant_int ⟨.int i,H,I.tok _,⟨_,Y⟩,h⟩⟩
theorem uF{b j pos}:JE X (.Constant (.bool b) j pos) (tC (.bl b)):=⟨λ_ _ _ H _ I h=>Constant_bool ⟨.bl b,H,I,Y,h⟩⟩
theorem IS{j pos}:JE X (.Constant .none j pos) (tC .non):=⟨λ_ _ _ H _ I h=>Constant_none ⟨.non,H,I,Y,h⟩⟩
theorem rg{x j pos}:JE X (.Constant (.str x) j pos) (tC (.str x)):=⟨λ_ _ _ H _ I h=>Calls.Constant_str ⟨.str x,H,I.tok _,⟨_,Y⟩,h⟩
⟩
def Gl(X:Cx)(x:π):Prop:=X.env.kindOf x=ζ .globalImplicit
theorem rh{E:aJ}{a:ax}{s:ο}{b:St}{H:Hp}{x:π}{u:ν}{pos:Ε}{Q:aJ}(I:Inv X a b H s)(c:Gl X x)(d:X.mg x=ζ u)(h:Q u s)
  (hd: ~~~(bB x)):ρ (ς X.prog X.w) X.A (eval (.Name x pos) X.env) Q E s :=
 q0_ I.ok.kind c (Calls.loadGlobal_global (by rw[I.ok.glob];calc I.mod.glob.keeps I.bk) d h) hd
theorem lh{E:aJ}{a:ax}{s:ο}{b:St}{H:Hp}{x:π}{u:ν}{pos:Ε}{Q:aJ}(I:Inv X a b H s)(c:Gl X x)(d:X.mg x=η)(e:bootBuiltins x=ζ u)(h:Q u s)
  (hn:x≠"__name__" := by decide) (hd: ~~~(bB x)):ρ (ς X.prog X.w) X.A (eval (.Name x pos) X.env) Q E s:=by
 let⟨i,f,g⟩:=I.mod.blt;calc q0_ I.ok.kind c (Calls.loadGlobal_builtin (by rw[I.ok.glob];calc I.mod.glob.keeps I.bk) d (by rw[I.ok.blt];calc f.keeps I.bk) ((g x hn).trans e) h) hd
theorem uG{x:π}{v:V}{u:ν}{pos:Ε}(a:Gl X x)(b:X.mg x=ζ u)(r:RelV v u)(hd: ~~~(bB x)):JE X (.Name x pos) (tC v):=⟨λ_ _ _ H _ I h=>rh I a b ⟨v,H,I,r,h⟩ hd⟩
theorem An{x:π}{v:V}{u:ν}{pos:Ε}(a:Gl X x)(b:X.mg x=η)(c:bootBuiltins x=ζ u)(r:RelV v u)(hn:x≠"__name__" := by decide)(hd: ~~~(bB x)):JE X (.Name x pos) (tC v):=⟨λ_ _ _ H _ I h=>lh I a b c ⟨v,H,I,r,h⟩ hn hd
⟩
variable{a b:υ}{ta tb:TE}{pos:Ε}
structure JC(X:Cx)(op:CmpOp)(a b:υ)(t:TE):Prop where
 out:∀(pins:ax)(s:ο)(σ:St)(H:Hp)(Q:VK),Inv X pins σ H s->t σ H Q →
  ρ (ς X.prog X.w) X.A (eval a X.env) (λv s₁=>ρ (ς X.prog X.w) X.A (eval b X.env) (λu s₂=>ρ (ς X.prog X.w) X.A (compareOp op v u) (EP X pins σ Q) X.xe s₂) X.xe s₁) X.xe s
instance {X:Cx} {op:CmpOp} {a b:υ} {t:TE}:CoeFun (JC X op a b t) (λ_=>∀(pins:ax)(s:ο)(σ:St)(H:Hp)(Q:VK),Inv X pins σ H s->t σ H Q->ρ (ς X.prog X.w) X.A (eval a X.env) (λv s₁=>ρ (ς X.prog X.w) X.A (eval b X.env) (λu s₂=>ρ (ς X.prog X.w) X.A (compareOp op v u) (EP X pins σ Q) X.xe s₂) X.xe s₁) X.xe s):=⟨JC.out⟩
theorem IT(b:υ){op:CmpOp}(h:op≠.In)(a:op≠.NotIn):behindInMarks op b=ι:=by
 let c:(op==CmpOp.In)=ι:=by cases op<;>first|rfl|exact absurd Y h
 let d:(op==CmpOp.NotIn)=ι:=by cases op<;>first|rfl|exact absurd Y a
 cases b<;>simp[behindInMarks,c,d]
def oH(ta:TE):TE:=λa H Q=>ta a H λx b=>Q (.bl (μ (x=.non))) b
theorem RelV.jx{x:V}{v:ν}(r:RelV x v):(v==XY)=μ (x=.non):=by
 cases x with
 |non=>cases r;rfl
 |bl _=>cases r;rfl
 |int _=>let⟨t,rfl⟩:=r;rfl
 |str _=>let⟨t,rfl⟩:=r;rfl
 |byt _=>let⟨t,rfl⟩:=r;rfl
 |flt _=>let⟨t,rfl⟩:=r;rfl
 |ref _=>cases r;rfl
 |ty _=>cases r;rfl
theorem IU{j b}(d:JE X a ta):JC X .Is a (.Constant .none j b) (oH ta):=by
 calc⟨λc s e H Q I h=>aX (d c s e H _ I h) λv l ⟨x,f,g,i,k⟩↦Constant_none (is_none_gen ⟨.bl _,f,g,by rw[i.jx];rfl,k⟩)⟩
def tB(t:TE):TT:=λa H Q=>t a H λx b=>∃c,x=.bl c/\Q c b
theorem Ao{op:CmpOp}{t:TE}(h:JC X op a b t)(f:behindInMarks op b=ι:=by first|exact IT _ (by decide) (by decide)|rfl):JT X (.Compare a [op] [b] pos) (tB t):=by
 calc⟨λe s g H Q I i=>q2c (aX (h e s g H _ I i) λv o f=>aX f λu p j=>aX j λc r ⟨x,k,l,m,n⟩=>?_) f⟩;let⟨d,rfl,q⟩:=n;cases m
 calc Yu ⟨k,l,q⟩
theorem uH{e:υ}{t:TE}(h:JE X e t)(he:‹∀a,isTrue e X.env a=(do let v <- a;standAt e.pos;holding [v] (truthy v))›):JT X e (tB t):=by
 calc⟨λb s c H Q I f=>isTrue_plain (aX (h b s c H _ I f) λv l ⟨x,g,i,j,k⟩=>?_) (he _)⟩;let⟨d,rfl,q⟩:=k;cases j
 calc Yu ⟨g,i,q⟩
variable{tA rj:TT}{rest:-υ}
def oJ(t u:TT):TT:=λa H Q=>t a H λc b=>if c=θ then u a b Q else Q ι b
def Ap(t u:TT):TT:=λa H Q=>t a H λc b=>if c=θ then Q θ b else u a b Q
def uI(t:TT):TT:=λa H Q=>t a H λc b=>Q (!c) b
theorem IV(d:JT X a tA):JW X (.BoolOp .And [a] pos) tA:=by
 refine⟨λg b s f H Q I h=>isTrue_and (aX (d b s f H Q I h) λc i e=>?_)⟩
 cases c with
 |true=>exact isTrue_and_nil e
 |false=>calc e
theorem Aq(d:JT X a tA):JW X (.BoolOp .Or [a] pos) tA:=by
 refine⟨λg b s f H Q I h=>isTrue_or (aX (d b s f H Q I h) λc i e=>?_)⟩
 cases c with
 |false=>exact isTrue_or_nil e
 |true=>calc e
theorem IW(j:JT X a tA)(k:JW X (.BoolOp .And (b::rest) pos) rj):JW X (.BoolOp .And (a::b::rest) pos) (oJ tA rj):=by
 refine⟨λl d s e H Q I h=>isTrue_and (aX (j d s e H _ I h) ?_)⟩;ext c m ⟨f,g,i⟩
 cases c with
 |true=>exact k l d m e f Q g i
 |false=>calc⟨f,g,i⟩
theorem uJ(j:JT X a tA)(k:JW X (.BoolOp .Or (b::rest) pos) rj):JW X (.BoolOp .Or (a::b::rest) pos) (Ap tA rj):=by
 refine⟨λl d s e H Q I h=>isTrue_or (aX (j d s e H _ I h) ?_)⟩;ext c m ⟨f,g,i⟩
 cases c with
 |true=>exact⟨f,g,i⟩
 |false=>calc k l d m e f Q g i
theorem uK(d:JT X a tA):JT X (.UnaryOp .Not a pos) (uI tA):=by
 calc⟨λb s e H Q I h=>isTrue_not (d b s e H (λc f=>Q (!c) f) I h)⟩
def IX(ta tb:TE):TE:=λa H Q=>ta a H λx b=>∃c,x=.bl c/\if c=θ then tb a b Q else Q (.bl ι) b
def IY(ta:TE):TE:=λa H Q=>ta a H λx b=>∃c,x=.bl c/\Q (.bl (!c)) b
theorem IZ{op}{t:TE}(h:JE X a t):JE X (.BoolOp op [a] pos) t:=⟨λb s c H Q I d=>BoolOp_one (h b s c H Q I d)⟩
theorem I_(j:JE X a ta)(k:JE X (.BoolOp .And (b::rest) pos) tb):JE X (.BoolOp .And (a::b::rest) pos) (IX ta tb):=by
 calc⟨λd s f H Q I h=>BoolOp_and (aX (j d s f H _ I h) ?_)⟩;ext v l ⟨x,g,i,m,e⟩;let⟨c,rfl,e⟩:=e;cases m
 refine Yu ?_
 cases c with
 |true=>exact k d l f g Q i e
 |false=>calc⟨.bl ι,g,i,Y,e⟩
theorem Ja(e:JE X a ta):JE X (.UnaryOp .Not a pos) (IY ta):=by
 calc⟨λb s f H Q I h=>UnaryOp_ (aX (e b s f H _ I h) ?_)⟩;ext v k ⟨x,g,i,j,d⟩;let⟨c,rfl,d⟩:=d;cases j
 calc not_of (Yu ⟨.bl (!c),g,i,Y,d⟩)
def Ar(t:TT)(ta tb:TE):TE:=λa H Q=>t a H λc b=>if c=θ then ta a b Q else tb a b Q
theorem uL{c:υ}(l:JT X c tA)(m:JE X a ta)(n:JE X b tb):JE X (.IfExp c a b pos) (Ar tA ta tb):=by
 refine⟨λe s f H Q I h=>wpAny_IfExp (aX (l e s f H _ I h) ?_)⟩;ext d g ⟨i,j,k⟩
 cases d with
 |true=>exact m e g f i Q j k
 |false=>calc n e g f i Q j k
end
def bf(K:KH)(H:Hp)(a:Z)(xs:-V):Prop :=
 Rd H a (.lst xs) ∨
  ∃(o:Γ)(b:Array ν)(n:Nat),K.lookup a=ζ o/\o.cls=.type "list" /\ o.dict=η/\o.data=.seq b n/\b.size<=sizeLine/\Vals xs b.toList
def bE(K:KH)(H:Hp)(a:Z)(xs:-V):Prop :=
 Rd H a (.tup xs) ∨
  ∃(o:Γ)(b:Array ν)(n:Nat),K.lookup a=ζ o/\o.cls=.type "tuple" /\ o.data=.seq b n/\b.size<=sizeLine/\Vals xs b.toList
meta def uM:ν->Option V
 |.none=>ζ .non
 |.bool b=>ζ (.bl b)
 |.int i _=>ζ (.int i)
 |.str x _=>ζ (.str x)
 |.bytes b _=>ζ (.byt b)
 |.float b _=>ζ (.flt b)
 |.ref a=>ζ (.ref a)
 |.type n=>ζ (.ty n)
 |_=>η
theorem RelV.abs{x:V}{u:ν}(r:RelV x u):uM u=ζ x:=by
 cases x with
 |non=>cases r;rfl
 |bl _=>cases r;rfl
 |int _=>let⟨t,rfl⟩:=r;rfl
 |str _=>let⟨t,rfl⟩:=r;rfl
 |byt _=>let⟨t,rfl⟩:=r;rfl
 |flt _=>let⟨t,rfl⟩:=r;rfl
 |ref _=>cases r;rfl
 |ty _=>cases r;rfl
theorem RelV.inj{x y:V}{u:ν}(r:RelV x u)(q:RelV y u):x=y:=XA (r.abs.symm.trans q.abs)
theorem Vals.inj:∀{xs ys:-V}{us:-ν},Vals xs us->Vals ys us->xs=ys
 |_,_,_,.nil,.nil=>Y
 |_,_,_,.cons r t,.cons a b=>by rw[r.inj a,Vals.inj t b]
section
variable{X:Cx}{pins:ax}{σ:St}{H:Hp}{s:ο}{a:Z}{xs ys:-V}
theorem bf.of{K:KH}(h:H a=ζ (.lst xs)):bf K H a xs:=.inl (.inl h)
theorem bE.of{K:KH}(h:H a=ζ (.tup xs)):bE K H a xs:=.inl (.inl h)
theorem Inv.list(I:Inv X pins σ H s)(h:bf X.K H a xs):∃b:-ν,Vals xs b/\PlainL s.heap a b.toArray/\↑xs<=sizeLine:=by
 rcases h with h|⟨o,b,n,c,d,f,g,i,r⟩
 .let⟨z,b,n,r,e⟩:0121:=h.ok I.aM
  exact⟨b,r,(zI2 _ n ⟨e,Y,Y,Y⟩),z⟩
 .refine⟨b.toList,r,(zI2 o n ⟨I.dY a o c,d,f,by simpa using g⟩),?_⟩
  let e:=↑r;erw[Xa] at e;symm
theorem Inv.tuple(I:Inv X pins σ H s)(h:bE X.K H a xs):∃b:-ν,Vals xs b/\IsTup s.heap a b.toArray/\↑xs<=sizeLine:=by
 rcases h with h|⟨o,b,n,c,d,f,g,r⟩
 .let⟨z,b,r,p⟩:=h.ok I.aM
  exact⟨b,r,p,z⟩
 .refine⟨b.toList,r,⟨o,I.dY a o c,d,n,by simpa using f⟩,?_⟩
  let e:=↑r;erw[Xa] at e;symm
theorem Inv.gx(I:Inv X pins σ H s)(h:bf X.K H a xs)(h':bf X.K H a ys):xs=ys:=by
 let⟨g,r,⟨o,n,e,_,_,d⟩,_⟩:=I.list h;let⟨b,i,⟨o',j,c,_,_,f⟩,_⟩:=I.list h';rw[e] at c;cases c;rw[d] at f;injection f with d1 _;let:=by simpa using congrArg q5s d1
 subst this;calc r.inj i
theorem Inv.fL(I:Inv X pins σ H s)(h:bE X.K H a xs)(h':bE X.K H a ys):xs=ys:=by
 let⟨g,r,⟨o,e,_,n,d⟩,_⟩:=I.tuple h;let⟨b,i,⟨o',c,_,j,f⟩,_⟩:=I.tuple h';rw[e] at c;cases c;rw[d] at f;injection f with d1 _;let:=by simpa using congrArg q5s d1
 subst this;calc r.inj i
end
meta abbrev Cx.fw(X:Cx)(E:aJ):Cx:={X with xe:=E}
meta abbrev Cx.jy(X:Cx):Cx:=X.fw λ_ _=>False
theorem Cx.Ok.fw{X:Cx}(a:X.Ok)(E:aJ):(X.fw E).Ok :=
 ⟨a.mod,a.kind,a.glob,a.blt,a.above,a.inj,a.has,a.km,a.hd,a.frames,a.lV,a.oF,a.bs,a.ja,a.fX,a.gW,a.cY,a.ju⟩
theorem Cx.Ok.cN{X:Cx}{E:aJ}(a:(X.fw E).Ok):X.Ok :=
 ⟨a.mod,a.kind,a.glob,a.blt,a.above,a.inj,a.has,a.km,a.hd,a.frames,a.lV,a.oF,a.bs,a.ja,a.fX,a.gW,a.cY,a.ju⟩
section
variable{X:Cx}{pins:ax}{σ:St}{H:Hp}{s:ο}{E:aJ}
theorem Inv.fw(I:Inv X pins σ H s)(E:aJ):Inv (X.fw E) pins σ H s:=⟨I.ok.fw E,I.os,I.bare,I.base,I.loc,I.cell,I.free,I.bI,I.pin,I.aM,I.len⟩
theorem Inv.cN(I:Inv (X.fw E) pins σ H s):Inv X pins σ H s:=⟨I.ok.cN,I.os,I.bare,I.base,I.loc,I.cell,I.free,I.bI,I.pin,I.aM,I.len⟩
theorem SP.cN{D:Ends}{f:Flow}{s':ο}(h:SP (X.fw E) pins D f s'):SP X pins D f s':=by
 cases f with
 |next=>let⟨a,b,I,q⟩:=h;exact⟨a,b,I.cN,q⟩
 |brk=>let⟨a,b,I,q⟩:=h;exact⟨a,b,I.cN,q⟩
 |cont=>let⟨a,b,I,q⟩:=h;exact⟨a,b,I.cN,q⟩
 |ret u=>let⟨v,a,b,I,r,q⟩:32:=h;calc(zI3 v a b ⟨I.cN,r,q⟩)
theorem b3.jy{st:-χ}{t:TS}(h:b3 X.jy st t):b3 X st t:=⟨λa s b H D I c =>
 Yl (h a s b H D (I.fw _) c) (λ_ _ q=>q.cN) λ_ _ z=>Xu z⟩
end
section
variable{X:Cx}{st:χ}{rest:-χ}{t u:TS}{e:υ}{te:TE}{pos:Ε}
def Jb:TS:=λD a H=>D.nx a H
def oK(t u:TS):TS:=λD a H=>t {D with nx:=u D} a H
theorem ig:b3 X [] Jb:=⟨λ_ _ a H _ I h=>q0e ⟨a,H,I,h⟩⟩
theorem nA(c:JS X st t)(d:b3 X rest u):b3 X (st::rest) (oK t u):=by
 refine⟨λa s e H D I h=>q3G (aX (c a s e H {D with nx:=u D} I h) λf g q=>?_)⟩
 cases f with
 |next =>
  let⟨b,i,j,q⟩:21:=q;exact d a g b i D j q
 |ret v=>exact q
 |brk=>exact q
 |cont=>calc q
theorem lj(b:JS X st t):b3 X [st] t:=by
 refine⟨λa s c H D I h=>q3G (aX (b a s c H D I h) λf d q=>?_)⟩
 cases f with
 |next=>exact q0e q
 |ret v=>exact q
 |brk=>exact q
 |cont=>calc q
theorem Inv.quiet{a:ax}{b:St}{H:Hp}{s:ο}(I:Inv X a b H s):interactive X.env=ι:=by simp[interactive,I.ok.kind]
def Jc(b:TE):TS:=λD a H=>b a H λ_ c=>D.nx a c
theorem Jd(he:JE X e te)(c:‹swapsWith e η pos.line X.env=pure ι›):JS X (.Expr e pos) (Jc te):=by
 calc⟨λa s b H D I h=>wpAny_Expr_any (aX (he a s b H _ I h) λv i ⟨x,d,f,j,g⟩↦(zI2 b d ⟨f,g⟩)) I.quiet c⟩
def oM(a:TE):TS:=λD b H=>a b H D.rt
theorem oN(he:JE X e te):JS X (.Return (ζ e) pos) (oM te):=by
 calc⟨λa s b H D I h=>wpAny_Return_some (aX (he a s b H _ I h) λv i ⟨x,c,d,f,g⟩↦(zI3 x b c ⟨d,f,g⟩))⟩
def uN(c:TT)(t u:TS):TS:=λD a H=>c a H λb d=>if b=θ then t D a d else u D a d
theorem As{c:υ}{a b:-χ}{g:TT}(m:JT X c g)(n:b3 X a t)(o:b3 X b u):JS X (.If c a b pos) (uN g t u):=by
 refine⟨λe s f H D I h=>wpAny_If (aX (m e s f H _ I h) ?_)⟩;ext d i ⟨j,k,l⟩
 cases d with
 |true=>exact n e i f j D k l
 |false=>calc o e i f j D k l
end
abbrev TG:=V->St->Hp->(St->Hp->Prop)->Prop
abbrev jz:=-V->St->Hp->(St->Hp->Prop)->Prop
structure JG(X:Cx)(target:υ)(t:TG):Prop where
 out:∀(pins:ax)(s:ο)(σ:St)(H:Hp)(v:V)(u:ν)(Q:St->Hp->Prop),Inv X pins σ H s->RelV v u->t v σ H Q →
  ρ (ς X.prog X.w) X.A (assign target X.env u) (λ_ s'=>∃σ' H',Inv X pins σ' H' s'/\Q σ' H') X.xe s
instance {X:Cx} {target:υ} {t:TG}:CoeFun (JG X target t) (λ_=>∀(pins:ax)(s:ο)(σ:St)(H:Hp)(v:V)(u:ν)(Q:St->Hp->Prop),Inv X pins σ H s->RelV v u->t v σ H Q->ρ (ς X.prog X.w) X.A (assign target X.env u) (λ_ s'=>∃σ' H',Inv X pins σ' H' s'/\Q σ' H') X.xe s):=⟨JG.out⟩
structure ij(X:Cx)(ts:-υ)(t:jz):Prop where
 out:∀(pins:ax)(s:ο)(σ:St)(H:Hp)(vs:-V)(us:-ν)(Q:St->Hp->Prop),Inv X pins σ H s->Vals vs us->t vs σ H Q →
  ρ (ς X.prog X.w) X.A (assignInOrder ((assignEach ts X.env).map (·.2)) us) (λ_ s'=>∃σ' H',Inv X pins σ' H' s'/\Q σ' H') X.xe s
instance {X:Cx} {ts:-υ} {t:jz}:CoeFun (ij X ts t) (λ_=>∀(pins:ax)(s:ο)(σ:St)(H:Hp)(vs:-V)(us:-ν)(Q:St->Hp->Prop),Inv X pins σ H s->Vals vs us->t vs σ H Q->ρ (ς X.prog X.w) X.A (assignInOrder ((assignEach ts X.env).map (·.2)) us) (λ_ s'=>∃σ' H',Inv X pins σ' H' s'/\Q σ' H') X.xe s):=⟨ij.out⟩
abbrev lW:=V->V->V->Hp->(Hp->Prop)->Prop
def oO(X:Cx)(t:lW):Prop :=
 ∀(a:ax)(s:ο)(b:St)(H:Hp)(o i v:V)(c d u:ν)(Q:Hp->Prop),Inv X a b H s->RelV o c->RelV i d->RelV v u->t o i v H Q →
  ρ (ς X.prog X.w) X.A (setItem c d u) (λ_ f=>∃e,Inv X a b e f/\Q e) X.xe s
section
variable{X:Cx}{pos:Ε}
def ik(i:Nat):TG:=λv a H Q=>Q (a.set i (ζ v)) H
theorem uO{i:Nat}{x:π}(b:X.N.Nodup)(c:X.N[i]?=ζ x)(d:Loc X.env.scope x)(e:autoParam (cW X x) qz1._auto_1):JG X (.Name x pos) (ik i):=by
 calc⟨λa s g H v u Q I r h=>q3g (q_ I b c d r (λj f=>(zI2 _ H ⟨f,h⟩)) e)⟩
def uP:jz:=λa b H Q=>a=[]/\Q b H
def Je(t:TG)(u:jz):jz:=λb c H Q=>∃v r,b=v::r/\t v c H λa d=>u r a d Q
theorem ip:ij X [] uP:=by
 calc⟨?_⟩;ext a s b H c d Q I r h;let⟨e,h⟩:=h;calc assignInOrder_nil (zI2 b H ⟨I,h⟩)
theorem uQ{e:υ}{es:-υ}{t:TG}{u:jz}(d:JG X e t)(f:ij X es u)
  (g:‹(assignEach (e::es) X.env).map (·.2)=assign e X.env::(assignEach es X.env).map (·.2)›):ij X (e::es) (Je t u):=by
 calc⟨?_⟩;ext a s i H p q Q I r h;let⟨v,w,j,h⟩:=h;subst j
 cases r with
 |cons r k =>
  rw[g];calc assignInOrder_cons (aX (d a s i H _ _ _ I r h) λ_ l b=>by let⟨c,m,n,o⟩:21:=b;calc f a l c m _ _ Q n k o)
def uR(K:KH)(n:Nat)(t:jz):TG:=λv c H Q=>∃a b,v=.ref a/\bE K H a b/\↑b=n/\t b c H Q
theorem Au{es:-υ}{k:Nat}{t:jz}{n:Nat}(j:X.calm=θ)(h:ij X es t)
  (hn:‹↑(assignEach es X.env)=n›) (d:‹(assignEach es X.env).findIdx? (·.1)=η›):JG X (.Tuple es k pos) (uR X.K n t):=by
 calc⟨?_⟩;ext c s g H v u Q I r f;let⟨a,l,m,p,q,f⟩:=f;subst m;cases r
 let⟨w,i,x,B⟩:12:=I.tuple p;calc assign_Tuple_tuple (I.ok.hd j) x (by simp[hn,<-q,i.length]) d λy z=>?_;let A:Inv X c g H {s with heap:=y}:=I.kept  λb o e=>z b o (W8 (Vo e)) e;calc h c _ g H l _ Q A i⁻¹ f
def oP(b c:TE)(t:lW):TG:=λv a H Q=>b a H λo d=>c a d λi e=>t o i v e λf=>Q a f
theorem Av{o i:υ}{e f:TE}{t:lW}(g:JE X o e)(j:JE X i f)(k:oO X t)
  (J:‹∀v,assign (.Subscript o i pos) X.env v=(do
   let ov <- holding [v] (eval o X.env)
   let b <- holding [v,ov] (eval i X.env)
   standAt pos
   holding [v,ov,b] (setItem ov b v)
   release [v,ov,b] [])›):JG X (.Subscript o i pos) (oP e f t):=by
 calc⟨λa s d H v u Q I r h=>dV (Xy (aX (g a s d H _ I h) λl m ⟨x,n,p,q,w⟩↦dV (Xy (aX (j a m d n _ p w) λb z ⟨y,A,B,C,D⟩↦dV (Zw (dV (Xy (aX (k a z d A x y v l b u _ B q C r D) λ_ K c=>by let⟨E,F,G⟩:11:=c;calc wpAny_release (zI2 d E ⟨F,G⟩)))))))))⟩
def dm(b:TE)(g:TG):TS:=λD a H=>b a H λx c=>g x a c D.nx
theorem uS{b e:υ}{c:TE}{g:TG}(he:JE X e c)(f:JG X b g)(i:‹swapsWithSole [b] e pos.line X.env=pure ι›)(j:‹swappedStores [b] e X.env=pure η›)
  (k:‹(assignEach [b] X.env).map (·.2)=[assign b X.env]›):JS X (.Assign [b] e pos) (dm c g):=by
 calc⟨λa s d H D I h=>wpAny_Assign_stores (aX (he a s d H _ I h) λv l ⟨x,m,n,o,p⟩=>?_) i j⟩;rw[k];calc aX (f a l d m x v _ n o p) λ_ r q=>q
theorem ko{i:Nat}{x:π}{e:υ}{c:TE}{a:Ε}(d:X.N.Nodup)(f:X.N[i]?=ζ x)(g:Loc X.env.scope x)(he:JE X e c)(j:‹swapsWith e (ζ (.Name x a)) pos.line X.env=pure ι›)(k:autoParam (cW X x) qz1._auto_1):
  JS X (.Assign [.Name x a] e pos) (dm c (ik i)):=by
 calc⟨λb s l H D I h=>wpAny_Assign_Name (aX (he b s l H _ I h) λv r ⟨y,m,n,o,p⟩↦q_ n d f g o (λt q=>(zI2 _ m ⟨q,p⟩)) k) j⟩
def Jf(c:TT)(tb:TS):TS:=λD a H=>∃W:Nat->St->Hp->Prop,(∃m,W m a H)/\∀m a H,W m a H →
 c a H λb e=>if b=θ then ∃N:St->Hp->Prop,(∀d f,N d f->∃g,g<m/\W g d f)/\tb {D with nx:=N,ct:=N,bk:=D.nx} a e else D.nx a e
theorem Jg{c g x tb}(y:PassesOwn (ς X.prog X.w) X.A X.env X.xe)(G:JT X c x)(J:b3 X g tb):JS X (.While c g [] pos) (Jf x tb):=by
 calc⟨?_⟩;ext a s K H D I h;let⟨W,⟨L,M⟩,i⟩:=h;calc wpAny_While (codeAny_whileLoop (λn O=>∃j z,Inv X a j z O/\W n j z) ?_ L ⟨K,H,I,M⟩);ext n P k;let⟨e,B,Q,R⟩:21:=k;refine Zp y (aX (G a P e B _ Q (i n e B R)) ?_);ext b S ⟨C,E,m⟩
 cases b with
 |true =>
  let⟨N,F,m⟩:=m;refine Zp y (aX (J a S e C _ E m) λf T o=>?_)
  cases f with
  |next =>
   let⟨d,l,p,q⟩:=o;let⟨r,t,u⟩:=F d l q;exact⟨r,t,d,l,p,u⟩
  |cont =>
   let⟨d,l,p,q⟩:=o;let⟨r,t,u⟩:=F d l q;exact⟨r,t,d,l,p,u⟩
  |brk=>exact o
  |ret v=>exact o
 |false =>
  calc q0e ⟨e,C,E,m⟩
end
structure It where
 go:Nat->Hp->Prop
 nB:Nat->Hp->V->Hp->Prop
 stop:Nat->Hp->Prop
def bx(X:Cx)(a:ax)(H:Hp)(b:Z):Prop :=
 H b=η/\b≠X.env.locals/\b∉X.fs/\(b∈X.ex\/⇑X.s₀<=b)/\(∀x c,X.env.cells.lookup x=ζ c->c≠b)/\∀p∈X.pn++a,p.1≠b
theorem Inv.fz{X a}{f:St}{H H' s}{b:Z}(I:Inv X a f H s)(d:⇑s<=b)(hn:H' b=η):bx X a H' b:=by
 refine⟨hn,Zd (Xe I.lt d),I.uD d,.inr (XQ I.sz d),λx c e z=>?_,λp g z=>?_⟩
 .let⟨v,q⟩:=I.cell x c e
  exact absurd (Xe q.lt (by rw[z];calc d)) (Zf _)
 .calc absurd (Xe (Vo (I.pin p g).1) (by rw[z];calc d)) (Zf _)
structure Turn(P:ψ)(w:ω)(K:KH)(tg:υ)(J:It)(fp:-Z)(it:Z)(tn:Nat->Α->Prop):Prop where
 mem:it∈fp
 obj:∀i h,tn i h->∀b∈fp,∃o,h.get? b=ζ o/\∀v,o.data≠.cell v
 keep:∀i h h',tn i h->(∀b∈fp,∀o,h.get? b=ζ o->h'.get? b=ζ o)->tn i h'
 item:∀(X:Cx),X.prog=P->X.w=w->X.K=K->X.calm=θ->∀(i:Nat)(pins:ax)(s:ο)(σ:St)(H:Hp)(E:aJ),Inv X pins σ H s->(∀b∈fp,bx X pins H b)->tn i s.heap->J.go i H →
  ρ (ς P w) X.A (pyNext (.ref it)) (λr s1=>∃u,r=ζ u ∧
   ρ (ς P w) X.A (letOwnedTupleGo tg (.ref it) u) (λ_ s2=>∃x H',Inv X pins σ H' s2/\RelV x u/\J.nB i H x H'/\tn (i+1) s2.heap/\∀b∈fp,H' b=η) E s1) E s
 done:∀(X:Cx),X.prog=P->X.w=w->X.K=K->X.calm=θ->∀(i:Nat)(pins:ax)(s:ο)(σ:St)(H:Hp)(E:aJ),Inv X pins σ H s->(∀b∈fp,bx X pins H b)->tn i s.heap->J.stop i H →
  ρ (ς P w) X.A (pyNext (.ref it)) (λr s1=>r=η/\Inv X pins σ H s1) E s
 self:∀(A:Β)(i:Nat)(s:ο)(Q:aJ)(E:aJ),tn i s.heap->Q (.ref it) s->ρ (ς P w) A (pyIter (.ref it)) Q E s
abbrev TI:=St->Hp->(It->Hp->Prop)->Prop
def uT(X:Cx)(a:ax)(i:St)(j:υ)(R:It->Hp->Prop)(c:ν)(e:ο):Prop :=
 ∃(f:Z)(g:-Z)(h:Nat->Α->Prop)(J:It)(d:Hp),c=.ref f/\Inv X a i d e/\Turn X.prog X.w X.K j J g f h/\h 0 e.heap/\(∀b∈g,bx X a d b)/\R J d
structure JI(X:Cx)(tg iter:υ)(wi:TI):Prop where
 out:∀(pins:ax)(s:ο)(σ:St)(H:Hp)(R:It->Hp->Prop),Inv X pins σ H s->wi σ H R →
  ρ (ς X.prog X.w) X.A (eval iter X.env) (λv s1=>ρ (ς X.prog X.w) X.A (pyIter v) (uT X pins σ tg R) X.xe s1) X.xe s
instance {X:Cx} {tg iter:υ} {wi:TI}:CoeFun (JI X tg iter wi) (λ_=>∀(pins:ax)(s:ο)(σ:St)(H:Hp)(R:It->Hp->Prop),Inv X pins σ H s->wi σ H R->ρ (ς X.prog X.w) X.A (eval iter X.env) (λv s1=>ρ (ς X.prog X.w) X.A (pyIter v) (uT X pins σ tg R) X.xe s1) X.xe s):=⟨JI.out⟩
theorem uU {M A} {E:aJ} {s b c u o n vs} {Q:Unit->ο->Prop} (d:s.heap.get? c=ζ o) (e:o.cls = .type n) (hd:o.data = .fields vs)
  (hn:["enumerate", "zip", "dict_itemiterator", "dict_reverseitemiterator", "odict_iterator", "itertools.zip_longest", "itertools.pairwise"].contains n=ι) (a:Q () s):ρ M A (letOwnedTupleGo b (.ref c) u) Q E s:=by
 cases b<;>first
  | exact nF a
  | (cases u<;>first
    | exact nF a
    | (refine dV (q4j d ?_)
       rw[e,hd];show ρ M A (if (["enumerate", "zip", "dict_itemiterator", "dict_reverseitemiterator", "odict_iterator", "itertools.zip_longest", "itertools.pairwise"].contains n && vs[0]? == ζ (rawInt _))=θ then _ else _) Q E s;rw[Vq (by ext h;rw[hn,q4l] at h;cases h)]
       calc nF a))
meta def Aw(K:KH)(a:Z):It :=
 ⟨λi H=>∃b x,bf K H a b/\b[i]?=ζ x,λi H x c=>c=H/\∀b,bf K H a b->b[i]?=ζ x,λi H=>∃b,bf K H a b/\↑b<=i⟩
meta def Ax(K:KH)(a:Z):It :=
 ⟨λi H=>∃b x,bE K H a b/\b[i]?=ζ x,λi H x c=>c=H/\∀b,bE K H a b->b[i]?=ζ x,λi H=>∃b,bE K H a b/\↑b<=i⟩
meta def oQ(a:Int)(n:Nat):It:=⟨λi _=>i<n,λi H x b=>b=H/\x=.int (a+i),λi _=>n<=i⟩
theorem Jh{P w K R} a l:Turn P w K R (Aw K a) [l] l (λi h=>h.IsListIter l a i) where
 mem:=by simp
 obj:=λi h f b j=>by
  let e:=by simpa using j
  subst e;let⟨o,e,c,d⟩:12:=f;exact⟨o,e,λv z=>by rw[d] at z;cases z⟩
 keep:=λi h r f k=>f.at λo e=>k l (by simp) o e
 item:=by
  ext X t y A O i g s Q H E I n f B;subst t y A;let⟨S,x,q,C⟩:21:=B;let⟨D,F,p,T⟩:12:=I.list q;let⟨u,U,V⟩:=F.get C;let⟨G,J,W,L,M,N⟩:05:=n l (by simp);calc wpAny_pyNext_list_item f p.isList  U⁻¹ λr m Y=>?_;let Z:Inv X g Q H {s with heap:=r}:=I.turned  (λb o j e=>(Y.2 b j).trans e) G J L M N;let⟨o,e,c,d⟩:12:=id m;exact⟨u,rfl,uU  e c d (by decide) (zI2 x H ⟨Z,V,⟨rfl,λys hy=>by rw[I.gx hy q];calc C⟩,m,λb j=>(n b j).1⟩)⟩
 done:=by
  ext X t y A O i g s Q H E I n f B;subst t y A;let⟨S,q,C⟩:=B;let⟨D,F,p,T⟩:12:=I.list q;let⟨G,J,W,L,M,N⟩:05:=n l (by simp);let hl:=↑F;exact wpAny_pyNext_list_end (I.ok.hd O) f p.isList (by simp;symm) λr eb=>⟨rfl,I.turned  (λb o j e=>eb b o j e) G J L M N⟩
 self:=λ_ _ _ _ _ f h=>wpAny_pyIter_listiter f h
theorem Ji{P w K R} a l:Turn P w K R (Ax K a) [l] l (λi h=>h.IsTupleIter l a i) where
 mem:=by simp
 obj:=λi h f b j=>by
  let e:=by simpa using j
  subst e;let⟨o,e,c,d⟩:12:=f;exact⟨o,e,λv z=>by rw[d] at z;cases z⟩
 keep:=λi h r f k=>f.at λo e=>k l (by simp) o e
 item:=by
  ext X t y A O i g s Q H E I n f B;subst t y A;let⟨S,x,q,C⟩:21:=B;let⟨D,F,p,T⟩:12:=I.tuple q;let⟨u,U,V⟩:=F.get C;let⟨G,J,W,L,M,N⟩:05:=n l (by simp);calc wpAny_pyNext_tuple_item f (p)  U⁻¹ λr m Y=>?_;let Z:Inv X g Q H {s with heap:=r}:=I.turned  (λb o j e=>(Y.2 b j).trans e) G J L M N;let⟨o,e,c,d⟩:12:=id m;exact⟨u,rfl,uU  e c d (by decide) (zI2 x H ⟨Z,V,⟨rfl,λys hy=>by rw[I.fL hy q];calc C⟩,m,λb j=>(n b j).1⟩)⟩
 done:=by
  ext X t y A O i g s Q H E I n f B;subst t y A;let⟨S,q,C⟩:=B;let⟨D,F,p,T⟩:12:=I.tuple q;let⟨G,J,W,L,M,N⟩:05:=n l (by simp);let hl:=↑F;exact wpAny_pyNext_tuple_end (I.ok.hd O) f (p) (by simp;symm) λr eb=>⟨rfl,I.turned  (λb o j e=>eb b o j e) G J L M N⟩
 self:=λ_ _ _ _ _ f h=>wpAny_pyIter_tupleiter f h
theorem Jj{P w K G} d j n:Turn P w K G (oQ j n) [d] d (λi h=>IsRangeIter h d (j+(i:Nat)*1) ((n:Int)-(i:Nat)) 1) where
 mem:=by simp
 obj:=λi h a b f=>by
  let e:=by simpa using f
  subst e
  exact⟨_,a,λv z=>by
   cases z⟩
 keep:=λi h m a k=>k d (by simp) _ a
 item:=by
  ext X B C D p i c s F H E I l a q;subst B C D;let⟨r,u,J,x,y,A⟩:05:=l d (by simp);let W:=Walks.range (prog:=X.prog) (w:=X.w) (I.ok.hd p) d j 1 n;calc W.item i s _ _ q a λv m L M g N=>?_;let⟨t,rfl⟩:1:=M;let O:Inv X c F H {s with heap:=m,toks:=L}:=I.turned (λb o f e=>N b o f⁻¹ e) r u x y A;calc⟨_,Y,uU   g Y Y (by decide) (zI2 (.int (j+i)) H ⟨O,⟨t,?_⟩,⟨Y,Y⟩,g,λb f=>(l b f).1⟩)⟩;rw[q6v]
 done:=by
  ext X B C D p i c s F H E I l a q;let⟨r,u,J,x,y,A⟩:05:=l d (by simp);exact wpAny_pyNext_range_end (I.ok.hd p) a (by let:n<=i:=q;symm) λm Q=>⟨Y,I.turned  (λb o f e=>Q b o f e) r u x y A⟩
 self:=λ_ _ _ _ _ a h=>wpAny_pyIter_rangeiter a h
section
variable{X:Cx}{tg:υ}
theorem Ay{c}{f:St}{H s R}{E:aJ}{a d t u v tk}(I:Inv X c f H s)(h : -(2 ^ 62)<=a)(i:a<2 ^ 62)(j : -(2 ^ 62)<=d)(k:d<2 ^ 62)
  (q:R (oQ a (d-a).toNat) H):ρ (ς X.prog X.w) X.A (pyIter (.ref ⇑s)) (uT X c f tg R) E {s with heap:=s.heap.push {cls:=.type "range",data:=.fields #[.int a t,.int d u,.int 1 v]},toks:=tk}:=by
 calc wpAny_pyIter_range (IsRange.new ..) (small_one h i j k) ?_;let g:Inv X c f H {s with heap:=s.heap.push {cls:=.type "range",data:=.fields #[.int a t,.int d u,.int 1 v]},toks:=tk}:=I.kept λb o e=>mi _ e;refine(zI5 ((s.heap.push {cls:=.type "range",data:=.fields #[.int a t,.int d u,.int 1 v]}).objs.size) ([(s.heap.push {cls:=.type "range",data:=.fields #[.int a t,.int d u,.int 1 v]}).objs.size]) _ _ H ⟨Y,g.kept  λb o e=>mi _ e,Jj _ a (d-a).toNat,?_,λb l=>?_,q⟩)
 .let m:a+(0:Nat)*1=a:=by simp
  let n:(((d-a).toNat))-(0:Nat)=q1F a d 1:=by rw[q4M];split<;>symm
  rw[m,n];exact Vs _ Y
 .let e:b=(s.heap.push {cls:=.type "range",data:=.fields #[.int a t,.int d u,.int 1 v]}).objs.size:=by simpa using l
  subst e;calc g.fz (vr _) (g.aM.fresh (vr _))
def Jk(ta:TA):TI:=λa H R=>ta a H λb c=>∃j:Int,b=[.int j] /\ -(2 ^ 62)<=j/\j<2 ^ 62/\R (oQ 0 j.toNat) c
def Jl(ta:TA):TI:=λa H R=>ta a H λb c=>∃i j:Int,b=[.int i,.int j]/\(-(2 ^ 62)<=i/\i<2 ^ 62 /\ -(2 ^ 62)<=j/\j<2 ^ 62)/\R (oQ i (j-i).toNat) c
theorem Jo{a ta p pos}(d:Gl X "range")(f:X.mg "range" = η)(g:JA X [a] ta)(i:‹starEach [a] X.env=[(ι,eval a X.env)]›):JI X tg (.Call (.Name "range" p) [a] [] pos) (Jk ta):=by
 calc⟨λb s k H R I h=>Call_ (lh I d f boot_range (YP (aX (g pos b s k H _ I h) λu v ⟨w,x,l,m,c⟩=>?_) i Y))⟩;let⟨j,e,c,n,q⟩:=c;subst e
 cases m with
 |cons r o =>
  cases o
  let⟨t,rfl⟩:=r;calc call_range_1 (Ay l ⋯ ⋯ c n q⁻¹)
theorem Jp{a b ta p pos}(k:Gl X "range")(l:X.mg "range" = η)(m:JA X [a,b] ta)(n:‹starEach [a,b] X.env=[(ι,eval a X.env),(ι,eval b X.env)]›)(c:‹starEach [b] X.env=[(ι,eval b X.env)]›):
  JI X tg (.Call (.Name "range" p) [a,b] [] pos) (Jl ta):=by
 calc⟨λd s o H R I h=>Call_ (lh I k l boot_range (YP (aX (m pos d s o H _ I h) λA B ⟨C,D,u,v,f⟩=>?_) (by rw[n,c]) (by rw[c];rfl)))⟩;let⟨i,j,e,⟨f,w,x,y⟩,q⟩:22:=f;subst e
 cases v with
 |cons r g =>
  cases g with
  |cons z g =>
   cases g
   let⟨t,rfl⟩:=r;let⟨E,rfl⟩:=z;calc call_range_2 (Ay u f w x y q)
def uV(f:TI)(g:TG)(tb:TS):TS:=λD a H=>f a H λJ h=>∃W:Nat->Nat->St->Hp->Prop,(∃m,W 0 m a h)/\∀i m a H,W i m a H →
 (J.stop i H/\D.nx a H)\/(J.go i H/\∃N:St->Hp->Prop,(∀b c,N b c->∃e,e<m/\W (i+1) e b c)/\∀x c,J.nB i H x c->g x a c λd j=>tb {D with nx:=N,ct:=N,bk:=D.nx} d j)
meta def oR(a:-Z)(h:Α):-(Z×Γ):=a.filterMap λb=>(h.get? b).map λo=>(b,o)
theorem ro{a h b o}(c:b∈a)(e:h.get? b=ζ o):(b,o)∈oR a h:=q0g.mpr ⟨b,c,by rw[e];rfl⟩
theorem Jq{a h p}(c:p∈oR a h):p.1∈a/\h.get? p.1=ζ p.2:=by
 let⟨b,d,e⟩:=q0g.mp c
 cases q:h.get? b with
 |none=>rw[q] at e;cases e
 |some o =>
  rw[q] at e;let f:=XA e;subst f;calc⟨d,q⟩
theorem Inv.pinned{a}{f:St}{H s c}(I:Inv X a f H s)(i:∀b∈c,bx X a H b)(j:∀b∈c,∃o,s.heap.get? b=ζ o/\∀v,o.data≠.cell v):Inv X (a++oR c s.heap) f H s :=
 I.eP λp k=>(W9.mp k).elim (λz=>I.pin p (Vp _ z)) λz=>by
  let⟨g,e⟩:=Jq z;let⟨l,m,n,_⟩:03:=i p.1 g;let⟨o,h,d⟩:=j p.1 g;rw[e] at h;cases h;calc⟨e,l,m,n,d⟩
theorem Inv.dI{a c}{b:St}{H s}(I:Inv X (a++c) b H s):Inv X a b H s:=I.eP λp d=>I.pin p (Vp _ (Xv _ d))
theorem Az{j C wi g tb pos}(G:PassesOwn (ς X.prog X.w) X.A X.env X.xe)(hc:X.calm=θ)(hi:JI X tg j wi)(hg:JG X tg g)(k:b3 X C tb)
  (hs:‹∀x,foldedSetIterable j X.env x=pure x›):JS X (.For tg j C [] pos) (uV wi g tb):=by
 calc⟨λa s σ H D I h=>wpAny_For (aX (hi a s σ H _ I h) λv s1 h1=>aX h1 λJr s2 h2=>?_) hs⟩;let⟨it,K,tn,J,H2,e,I2,T,V,f2,W,⟨m0,w0⟩,L⟩:5511:=h2;subst e;let l:∀{B},(∀b∈K,B b=η)->∀b∈K,bx X a B b:=λhn b k=>⟨hn b k,(f2 b k).2⟩;calc codeAny_forLoop_any (λn s'=>∃i p B,Inv X a p B s'/\tn i s'.heap/\(∀b∈K,B b=η)/\W i n p B) ?_ m0 (zI3 0 σ H2 ⟨I2,V,λb k=>(f2 b k).1,w0⟩);ext n s3 M;let⟨i,q,U,I3,O,P,w3⟩:33:=M;rcases L i n q U w3 with⟨Q,qn⟩|⟨go,N,hN,R⟩
 .refine Zp G (aX (T.done X rfl rfl rfl hc i a s3 q U X.xe I3 (l P) O Q) ?_);ext r s4 ⟨Y,I4⟩
  subst Y;exact q0e ⟨q,U,I4,qn⟩
 .refine Zp G (aX (T.item X rfl rfl rfl hc i a s3 q U X.xe I3 (l P) O go) ?_);ext r s4 ⟨u,Y,h4⟩
  subst Y;refine Zp G (aX h4 λ_ s5 ⟨x,H5,I5,r5,y5,F,Z⟩=>Zp G (aX (hg _ s5 q H5 x u _ (I5.pinned (l Z) (T.obj _ _ F)) r5 (R x H5 y5)) λ_ s6 ⟨σ6,H6,I6,q6⟩=>Zp G (aX (k _ s6 σ6 H6 _ I6 q6) λf s7 E=>?_)))
  let z:∀{c t},Inv X (a++oR K s5.heap) c t s7->N c t->∃m,m<n/\∃i p B,Inv X a p B s7/\tn i s7.heap/\(∀b∈K,B b=η)/\W i m p B:=λ{c t} y S=>by
   let⟨m',hm,w7⟩:=hN c t S;calc⟨m',hm,i+1,c,t,y.dI,T.keep _ _ _ F λb k o e=>(y.pin (b,o) (Vp _ (Vp _ (ro k e)))).1,λb k=>?_,w7⟩;let⟨o,e,d⟩:=T.obj _ _ F b k;exact(y.pin (b,o) (Vp _ (Vp _ (ro k e)))).2.1
  cases f with
  |next=>let⟨c,t,y,S⟩:21:=E;exact z y S
  |cont=>let⟨c,t,y,S⟩:21:=E;exact z y S
  |brk=>let⟨c,t,y,E⟩:21:=E;exact⟨c,t,y.dI,E⟩
  |ret v=>let⟨x7,c,t,y,r7,E⟩:32:=E;calc(zI3 x7 c t ⟨y.dI,r7,E⟩)
end
abbrev R2:=V->V->Hp->VK->Prop
def dn(X:Cx)(f:ν->ν->Sem ν)(r:R2):Prop :=
 ∀(a:ax)(s:ο)(b:St)(H:Hp)(x y:V)(v u:ν)(Q:VK),Inv X a b H s->RelV x v->RelV y u->r x y H Q →
  ρ (ς X.prog X.w) X.A (f v u) (EP X a b Q) X.xe s
def uW(X:Cx)(f:ν->Sem ν)(r:V->Hp->VK->Prop):Prop :=
 ∀(a:ax)(s:ο)(b:St)(H:Hp)(x:V)(v:ν)(Q:VK),Inv X a b H s->RelV x v->r x H Q →
  ρ (ς X.prog X.w) X.A (f v) (EP X a b Q) X.xe s
def fc(X:Cx)(f:ν)(r:-V->Hp->VK->Prop):Prop :=
 ∀(a:ax)(s:ο)(b:St)(H:Hp)(c:-V)(d:-ν)(Q:VK),Inv X a b H s->Vals c d->r c H Q →
  ρ (ς X.prog X.w) X.A (call f d) (EP X a b Q) X.xe s
def oS(r:R2)(ta tb:TE):TE:=λa H Q=>ta a H λx b=>tb a b λy c=>r x y c Q
def Js(r:V->Hp->VK->Prop)(ta:TE):TE:=λa H Q=>ta a H λx b=>r x b Q
def rI(C:Int->Int->Prop)(g:Int->Int->V):R2:=λx y H Q=>∃i j,x=.int i/\y=.int j/\C i j/\Q (g i j) H
def kr(g:Int->Int->V):R2:=λx y H Q=>∃i j,x=.int i/\y=.int j/\Q (g i j) H
def rU(g:Int->V):V->Hp->VK->Prop:=λx H Q=>∃i,x=.int i/\Q (g i) H
section
variable{X:Cx}{a b c:υ}{ta tb tc:TE}{pos:Ε}
theorem lX(k:JE X a ta)(l:JE X b tb){c s}{d:St}{H}{R:V->V->Hp->Prop}(I:Inv X c d H s)
  (h:ta d H λx j=>tb d j λy H2=>R x y H2) {Q:aJ} {f:ν->ν->Sem ν}
  (n:∀v u i x y H2,Inv X c d H2 i->RelV x v->RelV y u->R x y H2->ρ (ς X.prog X.w) X.A (f v u) Q X.xe i) :
  ρ (ς X.prog X.w) X.A (eval a X.env) (λv e=>ρ (ς X.prog X.w) X.A (eval b X.env) (λu g=>ρ (ς X.prog X.w) X.A (f v u) Q X.xe g) X.xe e) X.xe s:=by
 calc aX (k c s d H _ I h) λv o ⟨x,j,p,q,r⟩↦aX (l c o d j _ p r) λu i ⟨y,m,t,z,B⟩↦n v u i x y m t q z B
theorem lq{op r}(d:dn X (binaryOp op) r)(e:JE X a ta)(f:JE X b tb):JE X (.BinOp a op b pos) (oS r ta tb):=by
 calc⟨λc s g H Q I h=>wpAny_BinOp (lX e f I h λv u i x y j k l m q=>d c i g j x y v u Q k l m q)⟩
theorem Jt{op}{r:V->Hp->VK->Prop}(d:uW X (unaryOp op) r)(e:JE X a ta):JE X (.UnaryOp op a pos) (Js r ta):=by
 calc⟨λb s c H Q I h=>UnaryOp_ (aX (e b s c H _ I h) λv f ⟨x,g,i,j,k⟩↦d b f c g x v Q i j k)⟩
theorem rp{f:ν->ν->Sem ν}{C}{g:Int->Int->Int}
  (a:∀i j t u s (Q:aJ) (E:aJ),C i j->Q (.int (g i j) s.toks) {s with toks:=s.toks+1}->ρ (ς X.prog X.w) X.A (f (.int i t) (.int j u)) Q E s) :
  dn X f (rI C λi j=>.int (g i j)):=by
 ext b s l H x y v u Q I c d h;let⟨i,j,rfl,rfl,e,q⟩:23:=h;let⟨t,rfl⟩:=c;let⟨k,rfl⟩:=d;calc a i j t k s _ _ e ⟨.int (g i j),H,I.tok _,⟨_,Y⟩,q⟩
theorem oU{f:ν->ν->Sem ν}{g:Int->Int->Int}
  (a:∀i j t u s (Q:aJ) (E:aJ),Q (.int (g i j) s.toks) {s with toks:=s.toks+1}->ρ (ς X.prog X.w) X.A (f (.int i t) (.int j u)) Q E s) :
  dn X f (kr λi j=>.int (g i j)):=by
 ext b s k H x y v u Q I c d h;let⟨i,j,rfl,rfl,q⟩:22:=h;let⟨t,rfl⟩:=c;let⟨e,rfl⟩:=d;calc a i j t e s _ _ ⟨.int (g i j),H,I.tok _,⟨_,Y⟩,q⟩
theorem ku{f:ν->ν->Sem ν}{g:Int->Int->Bool}
  (a:∀i j t u s (Q:aJ) (E:aJ),Q (.bool (g i j)) s->ρ (ς X.prog X.w) X.A (f (.int i t) (.int j u)) Q E s) :
  dn X f (kr λi j=>.bl (g i j)):=by
 ext b s k H x y v u Q I c d h;let⟨i,j,rfl,rfl,q⟩:22:=h;let⟨t,rfl⟩:=c;let⟨e,rfl⟩:=d;calc a i j t e s _ _ ⟨.bl (g i j),H,I,Y,q⟩
def fZ(i j:Int):Prop:=0<=j/\j<=1000000/\i.natAbs<2 ^ 64
def kA(i j:Int):Prop:=(-(2 ^ 64)<i/\i<2 ^ 64)\/(-(2 ^ 64)<j/\j<2 ^ 64)
theorem kA.ok{i j}(h:kA i j):IntMulOk i j:=by
 rcases h with⟨a,b⟩|⟨a,b⟩
 .exact .of_left (q4N a b)
 .calc .of_right (q4N a b)
theorem AA:dn X (binaryOp .Add) (kr λi j=>.int (i+j)):=oU λ_ _ _ _ _ _ _ q=>add_int q
theorem Ju:dn X (binaryOp .Sub) (kr λi j=>.int (i-j)):=oU λ_ _ _ _ _ _ _ q=>sub_int q
theorem Jv:dn X (binaryOp .Mult) (rI kA λi j=>.int (i*j)):=rp λ_ _ _ _ _ _ _ a q=>mul_int q a.ok
theorem uX:dn X (binaryOp .Mod) (rI (λ_ j=>0<j) λi j=>.int (i%j)):=rp λi j _ _ _ _ _ a q=>by
 calc mod_int' ⋯ (by rw[Int.fmod_eq_emod_of_nonneg i ⋯];calc q)
theorem Jw:dn X (binaryOp .Pow) (rI fZ λi j=>.int (i ^ j.toNat)):=rp λ_ _ _ _ _ _ _ a q=>pow_int_small a.1 a.2.1 a.2.2 q
theorem Jx{f:ν->Sem ν}{g:Int->Int}
  (a:∀(i:Int)(t:Tok)(s:ο)(Q:aJ)(E:aJ),Q (.int (g i) s.toks) {s with toks:=s.toks+1}->ρ (ς X.prog X.w) X.A (f (.int i t)) Q E s) :
  uW X f (rU λi=>.int (g i)):=by
 ext b s d H x v Q I c h;let⟨i,rfl,q⟩:=h;let⟨t,rfl⟩:=c;calc a i t s _ _ ⟨.int (g i),H,I.tok _,⟨_,Y⟩,q⟩
theorem Jy:uW X (unaryOp .USub) (rU λi=>.int (-(i:Int))):=Jx λ_ _ _ _ _ q=>neg_int q
end
meta def uY:V->V->Bool
 |.non,.non=>θ|.non,.int _=>θ|.int _,.non=>θ|.non,.bl _=>θ|.bl _,.non=>θ|.non,.str _=>θ|.str _,.non=>θ
 |.int _,.int _=>θ|.bl _,.bl _=>θ|.str _,.str _=>θ|.byt _,.byt _=>θ
 |.int _,.str _=>θ|.str _,.int _=>θ|.bl _,.str _=>θ|.str _,.bl _=>θ
 |_,_=>ι
def Jz:R2:=λx y H Q=>uY x y=θ/\Q (.bl (!μ (x=y))) H
theorem JB{i j}:μ (V.int i=V.int j)=(i==j):=by
 rw[ZS];simp
theorem JD{i j}:μ (V.bl i=V.bl j)=(i==j):=by
 rw[ZS];simp
theorem JH{i j}:μ (V.str i=V.str j)=(i==j):=by
 rw[ZS];simp
theorem JJ{i j}:μ (V.byt i=V.byt j)=(i.toList==j.toList):=by
 rw[ZS];cases i
 cases j
 simp
section
variable{X:Cx}{a b c:υ}{ta tb tc:TE}{pos:Ε}
theorem gy{a:ax}{b:St}{H:Hp}{s:ο}{Q:VK}{k c:Bool}(I:Inv X a b H s)(q:Q (.bl k) H)(e:k=c):EP X a b Q (.bool c) s:=by
 subst e;calc⟨.bl k,H,I,Y,q⟩
theorem JK:dn X (compareOp .NotEq) Jz:=by
 ext d s e H x y v u Q I c a h;let⟨hs,q⟩:=h
 cases x with
 |non =>
  cases c
  cases y with
  |non=>cases a;exact PySem.EqNone.ne_none_none (gy I q (by simp))
  |bl j=>cases a;exact PySem.EqNone.ne_none_bool (gy I q (by simp))
  |int j=>let⟨b,rfl⟩:=a;exact PySem.EqNone.ne_none_int (gy I q (by simp))
  |str j=>let⟨b,rfl⟩:=a;exact PySem.EqNone.ne_none_str (gy I q (by simp))
  |_=>exact absurd (show ι=θ from hs) Xh
 |bl i =>
  cases c
  cases y with
  |non=>cases a;exact PySem.EqNone.ne_bool_none (gy I q (by simp))
  |bl j=>cases a;exact ne_bool (gy I q (congrArg not JD))
  |str j=>let⟨b,rfl⟩:=a;exact PySem.EqMixed.ne_bool_str (gy I q (by simp))
  |_=>exact absurd (show ι=θ from hs) Xh
 |int i =>
  let⟨t,rfl⟩:=c
  cases y with
  |non=>cases a;exact PySem.EqNone.ne_int_none (gy I q (by simp))
  |int j=>let⟨b,rfl⟩:=a;exact ne_int (gy I q (congrArg not JB))
  |str j=>let⟨b,rfl⟩:=a;exact PySem.EqMixed.ne_int_str (gy I q (by simp))
  |_=>exact absurd (hs) Xh
 |str i =>
  let⟨t,rfl⟩:=c
  cases y with
  |non=>cases a;exact PySem.EqNone.ne_str_none (gy I q (by simp))
  |bl j=>cases a;exact PySem.EqMixed.ne_str_bool (gy I q (by simp))
  |int j=>let⟨b,rfl⟩:=a;exact PySem.EqMixed.ne_str_int (gy I q (by simp))
  |str j=>let⟨b,rfl⟩:=a;exact ne_str (gy I q (congrArg not JH))
  |_=>exact absurd (hs) Xh
 |byt i =>
  let⟨t,rfl⟩:=c
  cases y with
  |byt j=>let⟨b,rfl⟩:=a;exact PySem.W.ne_bytes (gy I q (congrArg not JJ))
  |_=>exact absurd (hs) Xh
 |_=>cases y<;>calc absurd (hs) Xh
theorem AB:dn X (compareOp .Lt) (kr λi j=>.bl (μ (i<j))):=ku λ_ _ _ _ _ _ _ q=>lt_int q
theorem JL:dn X (compareOp .LtE) (kr λi j=>.bl (μ (i<=j))):=ku λ_ _ _ _ _ _ _ q=>le_int q
theorem JM:dn X (compareOp .Gt) (kr λi j=>.bl (μ (j<i))):=ku λ_ _ _ _ _ _ _ q=>gt_int q
theorem JN:dn X (compareOp .GtE) (kr λi j=>.bl (μ (j<=i))):=ku λ_ _ _ _ _ _ _ q=>ge_int q
theorem JO:dn X (compareOp .Is) (λx y H Q=>y=.non/\Q (.bl (μ (x=.non))) H):=by
 ext a s d H x y v u Q I b c h;let⟨rfl,q⟩:=h;cases c
 refine is_none_gen (gy I q ?_)
 cases x<;>first
  |(rfl)
  |(let⟨t,rfl⟩:=b;rfl)
theorem JP:dn X (compareOp .IsNot) (λx y H Q=>y=.non/\Q (.bl (!μ (x=.non))) H):=by
 ext a s d H x y v u Q I b c h;let⟨rfl,q⟩:=h;cases c
 refine isnot_none_gen (gy I q ?_)
 cases x<;>first
  |(rfl)
  |(let⟨t,rfl⟩:=b;rfl)
theorem AD(b:υ){op:CmpOp}(h: ~~~(op≠.In))(a: ~~~(op≠.NotIn)):behindInMarks op b=ι:=by
 let c:(op==CmpOp.In)=ι:=by cases op<;>first|rfl|exact absurd Y h
 let d:(op==CmpOp.NotIn)=ι:=by cases op<;>first|rfl|exact absurd Y a
 cases b<;>simp[behindInMarks,c,d]
theorem JQ{op:CmpOp}{r:R2}(d:dn X (compareOp op) r)(e:JE X a ta)(f:JE X b tb)(g:behindInMarks op b=ι):JE X (.Compare a [op] [b] pos) (oS r ta tb):=by
 calc⟨λc s i H Q I h=>wpAny_Compare1 (lX e f I h λv u j x y k l m n q=>d c j i k x y v u Q l m n q) g⟩
def JR(t:TE):TT:=λa H Q=>t a H λx b=>∃k,x=.bl k/\Q k b
theorem uZ{op:CmpOp}{r:R2}(g:dn X (compareOp op) r)(i:JE X a ta)(j:JE X b tb)(l:behindInMarks op b=ι):JT X (.Compare a [op] [b] pos) (JR (oS r ta tb)):=by
 refine⟨λd s f H Q I h=>q2c (aX (i d s f H _ I h) λv m ⟨x,n,o,p,q⟩=>aX (j d m f n _ o q) λu t ⟨y,w,A,B,C⟩ =>
  aX (g d t f w x y v u _ A p B C) λc J ⟨z,D,E,F,k,e,G⟩=>?_) l⟩
 subst e;cases F
 calc Yu ⟨D,E,G⟩
def JU(r c:R2)(ta tb d:TE):TE:=λa H Q=>ta a H λx e=>tb a e λy f=>r x y f λz b=>∃k,z=.bl k ∧
 (if k=θ then d a b λg h=>c y g h Q else Q (.bl ι) b)
theorem JV{op g:CmpOp}{r l:R2}(q:dn X (compareOp op) r)(j:dn X (compareOp g) l)(t:JE X a ta)(w:JE X b tb)(A:JE X c tc)
  (B:autoParam (lastMarks [op,g] [b,c]=ι) qz6._auto_1):JE X (.Compare a [op,g] [b,c] pos) (JU r l ta tb tc):=by
 refine⟨λf s i H Q I h=>Compare_chain (aX (t f s i H _ I h) λv C ⟨x,D,E,F,G⟩=>chain_link (aX (w f C i D _ E G) λu J ⟨y,K,L,m,M⟩ =>
  aX (q f J i K x y v u _ L F m M) λd N ⟨z,n,o,O,k,e,p⟩=>?_)) B⟩
 subst e;cases O
 refine Yu ?_
 cases k with
 |false=>exact ite_ff ⟨.bl ι,n,o,Y,p⟩
 |true=>calc ite_tt (chain_last (aX (A f N i n _ o p) λP R ⟨S,T,U,V,W⟩↦j f R i T y S u P Q U m V W))
theorem lY:(sizeLine:Nat)<2 ^ 63:=by decide
theorem JX:dn X (binaryOp .Add) (λx y H Q=>∃i j,x=.str i/\y=.str j/\↑i+↑j<=sizeLine/\Q (.str (i++j)) H):=by
 ext a s f H x y v u Q I b c h;let⟨i,j,rfl,rfl,d,q⟩:23:=h;let⟨t,rfl⟩:=b;let⟨e,rfl⟩:=c;calc add_str (λe g=>⟨.str (i++j),H,I.tok _,⟨_,Y⟩,q⟩) d
theorem vals1{x:V}{us:-ν}(r:Vals [x] us):∃u,us=[u]/\RelV x u:=by
 cases r with
 |cons a b=>cases b;calc⟨_,Y,a⟩
theorem vals2{x y:V}{us:-ν}(r:Vals [x,y] us):∃u a,us=[u,a]/\RelV x u/\RelV y a:=by
 cases r with
 |cons b c =>
  cases c with
  |cons d e=>cases e;calc(zI2 _ _ ⟨Y,b,d⟩)
theorem JY(c:X.calm=θ):fc X (.builtin "max") (λxs H Q=>∃i j,xs=[.int i,.int j]/\Q (.int (if j>i then j else i)) H):=by
 ext b s e H d f Q I r h;let⟨i,j,rfl,q⟩:21:=h;let⟨u,g,rfl,⟨t,rfl⟩,⟨l,rfl⟩⟩:22:=vals2 r;refine max_two_ints (I.ok.hd c) λm n k=>⟨_,H,I.kept k,?_,q⟩
 by_cases a:j>i
 .rw[W_ a,W_ a];exact⟨_,Y⟩
 .rw[Vq a,Vq a];calc⟨_,Y⟩
theorem JZ(c:X.calm=θ):fc X (.builtin "min") (λxs H Q=>∃i j,xs=[.int i,.int j]/\Q (.int (if j<i then j else i)) H):=by
 ext b s e H d f Q I r h;let⟨i,j,rfl,q⟩:21:=h;let⟨u,g,rfl,⟨t,rfl⟩,⟨l,rfl⟩⟩:22:=vals2 r;refine min_two_ints (I.ok.hd c) λm n k=>⟨_,H,I.kept k,?_,q⟩
 by_cases a:j<i
 .rw[W_ a,W_ a];exact⟨_,Y⟩
 .rw[Vq a,Vq a];calc⟨_,Y⟩
end
structure lZ(h:Α)(x dx C:Z)(mA:π->Option ν):Prop where
 obj:h.get? x=ζ (q15 C dx)
 ns:h.Ns1 dx mA
 ne:dx≠x
theorem u2{h:Α}{d:Z}{f:π->Option ν}(n:h.Ns1 d f):∃g,h.get? d=ζ g/\∀name,q2l name g=ζ (f name):=by
 let⟨o,i,s,j,k,l,_,m⟩:34:=n;calc⟨o,j,λb=>?_⟩;let e:=m b;unfold nsFind findBy at e;rw[<-Array.find?_toList] at e;unfold q2l;rw[k];dsimp only;split
 .rename_i y q
  rw[q] at e;exact congrArg ζ e
 .rename_i q
  rw[q] at e
  let a:i.toList.any (·.refKey)=ι:=by
   rw[Y8];ext y p;let⟨z,t,c⟩:2:=l y (Array.mem_toList_iff.mp p);simp[DictEntry.refKey,c]
  let r:¬ i.toList.any (·.refKey)=θ:=by rw[a];exact Xh
  rw[Vq r];calc congrArg ζ e
theorem lZ.look{h:Α}{x b C:Z}{c:π->Option ν}(I:lZ h x b C c):∃a,PySem.W.InstAt h x (q15 C b) C (ζ a)/\∀name,q2l name a=ζ (c name) :=
 let⟨a,d,e⟩:=u2 I.ns
 ⟨a,⟨I.obj,Y,Y,d⟩,e⟩
section
variable{prog:ψ}{w:ω}{A:Β}{E:aJ}{s:ο}{K:KH}{x dx C f:Z}{mA:π->Option ν}{name:π}{v:ν}
end
theorem d6.some_of{v:V}{o:Option ν}(r:d6 (ζ v) o):∃u,o=ζ u/\RelV v u:=by
 cases o with
 |none=>exact(r).elim
 |some u=>calc⟨u,Y,r⟩
theorem J0{v:V}{u:ν}(r:RelV v u):PySem.W.handedIn u=θ:=by
 cases v with
 |non=>cases(r);rfl
 |bl b=>cases(r);rfl
 |int i=>let⟨t,e⟩:=(r);cases e;rfl
 |str x=>let⟨t,e⟩:=(r);cases e;rfl
 |byt b=>let⟨t,e⟩:=(r);cases e;rfl
 |flt b=>let⟨t,e⟩:=(r);cases e;rfl
 |ref a=>cases(r);rfl
 |ty n=>cases(r);rfl
section
variable{P:ψ}{w:ω}{H H':Hp}{h h':Α}{a C dx:Z}{fs IK:-(π×V)}
theorem J7(c:cF P w H h)(e:H a=ζ (.ins C dx fs)):∃b,lZ h a dx C b/\(∀f,d6 (fs.lookup f) (b f))/\q5r b (fs.map (·.1))/\fs.length<=1000/\H dx=ζ (.own a):=by
 let⟨d,z,g,i,b,n,r,q⟩:0412:=(c a _ e);calc⟨b,⟨i,n,g⟩,r,q,z,d⟩
end
structure u3(K:KH)(C:Z):Prop where
 pg:q3H K C Str.empty=θ
 hd:q3h K C=θ
 po:PySem.W.plainOver K C=θ
 sa:Y6 K (.ref C) "__setattr__" = ζ (ζ (.builtin "object.__setattr__"))
theorem u3.get{K:KH}{C:Z}(c:u3 K C)(f:π):q3H K C f=θ:=c.pg
def oV(K:KH)(C:Z)(f:π):Prop:=Y6 K (.ref C) f=ζ η
section
variable{X:Cx}{pins:ax}{σ:St}{H:Hp}{s:ο}{a C dx:Z}{fs:-(π×V)}{f:π}{v:V}{A:Β}{E:aJ}
theorem J8{prog:ψ}{w:ω}{env:Ζ}{e:υ}{f:π}{pos:Ε}{s:ο}{Q:aJ}(b:attributeBase e f env (eval e env)=eval e env)
  (h:ρ (ς prog w) A (eval e env) (λo a=>ρ (ς prog w) A (getAttr o f θ) Q E a) E s):ρ (ς prog w) A (eval (.Attribute e f pos) env) Q E s :=
 Attribute_any_ h (by rw[arm_eval_Attribute,b])
end
section
variable{X:Cx}{o e value:υ}{f:π}{pos pos' u4:Ε}{ta tv:TE}
end
section
variable{X:Cx}{pins:ax}{σ:St}{H:Hp}{s:ο}{A:Β}{E:aJ}{Q:aJ}{c:ν}{b:Bool}
inductive dJ (K:KH) (H:Hp):V->ν->Prop where
 |non:dJ K H .non (.type "NoneType")
 |bl (x:Bool):dJ K H (.bl x) (.type "bool")
 |int (i:Int):dJ K H (.int i) (.type "int")
 |str (x:π):dJ K H (.str x) (.type "str")
 |flt (x:UInt64):dJ K H (.flt x) (.type "float")
 |lst {a:Z} {xs:-V} (e:H a=ζ (.lst xs)):dJ K H (.ref a) (.type "list")
 |frz {a:Z} {o:Γ} {xs:-V} (e:H a=ζ (.frz o (.lst xs))):dJ K H (.ref a) (.type "list")
 |tup {a:Z} {xs:-V} (e:H a=ζ (.tup xs)):dJ K H (.ref a) (.type "tuple")
 |dK {a:Z} {au:-(Key×V)} (e:H a=ζ (.dK au)):dJ K H (.ref a) (.type "dict")
 |dT {a:Z} {au:-(-Key×V)} (e:H a=ζ (.dT au)):dJ K H (.ref a) (.type "dict")
 |ins {a C dx:Z} {fs:-(π×V)} (e:H a=ζ (.ins C dx fs)) (cl:u3 K C) (ha:Y6 K (.ref C) "__class__" = ζ (ζ (.builtin "object.__class__")))
   (hn:q3i K (.builtin "object.__class__") "__get__" = ζ (ζ (.builtin "getset_descriptor.__get__"))) (Vm:q3Y K (.builtin "object.__class__")=ζ θ)
   (hm:PySem.W.mroIn K C (.type "object")=ζ θ):dJ K H (.ref a) (.ref C)
theorem J_{x:V}{u t:ν}(I:Inv X pins σ H s)(rx:RelV x u)(r:dJ X.K H x t)(e:Xk X.K t c=ζ b)(h:∀tk,Q (.bool b) {s with toks:=tk}):
  ρ (ς X.prog X.w) A (call (.builtin "isinstance") [u,c]) Q E s:=by
 cases r with
 |non=>cases(rx);exact Yq PySem.W.kitx_none I.dY Zx e (λz=>nomatch z) h
 |bl y=>cases(rx);exact Yq PySem.W.kitx_bool I.dY Zx e (λz=>nomatch z) h
 |int i=>let⟨t,q⟩:=(rx);cases q;exact Yq PySem.W.kitx_int I.dY Zx e (λz=>nomatch z) h
 |str y=>let⟨t,q⟩:=(rx);cases q;exact Yq PySem.W.kitx_str I.dY Zx e (λz=>nomatch z) h
 |flt y=>let⟨t,q⟩:=(rx);cases q;exact Yq PySem.W.kitx_float I.dY Zx e (λz=>nomatch z) h
 | @lst a j d =>
  cases(rx)
  let⟨_,_,n,_,f⟩:0121:=(I.aM a _ d);exact Yq q3j I.dY ⟨_,f,Y⟩ e (λz=>nomatch z) h
 | @frz a L j d =>
  cases(rx)
  let⟨_,_,_,n,_,f⟩:0221:=(I.aM a _ d);exact Yq q3j I.dY ⟨_,f,Y⟩ e (λz=>nomatch z) h
 | @tup a j d =>
  cases(rx)
  let⟨_,_,_,p⟩:=(I.aM a _ d);let⟨o,f,g,_⟩:12:=p;exact Yq PySem.W.kitx_tuple I.dY ⟨o,f,g⟩ e (λz=>nomatch z) h
 | @dK a k d =>
  cases(rx)
  let⟨_,_,M,_,p⟩:0211:=(I.aM a _ d);let⟨o,v,B,f,g,_⟩:32:=p;exact Yq q3k I.dY ⟨o,f,g.1⟩ e (λz=>nomatch z) h
 | @dT a k d =>
  cases(rx)
  let⟨_,_,j,_,o,v,B,f,g,_⟩:021132:=(I.aM a _ d);exact Yq q3k I.dY ⟨o,f,g.1⟩ e (λz=>nomatch z) h
 | @ins a C N P d m D F l G =>
  cases(rx)
  let⟨R,O,_⟩:=J7 I.aM d;let⟨S,J,_⟩:11:=O.look;calc Yq (PySem.W.kitx_own (m.get _) m.hd D F l G) I.dY J e (λz=>nomatch z) h
end
structure aV(k:Nat)(A:Β):Prop where
 hd:A.handled=η
 dp:A.depth+3*k+5<recursionLimit
 un:A.units+16*k+200<cLine
 gd:A.guards=ζ []
theorem aV.mono{j k:Nat}{A:Β}(r:aV k A)(h:j<=k):aV j A:=⟨r.hd,by let:=r.dp;symm,by let:=r.un;symm,r.gd⟩
theorem aV.deeper{k A}(r:aV (k+1) A) env:aV k (A.deeper env) :=
 ⟨r.hd,by let:=r.dp;show A.depth+1+3*k+5<_;symm,by let:=r.un;show A.units+3+16*k+200<_;symm,r.gd⟩
theorem aV.in1{k A}(r:aV (k+1) A):aV k A.in1 :=
 ⟨r.hd,by let:=r.dp;show A.depth+3*k+5<_;symm,by let:=r.un;show A.units+1+16*k+200<_;symm,r.gd⟩
theorem Ka{A:Β}{C:Z}{us:-ν}{a:-(π×ν)}:(A.under (.builtin "type.__call__" ⟨.ref C::us,a⟩)).depth=A.depth+1:=by
 first|rfl|symm
theorem Kb{A:Β}{C:Z}{us:-ν}{a:-(π×ν)}:(A.under (.builtin "type.__call__" ⟨.ref C::us,a⟩)).units=A.units+1:=by
 first|rfl|symm
theorem aV.make{k:Nat}{A:Β}(r:aV (k+1) A)(C:Z)(us:-ν)(a:-(π×ν)):aV k (A.under (.builtin "type.__call__" ⟨.ref C::us,a⟩)) :=
 ⟨r.hd,by let:=r.dp;rw[Ka];symm,by let:=r.un;rw[Kb];symm,r.gd⟩
theorem aV.depth{k A}(r:aV k A):A.depth<recursionLimit:=by let:=r.dp;symm
theorem aV.units{k A}(r:aV k A):A.units+64<cLine:=by let:=r.un;symm
def kB:TA:=λ_ H Q=>Q [] H
def jc(ta:TE)(b:TA):TA:=λa H Q=>ta a H λx c=>b a c λd e=>Q (x::d) e
section
variable{X:Cx}{e:υ}{es:-υ}{te:TE}{t:TA}{pos:Ε}
theorem a_:JA X [] kB:=⟨λ_ _ _ _ H Q I h=>q3l ⟨[],H,I,.nil,h⟩⟩
theorem iq(d:JE X e te)(f:JA X es t)(g:‹cI X e es›):JA X (e::es) (jc te t):=by
 calc⟨?_⟩;ext b a s c H Q I h;rw[g];calc q1a (aX (d a s c H _ I h) λu i ⟨x,j,k,l,m⟩↦aX (f b a i c j _ k m) λv w ⟨n,o,p,q,r⟩↦⟨x::n,o,p,.cons l q,r⟩)
def u5(t:TA):TE:=λc H Q=>t c H λa b=>↑a<=sizeLine/\∀p,b p=η->Q (.ref p) (upd b p (.tup a))
def u6(t:TA):TE:=λc H Q=>t c H λa b=>↑a<=sizeLine/\∀p,b p=η->Q (.ref p) (upd b p (.lst a))
theorem AE{f}(h:JA X es t):JE X (.Tuple es f pos) (u5 t):=by
 calc⟨λa s g H Q I i=>wpAny_Tuple_spliced (aX (h pos a s g H _ I i) λj c ⟨k,l,d,r,z,q⟩=>⟨by rw[<-↑r];calc z,⟨.ref ⇑c,upd l ⇑c (.tup k),d.laid  (λb u e=>mi _ e) (vr _) ?_,Y,q _ (d.aM.fresh (vr _))⟩⟩)⟩;calc⟨z,j,r,⟨_,Vs _ Y,Y,_,Y⟩⟩
theorem kC(h:JA X es t):JE X (.List es pos) (u6 t):=by
 calc⟨λa s f H Q I g=>wpAny_List_spliced (aX (h pos a s f H _ I g) λi c ⟨j,k,d,r,z,q⟩=>⟨by rw[<-↑r];calc z,⟨.ref ⇑c,upd k ⇑c (.lst j),d.laid  (λb u e=>mi _ e) (vr _) ?_,Y,q _ (d.aM.fresh (vr _))⟩⟩)⟩;calc⟨z,i,0,r,Vs _ Y⟩
end
abbrev Sp:=-V->Hp->VK->XK->Prop
abbrev iF:=-Ζ->Hp->ο->XK->ν->ο->Prop
structure gX(P:ψ)(w:ω)(K:KH)(mg:π->Option ν)(base:Α)(A:Β)(outer:-Ζ)(s:ο)(H:Hp):Prop where
 frames:A.frames=ζ outer
 mod:Mod K mg base
 bs:∀b o,base.get? b=ζ o->s.heap.get? b=ζ o/\(H b=η\/∃xs,H b=ζ (.tup xs))
 ja:base.objs.size<=⇑s
 cY:s.heap.FunFrames base outer
 ju:∀b∈d8 outer,H b=η
 aM:cF P w H s.heap
 bare:AllBare s.gens
def CE(a:-Ζ)(P:ψ)(w:ω)(H:Hp)(s:ο)(Q:VK)(u:ν)(s':ο):Prop :=
 ∃v b,s'.os=s.os/\AllBare s'.gens/\Un (d8 a) [] H b s.heap s'.heap/\cF P w b s'.heap/\RelV v u/\Q v b
def CR(CX:iF)(a:-Ζ)(P:ψ)(w:ω)(H:Hp)(s:ο)(Q:VK)(E:XK)(r:Result)(s':ο):Prop :=
 match r with
 |.ok (.ret u)=>CE a P w H s Q u s'
 |.ok _=>False
 |.error e=>CX a H s E e s'
structure bP(P:ψ)(w:ω)(K:KH)(mg:π->Option ν)(base:Α)(CX:iF)(k:Nat)(f:Z)(fd:FuncData)(ps:-π)(sp:Sp):Prop where
 len:∀vs H Q E,sp vs H Q E->↑vs=↑ps
 run:∀(A:Β)(outer:-Ζ)(s:ο)(H:Hp)(args:Args)(us:-ν)(vs:-V)(Q:VK)(E:XK),aV k A->gX P w K mg base A outer s H->BindsTo s fd args (ps.zip us)->Vals vs us->sp vs H Q E →
  codeAny (ς P w) A (.call (.ref f) args) (CR CX outer P w H s Q E) s
theorem gX.make{P:ψ}{w:ω}{K:KH}{c:π->Option ν}{b:Α}{A:Β}{a:-Ζ}{s:ο}{H:Hp}(e:gX P w K c b A a s H)(C:Z)(us:-ν)(d:-(π×ν)):
  gX P w K c b (A.under (.builtin "type.__call__" ⟨.ref C::us,d⟩)) a s H:=⟨by first|exact e.frames|(symm),e.mod,e.bs,e.ja,e.cY,e.ju,e.aM,e.bare⟩
section
variable{X:Cx}{pins:ax}{σ:St}{H:Hp}{s s':ο}
theorem Inv.l0(I:Inv X pins σ H s):gX X.prog X.w X.K X.mg X.base X.A X.stack s H :=
 ⟨I.ok.frames,I.ok.mod,I.bs,XQ I.ok.ja I.sz,I.stack,I.dH,I.aM,I.bare⟩
theorem Inv.after{Q:VK}{u:ν}(I:Inv X pins σ H s)(h:CE X.stack X.prog X.w H s Q u s'):EP X pins σ Q u s':=by
 let⟨v,f,i,a,j,c,r,q⟩:25:=h;let⟨k,g,d,t,e⟩:=s';obtain rfl:e=s.os:=i;calc⟨v,f,I.call      j c a (λb z=>absurd z (by simp)),r,q⟩
end
def nC(sp:Sp)(a:-V)(E:XK)(t:TA):TE:=λb H Q=>t b H λc d=>sp (c++a) d Q E
def Binds(K:KH)(b:FuncData)(ps:-π)(ds:-ν):Prop :=
 ∀(s:ο)(a:-ν),K.In s.heap->↑(a++ds)=↑ps->BindsTo s b ⟨a,[]⟩ (ps.zip (a++ds))
theorem Binds.all{K:KH}{a:FuncData}{ps:-π}(h:∀us:-ν,↑us=↑ps->bindArgs a ⟨us,[]⟩=pure (ps.zip us)):Binds K a ps []:=λs c _ b=>by
 rw[Yx] at b ⊢;calc .of_eq (h c b)
def kD(CX:iF)(X:Cx)(E:XK):Prop:=∀(a:ax)(c:St)(H:Hp)(s:ο)(e:ν)(b:ο),Inv X a c H s->CX X.stack H s E e b->X.xe e b
section
variable{X:Cx}{CX:iF}{k:Nat}{f C:Z}{fd:FuncData}{ps:-π}{sp:Sp}{oW:-V}{ds:-ν}{E:XK}{x m:π}{p pos apos:Ε}{e o:υ}{es:-υ}{ta:TE}{t:TA}
theorem Kc{a:ax}{c:St}{H:Hp}{s:ο}{Q:VK}{us:-ν}{vs:-V}(F:bP X.prog X.w X.K X.mg X.base CX k f fd ps sp)(g:aV k X.A)(i:Binds X.K fd ps ds)(hd:Vals oW ds)(j:kD CX X E)
  (I:Inv X a c H s) (r:Vals vs us) (h:sp (vs++oW) H Q E):ρ (ς X.prog X.w) X.A (call (.ref f) us) (EP X a c Q) X.xe s:=by
 let d:=r.append hd;let l:↑(us++ds)=↑ps:=by rw[<-↑d];exact F.len _ _ _ _ h
 refine q0h (ZM (F.run X.A X.stack s H ⟨us,[]⟩ (us++ds) (vs++oW) Q E g I.l0 (i s us I.dY l) d h) λr m b=>?_)
 cases r with
 |error e=>exact j a c H s e m I b
 |ok n =>
  cases n with
  |ret u=>exact I.after b
  |next=>exact Xu b
  |brk=>exact Xu b
  |cont=>calc Xu b
theorem l6(F:bP X.prog X.w X.K X.mg X.base CX k f fd ps sp)(g:aV k X.A)(i:Gl X x)(j:X.mg x=ζ (.ref f))(l:Ym X.K (.ref f)=θ)(m:Binds X.K fd ps ds)(hd:Vals oW ds)(n:kD CX X E)
  (o:JA X (e::es) t) (b: ~~~(bB x)) (he:‹cI X e es›) (c:‹cX X pos es›) :
  JE X (.Call (.Name x p) (e::es) [] pos) (nC sp oW E t):=by
 calc⟨?_⟩;ext a s u H Q I h;calc ZN (rh I i j ?_ b);calc q2Y (h₀:=X.base) I.ok.mod.q9 l (aX (o pos a s u H _ I h) λv y ⟨z,B,d,r,q⟩=>⟨d.dY,?_⟩) he c;calc Kc F g m hd n d r q
end
section
variable{X:Cx}{CX:iF}{k:Nat}{f C:Z}{fd:FuncData}{ps ks:-π}{sp:Sp}{E:XK}{x m:π}{p pos apos l7:Ε}{e o:υ}{es:-υ}{Vn:-Keyword}{te ta:TE}{t tk:TA}{nm:Option π}
variable{g:-ν->-ν->-ν}{gV:-V->-V->-V}
end
structure jW(N P:-π)(sc:Δ):Prop where
 kind:sc.kind=.function
 co:sc.isCoroutine=ι
 gen:sc.isGenerator=ι
 nd:N.Nodup
 pre:N.take ↑P=P
 par:∀x∈P,sc.names.lookup x=ζ .local\/sc.names.lookup x=ζ .cell
 l8:∀y∈sc.names,y.2≠.free
theorem AF{b:π->Option NameKind}{x:π}:∀{a:-(π×ν)}{m:π->Option ν},(∀v,(x,v)∉a)->bindL b a m x=m x
 |[],_,_=>Y
 |(n,v)::r,m,h=>by
  unfold bindL;rw[AF λw c=>h w (Bi _ c)];split
  .let:x≠n:=by ext rfl;exact h v Vr
   simp[this]
  .rfl
theorem AG{b:π->Option NameKind}{x:π}:∀{a:-(π×ν)}{m:π->Option ν},(∀v,(x,v)∉a)->bindC b a m x=m x
 |[],_,_=>Y
 |(n,v)::r,m,h=>by
  unfold bindC;rw[AG λw c=>h w (Bi _ c)];split
  .rfl
  .let:x≠n:=by ext rfl;exact h v Vr
   simp[this]
theorem AH{a:π->Option NameKind}{x:π}{v:ν}:∀{P:-π}{vs:-ν}{i:Nat}{m:π->Option ν},P.Nodup->P[i]?=ζ x->vs[i]?=ζ v->a x=ζ .local →
  bindL a (P.zip vs) m x=ζ v
 |[],_,_,_,_,h,_,_=>by simp at h
 |_::_,[],_,_,_,_,h,_=>by simp at h
 |p::P,w::d,0,m,e,b,c,f=>by
  simp at b c;subst b c;show bindL a ((p,w)::P.zip d) m p=_;unfold bindL;rw[AF λv g=>(XU.mp e).1 (q16 g).1,W_ f];simp
 |p::P,w::d,i+1,m,e,b,c,f=>by
  show bindL a ((p,w)::P.zip d) m x=_;calc AH  (XU.mp e).2 b⁻¹ c⁻¹ f
theorem AI{a:π->Option NameKind}{x:π}{v:ν}:∀{P:-π}{vs:-ν}{i:Nat}{m:π->Option ν},P.Nodup->P[i]?=ζ x->vs[i]?=ζ v->a x≠ζ .local →
  bindC a (P.zip vs) m x=ζ v
 |[],_,_,_,_,h,_,_=>by simp at h
 |_::_,[],_,_,_,_,h,_=>by simp at h
 |p::P,w::d,0,m,e,b,c,f=>by
  simp at b c;subst b c;show bindC a ((p,w)::P.zip d) m p=_;unfold bindC;rw[AG λv g=>(XU.mp e).1 (q16 g).1,Vq f];simp
 |p::P,w::d,i+1,m,e,b,c,f=>by
  show bindC a ((p,w)::P.zip d) m x=_;calc AI  (XU.mp e).2 b⁻¹ c⁻¹ f
meta def start(N:-π)(vs:-V):St:=vs.map ζ++Xb (↑N-↑vs) η
meta def bC(CX:iF)(P:ψ)(w:ω)(K:KH)(mg:π->Option ν)(base:Α)(N:-π)(a:π)(scope:Δ)(f:Z)(c:ν)(A:Β)(outer:-Ζ)(s:ο)(H:Hp)(E:XK):Cx where
 prog:=P
 w:=w
 K:=K
 mg:=mg
 base:=base
 A:=A.deeper (envOfC a scope ⇑s f c)
 N:=N
 s₀:=s
 H₀:=H
 env:=envOfC a scope ⇑s f c
 outer:=outer
 stack:=envOfC a scope ⇑s f c::outer
 ex:=[]
 calm:=true
 fn:=λ_=>θ
 pn:=[]
 xe:=λe d=>ρ (ς P w) (A.deeper (envOfC a scope ⇑s f c)) (leaving (envOfC a scope ⇑s f c) e) (λ_ b=>CX outer H s E e b) (λg b=>CX outer H s E g b) d
theorem AJ{a:Δ}{n x}(h:a.names.lookup x=ζ .cell):∃c,(cellsFrom n a.names []).lookup x=ζ c:=by
 calc Zy.mp (q0t a.names n [] (.inl h))
theorem Kd{CX:iF}{P:ψ}{w:ω}{K:KH}{G:π->Option ν}{l:Α}{N ps:-π}{g:π}{scope:Δ}{f:Z}{C:ν}{A:Β}{d:-Ζ}{s I:ο}{H:Hp}{E:XK}{us:-ν}{vs:-V}
  (S:jW N ps scope) (hd:A.handled=η) (m:gX P w K G l A d s H) (R:↑vs=↑ps) (r:Vals vs us)
  (x:InCallC s ⇑s (bindL (envOfC g scope ⇑s f C).kindOf (ps.zip us) λ_=>η) (cellsFrom (⇑s+1) scope.names []) (bindC (envOfC g scope ⇑s f C).kindOf (ps.zip us) λ_=>η) I) :
  Inv (bC CX P w K G l N g scope f C A d s H E) [] (start N vs) H I:=by
 let M:=by let:=congrArg List.length S.pre;rw[XN] at this;symm
 let⟨D,T,rfl,J⟩:21:=x.done;let n:∀b ,b∉(bC CX P w K G l N g scope f C A d s H E).ex:=λb z=>absurd (show b∈[] from z) (by simp)
 refine⟨⟨m.mod,S.kind,Y,Y,vr _,λy z c D j=>?_,λy o=>?_,λy c _ h=>?_,λ_=>hd,q2m m.frames,.inr ⟨Y,Y⟩,λb z=>absurd z (n b),m.bs,m.ja,λb _ _=>n b,λb z=>absurd z (n b),m.cY,m.ju⟩,
  Y,m.bare,Un.kept J,⟨_,x.toInCall.ns,λi y v D j U=>?_⟩,λy c h=>⟨_,x.cell y c h⟩,m.aM.fresh (vr _),λy c h=>?_,λp t=>absurd (show p∈[] from t) (by simp),m.aM.kept J,?_⟩
 .exact name_of_addr x.apart (Ys D) (Ys j)
 .let o:=o
  rcases o with o|o
  .exact AJ o
  .exact absurd Y (S.l8 _ (Ys o))
 .exact YJ (x.above y c (Ys h))
 .let F:i<↑vs:=by
   unfold start at j
   by_cases F:i<↑vs
   .exact F
   .rw[Xi F⁻¹,ZG] at j
    split at j<;>cases j
  let O:vs[i]?=ζ v:=by
   unfold start at j;rw[Xc F⁻¹,KI] at j
   cases e:vs[i]? with
   |none=>rw[e] at j;cases j
   |some a=>rw[e] at j;cases j;rfl
  let⟨u,L,Q⟩:=r.get O
  let t:ps[i]?=ζ y:=by
   rw[<-S.pre,Yf ⋯];exact D
  let B:ps.Nodup:=by rw[<-S.pre];exact S.nd.sublist (q1m _ _)
  calc⟨u,Q,?_⟩;rcases S.par y (Xw t) with k|k
  .exact .inl ⟨k,AH B t L k⟩
  .let⟨c,e⟩:=AJ  k
   calc .inr ⟨.inl k,c,e,?_⟩;let q:=x.cell y c e;rw[AI B t L (by show scope.names.lookup y≠_;rw[k];decide)] at q;exact q
 .exact m.aM.fresh (YJ (x.above y c (Ys h)))
 .unfold start
  show _=↑N;rw[KG,kF,Y0];symm
theorem u7{CX:iF}{P:ψ}{w:ω}{K:KH}{I:π->Option ν}{h:Α}{k:Nat}{f:ξ}{name c:π}{d:Arguments}{i:-χ}{scope:Δ}{X Y B Z g ct oc:ν}{an od:Option ξ}
  {L:Array (Option ν)} {N ps:-π} {sp:Sp} (lk:K.lookup f=ζ ⟨oc,od,.func (Yv name c d i scope X Y B Z an g ct),L⟩) (M:Z1 K g c=θ) (S:jW N ps scope)
  (C:∀vs H Q E,sp vs H Q E->↑vs=↑ps)
  (l:∀(A:Β)(a:-Ζ)(s:ο)(H:Hp)(vs:-V)(Q:VK)(E:XK),aV k (A.deeper (envOfC c scope ⇑s f g))->sp vs H Q E →
   ∃t,b3 (bC CX P w K I h N c scope f g A a s H E) i t/\t {nx:=λ_ H'=>Q .non H',rt:=Q} (start N vs) H) :
  bP P w K I h CX (k+1) f (Yv name c d i scope X Y B Z an g ct) ps sp:=by
 calc⟨C,λA a s H args us vs Q E O D hb r F=>?_⟩;let KX:=D.mod.q9.keeps λb o e=>(D.bs b o e).1;let R:=D.mod.nolimit.keeps λb o e=>(D.bs b o e).1
 let m:∀y∈ps.zip us,scope.names.lookup y.1=ζ .local\/(scope.names.lookup y.1=ζ .cell/\((cellsFrom (⇑s+1) scope.names []).lookup y.1).isSome=θ):=λ⟨n,v⟩ hy↦by
  rcases S.par n (q16 hy).1 with q|q
  .exact .inl q
  .exact .inr ⟨q,q0t _ _ _ (.inl q)⟩
 calc codeAny_call_function O.depth (KX _ _ lk) rfl S.co S.gen rfl (PySem.W.codeRec_of KX M) (hb _ _ _ _ (wpAny_newFunctionEnv_cells S.kind m λenv he s1 x=>?_));subst he;calc⟨R.keeps x.toInCall.keep,codeAny_func ?_⟩;let⟨t,ht,hq⟩:11:=l A a s H vs Q E (O.deeper _) F;refine Yl (ht [] s1 (start N vs) H _ (Kd S O.hd D (C _ _ _ _ F) r x) hq) (λfl T z=>?_) λe T z=>z
 let G:∀{j p v u},Inv (bC CX P w K I h N c scope f g A a s H E) [] j p T->RelV v u->Q v p->CE a P w H s Q u T :=
  λ{j p v u} J U q=>(zI2 v p ⟨J.os,J.bare,J.base,J.aM,U,q⟩)
 cases fl with
 |ret u =>
  let⟨v,j,p,J,U,q⟩:32:=z;exact G J U q
 |next =>
  let⟨j,p,J,q⟩:21:=z;exact G (v:=V.non)  J rfl q
 |brk =>
  let⟨_,_,_,q⟩:21:=z;exact Xu q
 |cont =>
  let⟨_,_,_,q⟩:21:=z;calc Xu q
section
variable{X:Cx}{x:π}{p pos:Ε}{e:υ}{es:-υ}{t:TA}{id T:String}{r:-V->Hp->VK->Prop}
def oX(r:-V->Hp->VK->Prop)(t:TA):TE:=λa H Q=>t a H λb c=>r b c Q
theorem l9(f:fc X (.builtin id) r)(g:Gl X x)(i:X.mg x=η)(j:bootBuiltins x=ζ (.builtin id))(k:JA X (e::es) t)(hn:x≠"__name__" := by decide)(b: ~~~(bB x))
  (he:‹cI X e es›) (c:‹cX X pos es›):JE X (.Call (.Name x p) (e::es) [] pos) (oX r t):=by
 calc⟨?_⟩;ext a s d H Q I h;calc ZN (lh I g i j ?_ hn b);calc PyProof.Rows.callWith_builtin1 (aX (k pos a s d H _ I h) λl m ⟨n,o,q,u,v⟩↦f a m d o n l Q q u v) he c
theorem kE(f:fc X (.type T) r)(g:Gl X x)(i:X.mg x=η)(j:bootBuiltins x=ζ (.type T))(k:JA X (e::es) t)(hn:x≠"__name__" := by decide)(b: ~~~(bB x))
  (he:‹cI X e es›) (c:‹cX X pos es›):JE X (.Call (.Name x p) (e::es) [] pos) (oX r t):=by
 calc⟨?_⟩;ext a s d H Q I h;calc ZN (lh I g i j ?_ hn b);calc YP (aX (k pos a s d H _ I h) λl m ⟨n,o,q,u,v⟩↦f a m d o n l Q q u v) he c
end
end L2
namespace HT
open PySem PyProof.Rows
meta def lexLt:-Int->-Int->Bool
 |[],[]=>ι
 |[],_::_=>θ
 |_::_,[]=>ι
 |x::a,y::b=>if x=y then lexLt a b else μ (x<y)
theorem jX x y xs ys:lexLt (x::xs) (y::ys)=if x=y then lexLt xs ys else μ (x<y):=rfl
theorem AK:lexLt [] []=ι:=rfl
theorem AL y ys:lexLt [] (y::ys)=θ:=rfl
theorem AM x xs:lexLt (x::xs) []=ι:=rfl
theorem u9(A:Β)(s:ο)(a:Int)(t:Tok)(c:Int)(u:Tok):∃e,q0j A s (.int a t) (.int c u) e/\(e=θ↔a=c) :=
 ⟨(a==c),q1b a t c u,by simp⟩
theorem Ke(A:Β)(s:ο)(a:Int)(t:Tok)(c:Int)(u:Tok)(prog:ψ)(w:ω)(E:aJ)(Q:aJ)(h:Q (.bool (μ (a<c))) s):
  ρ (ς prog w) A (richCompare .Lt (.int a t) (.int c u)) Q E s :=
 (q0W h)
section
open PySem.SeqAt
open PySem.AutoSeq1 (wpAny_loadPart')
open PySem.MeetsSeq PySem.MeetsSeq2 PySem.MeetsSeq3
theorem Kf(l b:ξ)(items f:Array ν)(n U:Nat)(V M:Option ξ)(W N:Array (Option ν))(ns ms:-Int)(S:IntsAre items.toList ns)(hj:IntsAre f.toList ms):
  Meets (Builtin.«tuple.__lt__» ⟨[.ref l,.ref b],[]⟩)
   (λ_ R s=>s.heap.get? l=ζ {cls:=.type "tuple",dict:=V,data:=.seq items n,slots:=W}/\s.heap.get? b=ζ {cls:=.type "tuple",dict:=M,data:=.seq f U,slots:=N} ∧
    R (.ok (.ret (.bool (lexLt ns ms)))) s) :=
 .of_wp λp w A R s h=>by
  let⟨H,g,d,I,J⟩:=s;let⟨hl,hb,h⟩:02:=h;let Z:=Z9;let z1:items.size=ns.length:=by rw[<-↑S];simp
  let z2:f.size=↑ms:=by rw[<-↑hj];simp
  wp_walk using X_ hl,X_ hb,q0F _ (λr b O=>b.1=η/\O=⟨H,g,d,I,J⟩/\∃(K L:-ν)(j k:-Int),r=K.zip L ∧
   IntsAre K j/\IntsAre L k/\↑j+f.size=k.length+items.size/\R (.ok (.ret (.bool (lexLt j k)))) ⟨H,g,d,I,J⟩) _
  case turn =>
   ext P r b O D;let⟨y,x⟩:=P;let⟨B,rfl,K,L,j,k,m,C,o,i,v⟩:0244:=D
   cases C with
   |nil=>rw[q1q] at m;cases m
   |cons a t E =>
    cases o with
    |nil=>rw[q2Z] at m;cases m
    |cons c u F =>
     rw[YL] at m;injection m with oY gz;injection oY with hy hx;subst hy hx;rw[jX] at v;erw[rC] at i;let⟨e,X,z⟩:=u9 A.in1 ⟨H,g,d,I,J⟩ a t c u;refine dV (X p w _ _ ?_)
     cases e with
     |true =>
      rw[W_ (z.mp rfl)] at v
      wp_walk
      exact⟨rfl,rfl,_,_,_,_,gz,E,F,⋯,v⟩
     |false =>
      rw[Vq (λq=>absurd (z.mpr q) Xh)] at v;let Q:=Ke A.in1 ⟨H,g,d,I,J⟩ a t c u p w
      wp_walk using Q
      exact⟨_,rfl,by simpa using v⟩
  case fin =>
   ext P O G;let⟨b1,b2⟩:=P;let⟨B,rfl,K,L,j,k,m,C,o,i,v⟩:0244:=G;simp only at B;subst B
   let T:lexLt j k=μ (items.size<f.size):=by
    cases C with
    |nil =>
     cases o with
     |nil =>
      erw[XO] at i;rw[AK];exact(Bh ⋯).symm
     |cons c u Y =>
      erw[XO,rC] at i;rw[AL];exact(Bj ⋯).symm
    |cons a t T =>
     cases o with
     |nil =>
      erw[XO,rC] at i;rw[AM];exact(Bh ⋯).symm
     |cons c u Y =>
      rw[YL] at m;cases m
   rw[T] at v
   wp_walk
   exact⟨_,rfl,by simpa[Zz] using v⟩
  case h =>
   calc⟨rfl,rfl,items.toList,f.toList,ns,ms,rfl,S,hj,⋯,h⟩
end
section
variable{prog:ψ}{w:ω}{A:Β}{E:aJ}{s:ο}
theorem u_{l b:Z}{items a:Array ν}{ns ms:-Int}{Q:aJ}(q:IsTup s.heap l items)(r:IsTup s.heap b a)(t:IntsAre items.toList ns)(hj:IntsAre a.toList ms)
  (u:A.units<cLine) (h:Q (.bool (lexLt ns ms)) s):ρ (ς prog w) A (compareOp .Lt (.ref l) (.ref b)) Q E s:=by
 let⟨⟨v,y,j,z⟩,k,m,n,o⟩:121:=id q;let⟨⟨p,f,g,i⟩,c,d,B,e⟩:121:=id r;simp only at m o d e;subst m o d e
 exact q0u (op:=.Lt) ⟨_,k,Y⟩ ⟨_,c,Y⟩ PySem.F.slot_tuple_lt PySem.F.entry_tuple_lt (PySem.F.args_tuple_lt_2 _ _) (Kf l b items a n B y f z i ns ms t hj)
  ⟨k,c,show Zv (lexLt ns ms)≠q2n/\Q (.bool (lexLt ns ms)) s from⟨(λx=>nomatch x),h⟩⟩ u
theorem Kg{t b:Z}{vs ws:-ν}{Q:aJ}(q:IsTup s.heap t vs.toArray)(r:IsTup s.heap b ws.toArray)(k:vs≠[])
  (u:ws=[]->Q (.ref t) s) (v:ws≠[]->Q (.ref ⇑s) {s with heap:=s.heap.push {cls:=.type "tuple",data:=.seq (vs++ws).toArray}})
  (hsz:↑vs+↑ws<=sizeLine):ρ (ς prog w) A (binaryOp .Add (.ref t) (.ref b)) Q E s:=by
 let⟨⟨cls,l,data,m⟩,f,x,n,y⟩:121:=id q;let⟨⟨o,c,h,d⟩,a,i,p,j⟩:121:=id r;subst x y i j;let e:vs.toArray++ws.toArray=(vs++ws).toArray:=by simp
 by_cases g:ws=[]
 .exact q3m ⟨_,f,Y⟩ ⟨_,a,Y⟩ q1G q2P q0v q0n (Z_ _ _)
   (tuple_addW1 t b vs.toArray ws.toArray n p l c m d k⁻¹ (by simp[g])) ⟨f,a,u g⟩
 .refine q3m ⟨_,f,Y⟩ ⟨_,a,Y⟩ q1G q2P q0v q0n (Z_ _ _)
   (tuple_addW2 t b vs.toArray ws.toArray n p l c m d k⁻¹ g⁻¹ ⋯) ⟨f,a,?_⟩
  rw[e];calc v g
meta def bo(n d:Nat):Option Int->Nat
 |none=>d
 |some v=>if v<0 then(v+(n:Int)).toNat else min v.toNat n
theorem va(n d:Nat):bo n d η=d:=rfl
theorem oZ(n d k:Nat):bo n d (ζ (k:Int))=min k n:=by
 show(if k<0 then((k:Int)+n).toNat else min (k:Int).toNat n)=min k n;rw[Vq ⋯,Xn]
theorem AN v (n d:Nat):(if v<0 then max (v+(n:Int)) 0 else min v (n:Int))=((bo n d (ζ v):Nat):Int):=by
 show(if v<0 then max (v+n) 0 else min v n)=(((if v<0 then(v+n).toNat else min v.toNat n):Nat))
 by_cases a:v<0
 .erw[W_ a];symm
 .erw[Vq a];symm
theorem Kh a b (n:Nat):q1j a b 1 (n:Int)=(((bo n 0 a:Nat):Int),((bo n n b:Nat):Int)):=by
 refine Prod.ext ?_ ?_
 .cases a with
  |none=>rfl
  |some v=>exact AN v n 0
 .cases b with
  |none=>rfl
  |some v=>calc AN v n n
theorem Ki(i j:Nat):Zo (i:Int) (j:Int) 1=j-i:=by
 unfold Zo;symm
theorem AO{v o}{Q:Option Int->ο->Prop}(p:IsPart v o)(h:Q o s):ρ (ς prog w) A (Builtin.Slice.slicePartIndex v) Q E s:=by
 cases p with
 |none=>exact slicePart_none h
 |int i t=>calc slicePart_int h
theorem AQ{e:Z}{f g:ν}{a b:Option Int}{n:Nat}{Q:Int×Int×Nat->ο->Prop}(i:s.heap.IsSliceOf e f g .none)(j:IsPart f a)(k:IsPart g b)
  (h:Q (((bo n 0 a:Nat):Int),1,bo n n b-bo n 0 a) s):ρ (ς prog w) A (Builtin.Slice.sliceApplied (.ref e) (pure (n:Int))) Q E s:=by
 let⟨m,c,l,d⟩:12:=id i;refine dV (dV (ZL c d  Y (dV (ZL c d  Y (dV (ZL c d  Y (nF (dV (slicePart_none (dV (AO j (dV (AO k (dV (nF ?_)))))))))))))))
 show ρ _ _ (match q1j a b 1 n with|(a,b)=>pure (a,(1:Int),Zo a b 1)) _ _ s;rw[Kh a b n];show ρ _ _ (pure (((bo n 0 a):Int),1,Zo (bo n 0 a) (bo n n b) 1)) _ _ s;rw[Ki];calc nF h
theorem Kj(xs:Array ν)(i k:Nat):((Xz k).filterMap λ(m:Nat)=>xs[((i:Int)+(m:Int)*1).toNat]?).toArray=((xs.toList.drop i).take k).toArray:=by
 let e:(λ(m:Nat)=>xs[((i:Int)+m*1).toNat]?)=λm=>xs[i+m]?:=by
  funext m;let:((i:Int)+m*1).toNat=i+m:=by symm
  rw[this]
 rw[e];let:=pick_run xs i k;rw[q2V] at this;let a:((λx=>xs[x]?)∘λx=>i+x)=λm=>xs[i+m]?:=Y;rw[a] at this;rw[this]
theorem Kk{t i:Z}{items:Array ν}{j k:ν}{a c:Option Int}{Q:aJ}(d:IsTup s.heap t items)(l:s.heap.IsSliceOf i j k .none)(m:IsPart j a)(n:IsPart k c)
  (r:¬ (bo items.size 0 a=0/\bo items.size items.size c=items.size))
  (h:Q (.ref ⇑s) {s with heap:=s.heap.push {cls:=.type "tuple",data:=.seq ((items.toList.drop (bo items.size 0 a)).take (bo items.size items.size c-bo items.size 0 a)).toArray}})
  (hsz:items.size<=sizeLine):ρ (ς prog w) A (getItem (.ref t) (.ref i)) Q E s:=by
 let b:=by
  show((items.toList.drop (bo items.size 0 a)).take (bo items.size items.size c-bo items.size 0 a)).toArray.size<=sizeLine;rw[KJ,XN,YM,Xa];symm
 let⟨o,e,f,p⟩:12:=id l;unfold getItem
 try with_reducible refine Xy ?_
 first|symm|skip
 refine dV (q3n d.typeIs (by decide) (dV (YN  d.typeIs Yh
  (YC Yh d.typeIs q2x ?_ (q20 _ _)))))
 show ρ _ _ (q1c (.ref t) >>= _) _ _ s;refine dV (tupleItemsOf_ d (dV (q0s ⟨o,e,f⟩ (dV (AQ l m n ?_)))))
 let g:¬ ((((bo items.size 0 a):Int)==0&&(1:Int)==1&&(bo items.size items.size c-bo items.size 0 a)==items.size)=θ):=by
  ext q;rw[Xs,Xs] at q;let u:=Xg q.1.1;let v:=Xg q.2;symm
 show ρ _ _ (if(((bo items.size 0 a):Int)==0&&1==1&&(bo items.size items.size c-bo items.size 0 a)==items.size)=θ then _ else _) _ _ s;rw[Vq g,Kj]
 first
  |exact dV  (Y7 (nF ⟨_,Y,nF h⟩) b)
  |symm
  |symm
  |symm
end
end HT
namespace L2
open PySem PySem.Spec PyProof.Rows
abbrev TO:=St->Hp->(Option Int->Hp->Prop)->Prop
def PO(X:Cx)(e:Option υ)(t:TO):Prop :=
 ∀(a:ax)(s:ο)(b:St)(H:Hp)(Q:Option Int->Hp->Prop),Inv X a b H s->t b H Q →
  ρ (ς X.prog X.w) X.A (evalPart e X.env) (λu d=>∃o c,Inv X a b c d/\IsPart u o/\Q o c) X.xe s
def Kl:TO:=λ_ H Q=>Q η H
def Km(t:TE):TO:=λa H Q=>t a H λx b=>∃i,x=.int i/\Q (ζ i) b
theorem intsAre_of{ns:-Int}:∀{us:-ν},Vals (ns.map V.int) us->IntsAre us ns:=by
 induction ns with
 |nil=>ext a r;cases r;exact .nil
 |cons n f b =>
  ext a r
  cases r with
  |cons c d =>
   let⟨t,e⟩:=c;subst e;calc .cons n t (b d)
section
variable{X:Cx}{e:υ}{te:TE}{lo hi:Option υ}{tl th:TO}{pos p2:Ε}
theorem AR:PO X η Kl:=by
 calcλa s b H Q I h=>nF ⟨η,H,I,.none,h⟩
theorem rq(h:JE X e te):PO X (ζ e) (Km te):=by
 calcλa s b H Q I c=>aX (h a s b H _ I c) ?_;ext u k ⟨x,d,f,g,j⟩;let⟨i,rfl,q⟩:=j;let⟨t,rfl⟩:=g;calc(zI2 (ζ i) d ⟨f,.int i t,q⟩)
def lr(X:Cx)(r:V->Option Int->Option Int->Hp->VK->Prop):Prop :=
 ∀(a:ax)(s:ο)(b:St)(H:Hp)(x:V)(v c d:ν)(e f:Option Int)(g:Z)(Q:VK),Inv X a b H s->RelV x v->s.heap.IsSliceOf g c d .none->IsPart c e->IsPart d f->r x e f H Q →
  ∃T h,typeLookup (.type T) "__getitem__" = pure (ζ (.builtin h))/\s.TypeIs v T/\ρ (ς X.prog X.w) X.A (getItem v (.ref g)) (EP X a b Q) X.xe s
theorem lr.or{r d:V->Option Int->Option Int->Hp->VK->Prop}(h:lr X r)(h':lr X d):lr X (λx b c H Q=>r x b c H Q\/d x b c H Q):=by
 ext a s e H x v f g b c i Q I j k l m q;rcases q with q|q
 .exact h a s e H x v f g b c i Q I j k l m q
 .calc h' a s e H x v f g b c i Q I j k l m q
def Kn(r:V->Option Int->Option Int->Hp->VK->Prop)(b:TE)(c d:TO):TE:=λa H Q=>b a H λx e=>c a e λl f=>d a f λu g=>r x l u g Q
theorem vc{r:V->Option Int->Option Int->Hp->VK->Prop}(j:lr X r)(he:JE X e te)(k:PO X lo tl)(m:PO X hi th):JE X (.Subscript e (.Slice lo hi η p2) pos) (Kn r te tl th):=by
 calc⟨λa s c H Q I h=>Subscript_ (aX (he a s c H _ I h) λv n ⟨x,o,p,t,w⟩=>wpAny_Slice (aX (k a n c o _ p w) λf y ⟨l,z,A,B,C⟩=>aX (m a y c z _ A C) λg d ⟨u,i,D,E,F⟩=>nF ?_))⟩;let G:Inv X a c i {d with heap:=d.heap.push {cls:=.type "slice",data:=.fields #[f,g,.none]}}:=D.kept  λb M q=>mi _ q;let⟨T,N,J,K,L⟩:22:=j a {d with heap:=d.heap.push {cls:=.type "slice",data:=.fields #[f,g,.none]}} c i x v f g l u ⇑d Q G t (Heap.IsSliceOf.new ..) B E F;calc tail_any  K J L (by with_unfolding_all rfl)
meta def dq(xs:-V)(a b:Option Int):-V:=(xs.drop (HT.bo ↑xs 0 a)).take (HT.bo ↑xs ↑xs b-HT.bo ↑xs 0 a)
theorem AS xs a b:↑(dq xs a b)<=↑xs:=by
 unfold dq;rw[XN,YM];symm
def vd(K:KH):V->Option Int->Option Int->Hp->VK->Prop:=λx c d H Q=>∃a b,x=.ref a/\bE K H a b ∧
 ¬ (HT.bo ↑b 0 c=0/\HT.bo ↑b ↑b d=↑b)/\∀p,H p=η->Q (.ref p) (upd H p (.tup (dq b c d)))
theorem Ko:lr X (vd X.K):=by
 ext g s u H x v w y e i z Q I l m n o h;let⟨a,d,rfl,p,t,q⟩:23:=h;cases l
 let⟨f,r,j,k⟩:12:=I.tuple p;let c:f.toArray.size=↑d:=r.length.symm;calc(zI2 "tuple" _ ⟨Yh.lookup,j.typeIs,HT.Kk j m n o (by rw[c];calc t) ?_ (by rw[c];calc k)⟩);rw[c];calc⟨.ref ⇑s,_,I.laid   (λb A q=>mi _ q) (vr _) ?_,Y,q _ (I.aM.fresh (vr _))⟩;calc⟨XQ (AS d e i) k,_,(r.drop (HT.bo ↑d 0 e)).take (HT.bo ↑d ↑d i-HT.bo ↑d 0 e),IsTup.new _ _⟩
def vf(K:KH):R2:=λx y H Q=>∃a b c d,x=.ref a/\y=.ref b/\bE K H a (c.map V.int)/\bE K H b (d.map V.int)/\Q (.bl (HT.lexLt c d)) H
theorem Kq(i:X.A.units<cLine):dn X (compareOp .Lt) (vf X.K):=by
 ext e s z H x y v u Q I j k h;let⟨a,b,f,g,rfl,rfl,l,m,q⟩:44:=h;cases j
 cases k
 let⟨d,n,o,_⟩:12:=I.tuple l;let⟨c,p,r,_⟩:12:=I.tuple m;let t:IntsAre d.toArray.toList f:=intsAre_of n;let w:IntsAre c.toArray.toList g:=intsAre_of p;calc HT.u_ o r t w i ⟨.bl (HT.lexLt f g),H,I,Y,q⟩
def Kr(K:KH):R2:=λx y H Q=>∃a b d c,x=.ref a/\y=.ref b/\bE K H a d/\bE K H b c/\d≠[]/\↑d+↑c<=sizeLine ∧
 (c=[]->Q (.ref a) H)/\(c≠[]->∀p,H p=η->Q (.ref p) (upd H p (.tup (d++c))))
theorem Vals.eQ{xs:-V}{us:-ν}(r:Vals xs us):us=[]↔xs=[]:=by
 cases r with
 |nil=>simp
 |cons _ _=>simp
theorem Ks:dn X (binaryOp .Add) (Kr X.K):=by
 ext e s A H x y v u Q I i j h;let⟨a,b,B,C,rfl,rfl,k,l,m,f,n,o⟩:47:=h;cases i
 cases j
 let⟨p,d,r,_⟩:12:=I.tuple k;let⟨g,c,t,_⟩:12:=I.tuple l;calc HT.Kg r t (λz=>m (d.eQ.mp z)) (λz=>⟨.ref a,H,I,Y,n (c.eQ.mp z)⟩) (λz=>⟨.ref ⇑s,_,I.laid   (λb D q=>mi _ q) (vr _) ?_,Y,o (λw=>z (c.eQ.mpr w)) _ (I.aM.fresh (vr _))⟩) (by rw[<-↑d,<-↑c];calc f);calc⟨by rw[KG];calc f,_,d.append c,IsTup.new _ _⟩
end
meta def gY(n:Nat)(i:Int):Option Nat:=if 0<=i then(if i<n then ζ i.toNat else η) else if -(n:Int)<=i then ζ (i+n).toNat else η
meta def eD{a:Type}(xs:-a)(i:Int):Option a:=(gY ↑xs i).bind λj=>xs[j]?
theorem AU{n i j}(h:gY n i=ζ j):seqIndex? i n=ζ j/\j<n /\ -(n:Int)<=i/\i<n:=by
 unfold gY at h
 by_cases b:0<=i
 .rw[W_ b] at h
  by_cases a:i<n
  .rw[W_ a] at h
   let e:=XA h;exact⟨by rw[q3Q b a,e],⋯,⋯,a⟩
  .rw[Vq a] at h;cases h
 .rw[Vq b] at h
  by_cases a : -(n:Int)<=i
  .rw[W_ a] at h
   let e:=XA h;exact⟨by rw[q3o ⋯ a,e],⋯,a,⋯⟩
  .rw[Vq a] at h;cases h
theorem vg{a}{xs:-a}{i v}(h:eD xs i=ζ v):∃j,seqIndex? i ↑xs=ζ j/\xs[j]?=ζ v/\j<↑xs /\ -(↑xs:Int)<=i/\i<↑xs:=by
 unfold eD at h
 cases e:gY ↑xs i with
 |none=>rw[e] at h;cases h
 |some j =>
  rw[e] at h;let⟨b,c,d,f⟩:03:=AU e;calc⟨j,b,h,c,d,f⟩
theorem iG{a}{xs:-a}{j:Nat}{v}(h:xs[j]?=ζ v):eD xs (j:Int)=ζ v:=by
 let b:=(mj.mp h).1
 let e:gY ↑xs j=ζ j:=by
  unfold gY;rw[W_ ⋯,W_ ⋯];simp
 unfold eD;rw[e];calc h
def AV(b:υ):Prop:=∀o i,subscripted b ι o i=operate [o,i] (getItem o i)
def o5(X:Cx)(r:R2):Prop :=
 ∀(c a:υ)(b:ax)(s:ο)(d:St)(H:Hp)(x y:V)(v u:ν)(Q:VK),Inv X b d H s->RelV x v->RelV y u->r x y H Q →
  subscripted a ι v u=operate [v,u] (getItem v u)->ρ (ς X.prog X.w) X.A (subscriptTail c a v u) (EP X b d Q) X.xe s
def AW(X:Cx)(e:String)(r:V->-V->Hp->VK->Prop):Prop :=
 ∀(a:ax)(s:ο)(b:St)(H:Hp)(x:V)(c:-V)(v:ν)(d:-ν)(Q:VK),Inv X a b H s->RelV x v->Vals c d->r x c H Q →
  ρ (ς X.prog X.w) X.A (call (.builtin e) (v::d)) (EP X a b Q) X.xe s
section
variable{X:Cx}{a b:υ}{ta tb:TE}{pos:Ε}
theorem o7{r:R2}(d:o5 X r)(e:JE X a ta)(f:JE X b tb)(g:AV b):JE X (.Subscript a b pos) (oS r ta tb):=by
 calc⟨λc s i H Q I h=>Subscript_ (lX e f I h λv u j x y k l m n q=>d a b c j i k x y v u Q l m n q (g _ _))⟩
def vh(K:KH):R2:=λx y H Q=>∃p a i v,x=.ref p/\y=.int i/\bf K H p a/\eD a i=ζ v/\Q v H
def vi(K:KH):R2:=λx y H Q=>∃p a i v,x=.ref p/\y=.int i/\bE K H p a/\eD a i=ζ v/\Q v H
def vj:R2:=λx y H Q=>∃z i c,x=.str z/\y=.int i/\↑z<=sizeLine/\eD z.cps.toList i=ζ c/\Q (.str ⟨#[c]⟩) H
theorem rz:o5 X (vh X.K):=by
 ext d e a s A H x y v u Q I B C h m;let⟨p,M,i,z,rfl,rfl,D,E,q⟩:44:=h;cases B
 let⟨t,rfl⟩:=C;let⟨f,r,g,N⟩:12:=I.list D;let⟨j,c,F,O,G,J⟩:14:=vg E;let⟨w,n,k⟩:=r.get F;let L:=↑r;let P:=lY;let b:EP X a A Q w s:=⟨z,H,I,k,q⟩
 by_cases o:0<=i
 .let l:=by
   rw[q3Q o J] at c;exact XA c
  exact item_listR g.isList o ⋯ (by rw[l];simpa using n) b m
 .let l:(i+f.toArray.size).toNat=j:=by
   rw[q3o ⋯ G] at c;rw[KJ,<-L];exact XA c
  exact q1V  g.isList.typeIs q3p.lookup
   (wpAny_getItem_list_neg  g.isList ⋯ (by rw[KJ]<;>symm) ⋯ (by rw[l];simpa using n) ⟨Y,b⟩) m
theorem AX:o5 X (vi X.K):=by
 ext a b d s C H x y v u Q I f g h k;let⟨p,D,i,z,rfl,rfl,l,m,q⟩:44:=h;cases f
 let⟨t,rfl⟩:=g;let⟨n,r,e,E⟩:12:=I.tuple l;let⟨j,o,A,F,G,J⟩:14:=vg m;let⟨w,B,c⟩:=r.get A;let L:=lY
 exact q1V  e.typeIs slot_tuple_getitem.lookup
  (getItem_tuple   e ⋯ ⋯ (by rw[KJ,<-↑r];calc o) B⁻¹ ⟨Y,⟨z,H,I,c,q⟩⟩) k
theorem Kt:o5 X vj:=by
 ext a b d s r H x y v u Q I f g h k;let⟨z,i,c,rfl,rfl,w,l,q⟩:34:=h;let⟨t,rfl⟩:=f;let⟨A,rfl⟩:=g;let⟨j,e,m,B,n,o⟩:14:=vg l;let p:↑z.cps.toList=↑z:=by simp[Str.length]
 rw[p] at e n o;let C:=lY
 exact tail_any (typeIs_str s z t) slot_str_getitem.lookup (getItem_str  (by
  rw[(Bh ⋯),(Bh ⋯),q1y]) (by rw[e];simpa using m) ⟨.str ⟨#[c]⟩,H,I.tok _,⟨_,Y⟩,q⟩) k
theorem Ku(a:-ν) n j u:X7 (·.setIfInBounds j u) {cls:=.type "list",data:=.seq a.toArray n}={cls:=.type "list",data:=.seq (a.set j u).toArray n}:=by
 simp[X7]
theorem Inv.lst{b:ax}{c:St}{H:Hp}{s:ο}{p:Z}{xs:-V}(I:Inv X b c H s)(h:H p=ζ (.lst xs)):
  ∃(a:-ν)(n:Nat),Vals xs a/\s.heap.get? p=ζ {cls:=.type "list",data:=.seq a.toArray n}/\↑xs<=sizeLine:=by
 let⟨z,a,n,r,e⟩:0121:=I.aM p _ h;calc(zI2 a n ⟨r,e,z⟩)
theorem Inv.l_{a:ax}{g:St}{H:Hp}{s:ο}{p:Z}{xs ys:-V}{c gA:-ν}{n d:Nat}{f:Γ->Γ}(I:Inv X a g H s)(h:H p=ζ (.lst xs))
  (j:s.heap.get? p=ζ {cls:=.type "list",data:=.seq c.toArray n}) (i:f {cls:=.type "list",data:=.seq c.toArray n}={cls:=.type "list",data:=.seq gA.toArray d}) (r:Vals ys gA) (hz:↑ys<=sizeLine) (t:Nat) :
  Inv X a g (upd H p (.lst ys)) {s with heap:=s.heap.update p f,toks:=t}:=by
 let e:(s.heap.update p f).get? p=ζ {cls:=.type "list",data:=.seq gA.toArray d}:=by
  rw[XC f j (by rw[i]<;>rfl),i]
 calc I.write   (by rw[h];trivial) (.inl Y) (λb u k q=>(XI _ _ (YD k)).trans q) ⟨_,e⟩ ?_;calc⟨hz,gA,d,r,e⟩
def AY:V->V->V->Hp->(Hp->Prop)->Prop:=λo i v H Q=>∃p a k j,o=.ref p/\i=.int k/\H p=ζ (.lst a)/\gY ↑a k=ζ j/\Q (upd H p (.lst (a.set j v)))
theorem set_list:oO X AY:=by
 ext f s D H o i v E F u Q I y z A h;let⟨p,G,k,j,rfl,rfl,g,B,q⟩:44:=h;cases y
 let⟨t,rfl⟩:=z;let⟨a,n,r,c,C⟩:22:=I.lst g;let⟨b,J,l,m⟩:03:=AU B;let d:=↑r;let K:=lY
 let w :=
  I.l_ g c (Ku a n j u) (r.set A j) (by rw[Yr];calc C) s.toks
 by_cases x:0<=k
 .let e:=by
   rw[q3Q x m] at b;exact XA b
  exact PySem.W.ki_setAt c x ⋯ (by rw[KJ,<-d];calc m) (by rw[e];calc⟨_,w,q⟩)
 .let e:(k+a.toArray.size).toNat=j:=by
   rw[q3o ⋯ l] at b;rw[KJ,<-d];exact XA b
  calc PySem.W.ki_setBack c ⋯ (by rw[KJ,<-d];calc l) ⋯ (by rw[e];calc⟨_,w,q⟩)
theorem Kv a b n:(sliceBounds a b η n).1=((HT.bo n 0 a:Nat):Int)/\(sliceBounds a b η n).2.1=((HT.bo n n b:Nat):Int)/\(sliceBounds a b η n).2.2=1:=by
 refine⟨?_,?_,Y⟩
 .cases a with
  |none=>simp[sliceBounds,HT.bo]
  |some i =>
   erw[sliceBounds,HT.bo,q1C,show 1>0 by decide,q0c]
   by_cases h:i<0
   .erw[h,q0c]<;>symm
   .erw[h,Z8]<;>symm
 .cases b with
  |none=>simp[sliceBounds,HT.bo]
  |some i =>
   erw[sliceBounds,HT.bo,q1C,show 1>0 by decide,q0c]
   by_cases h:i<0
   .erw[h,q0c]<;>symm
   .erw[h,Z8]<;>symm
theorem Kw(a:-ν) b c:slicePick a.toArray b c η=((a.drop (HT.bo ↑a 0 b)).take (HT.bo ↑a ↑a c-HT.bo ↑a 0 b)).toArray:=by
 let⟨d,e,f⟩:02:=Kv b c a.toArray.size;unfold slicePick;rw[d,e,f];erw[sliceRange_one,pick_run,KJ]<;>rfl
def vk(K:KH):V->Option Int->Option Int->Hp->VK->Prop:=λx c d H Q=>∃a b,x=.ref a/\bf K H a b/\∀p,H p=η->Q (.ref p) (upd H p (.lst (dq b c d)))
theorem f6:lr X (vk X.K):=by
 ext f s t H x v u w e g y Q I j k l m h;let⟨a,c,rfl,n,q⟩:22:=h;cases j
 let⟨o,r,i,p⟩:12:=I.list n;let d:=↑r;calc(zI2 "list" _ ⟨q3p.lookup,i.isList.typeIs,wpAny_getItem_list_slice i.isList k l m .none (by simp) ?_ (by rw[KJ]<;>symm)⟩);rw[Kw,<-d];calc⟨.ref ⇑s,_,I.laid   (λb z q=>mi _ q) (vr _) ?_,Y,q _ (I.aM.fresh (vr _))⟩;calc⟨XQ (AS c e g) p,_,0,(r.drop (HT.bo ↑c 0 e)).take (HT.bo ↑c ↑c g-HT.bo ↑c 0 e),Vs _ Y⟩
meta def ir:V->Bool
 |.non=>θ
 |.bl _=>θ
 |.int _=>θ
 |.str _=>θ
 |_=>ι
meta def eZ:V->V->Bool
 |.non,.non=>θ
 |.bl a,.bl b=>a==b
 |.bl a,.int b=>(if a then 1 else 0)==b
 |.int a,.bl b=>a==(if b then 1 else 0)
 |.int a,.int b=>a==b
 |.str a,.str b=>a==b
 |_,_=>ι
theorem Kx{A:Β}{s:ο}{y x:V}{u v:ν}(e:RelV y u)(c:RelV x v)(fy:ir y=θ)(fx:ir x=θ):q0j A s u v (eZ y x):=by
 cases y with
 |non =>
  cases e
  cases x with
  |non=>cases c;exact q0R _
  |bl b=>cases c;exact q2o b
  |int b=>let⟨t,rfl⟩:=c;exact q2y b t
  |str b=>let⟨t,rfl⟩:=c;exact q2z b t
  |_=>exact absurd (fx) Xh
 |bl a =>
  cases e
  cases x with
  |non=>cases c;exact q2p a
  |bl b=>cases c;exact q2q a b
  |int b=>let⟨t,rfl⟩:=c;exact q2A a b t
  |str b=>let⟨t,rfl⟩:=c;exact q2B a b t
  |_=>exact absurd (fx) Xh
 |int a =>
  let⟨d,rfl⟩:=e
  cases x with
  |non=>cases c;exact q2C a d
  |bl b=>cases c;exact q2D a d b
  |int b=>let⟨t,rfl⟩:=c;exact q1b a d b t
  |str b=>let⟨t,rfl⟩:=c;exact q08 a d b t
  |_=>exact absurd (fx) Xh
 |str a =>
  let⟨d,rfl⟩:=e
  cases x with
  |non=>cases c;exact q2E a d
  |bl b=>cases c;exact q2F a d b
  |int b=>let⟨t,rfl⟩:=c;exact q09 a d b t
  |str b=>let⟨t,rfl⟩:=c;exact q21 a d b t
  |_=>exact absurd (fx) Xh
 |_=>calc absurd (fy) Xh
meta def ma(x:V)(u:ν):Bool:=match u with
 |.none=>eZ .non x
 |.bool b=>eZ (.bl b) x
 |.int i _=>eZ (.int i) x
 |.str z _=>eZ (.str z) x
 |_=>ι
theorem vl{x y:V}{u:ν}(r:RelV y u)(f:ir y=θ):ma x u=eZ y x:=by
 cases y with
 |non=>cases r;rfl
 |bl b=>cases r;rfl
 |int i=>let⟨t,rfl⟩:=r;rfl
 |str z=>let⟨t,rfl⟩:=r;rfl
 |_=>calc absurd (f) Xh
theorem vm{A:Β}{s:ο}{x:V}{v:ν}(b:RelV x v)(c:ir x=θ):∀{xs:-V}{us:-ν},Vals xs us->xs.all ir=θ->∀u∈us,q0j A s u v (ma x u)
 |_,_,.nil,_=>λu a=>by cases a
 |y::e,u::g,.cons r t,f=>λd a=>by
  rw[ZU,Xs] at f;rcases KN.mp a with rfl|a
  .rw[vl r f.1];exact Kx r b f.1 c
  .calc vm b c t f.2 d a
meta def rA(x:V)(xs:-V):Bool:=xs.any λy=>eZ y x
theorem AZ:fc X (.builtin "len") (λxs H Q=>∃p ys,xs=[.ref p]/\(bf X.K H p ys\/bE X.K H p ys)/\Q (.int ↑ys) H):=by
 ext g s l H k m Q I r h;let⟨p,f,rfl,b,q⟩:22:=h;let⟨u,rfl,i⟩:=vals1 r;cases i
 let n:=lY;rcases b with b|b
 .let⟨c,d,e,j⟩:=I.list b
  let a:=↑d;exact Calls.call_len_list e.isList (by erw[KJ]<;>symm) ⟨.int ↑f,H,I.tok _,⟨s.toks+1,by rw[KJ,a]⟩,q⟩
 .let⟨c,d,e,j⟩:=I.tuple b
  let a:=↑d;calc len_tuple e (by erw[KJ]<;>symm) ⟨.int ↑f,H,I.tok _,⟨s.toks+1,by rw[KJ,a]⟩,q⟩
theorem Ky:fc X (.builtin "len") (λxs H Q=>∃z,xs=[.str z]/\↑z<=sizeLine/\Q (.int ↑z) H):=by
 ext a s c H b d Q I r h;let⟨z,rfl,e,q⟩:12:=h;let⟨u,rfl,t,rfl⟩:=vals1 r;let f:=lY;calc len_str ⋯ ⟨.int ↑z,H,I.tok _,⟨_,Y⟩,q⟩
theorem vn:fc X (.type "list") (λxs H Q=>∃p ys,xs=[.ref p]/\(bf X.K H p ys\/bE X.K H p ys)/\∀l,H l=η->Q (.ref l) (upd H l (.lst ys))):=by
 ext g s C H E F Q I r h;let⟨p,v,rfl,i,q⟩:22:=h;let⟨u,rfl,D⟩:=vals1 r;cases D
 let m:∀a,Vals v a->v.length<=sizeLine->∀c d,(∀b B,s.heap.get? b=ζ B->c.get? b=ζ B) →
   c.get? ⇑s=ζ {cls:=.type "list",dict:=none,data:=.seq a.toArray d,slots := #[]}->EP X g C Q (.ref ⇑s) {s with heap:=c}:=λa f j c d k e =>
  ⟨.ref ⇑s,_,I.laid  k (vr _) (show aP X.prog X.w _ c _ (.lst v) from⟨j,a,d,f,e⟩),Y,q _ (I.aM.fresh (vr _))⟩
 rcases i with i|i
 .let⟨a,f,x,j⟩:=I.list i
  let t:=↑f;let⟨o,y,z,n,A⟩:=x.isList;exact q4V p (.inl Y) y z A (λc d k e=>m a f j c d k e) (by erw[KJ]<;>symm)
 .let⟨a,f,x,j⟩:=I.tuple i
  let t:=↑f;let⟨o,y,z,n,A⟩:=x;calc q4V p (.inr Y) y z A (λc d k e=>m a f j c d k e) (by erw[KJ]<;>symm)
theorem A0:fc X (.type "tuple") (λxs H Q=>∃p ys,xs=[.ref p]/\((bf X.K H p ys/\∀l,H l=η->Q (.ref l) (upd H l (.tup ys)))\/(bE X.K H p ys/\Q (.ref p) H))):=by
 ext a s j H y z Q I r h;let⟨p,t,rfl,h⟩:=h;let⟨u,rfl,v⟩:=vals1 r;cases v
 rcases h with⟨f,q⟩|⟨f,q⟩
 .let⟨c,g,i,k⟩:=I.list f
  let m:=↑g;calc call_tuple_list i.isList (λd w=>?_) (by erw[KJ]<;>symm);let n:Inv X a j H {s with heap:=d}:=I.kept  w
  let x:Inv X a j (upd H d.objs.size (.tup t)) {s with heap:=d.push {cls:=.type "tuple",data:=.seq c.toArray}} :=
   n.laid  (λb o e=>mi _ e) (vr _) (⟨k,c,g,IsTup.new _ _⟩)
  exact⟨.ref d.objs.size,_,x,Y,q _ (n.aM.fresh (vr _))⟩
 .let⟨c,g,i,k⟩:=I.tuple f
  calc call_tuple_same i ⟨.ref p,H,I,Y,q⟩
def vo(K:KH)(T:String)(x:V)(H:Hp):Prop:=match x with
 |.str _=>T="str"
 |.int _=>T="int"
 |.ref p=>(T="list" /\ ∃b,bf K H p b)\/(T="tuple" /\ ∃o,K.lookup p=ζ o/\o.cls=.type "tuple" /\ o.dict=η) ∨
   (T="dict" /\ ((∃a,H p=ζ (.dK a))\/∃a,H p=ζ (.dT a)))\/(T="set" /\ ∃S n,H p=ζ (.set S n))
 |_=>False
theorem Kz{f:ax}{m:St}{H:Hp}{s:ο}{T:String}{x:V}{v:ν}(I:Inv X f m H s)(r:RelV x v)(ty:vo X.K T x H):
  s.TypeIs v T/\∀a,v=.ref a->∃k,s.heap.get? a=ζ k/\k.dict=η:=by
 cases x with
 |str z =>
  let⟨t,rfl⟩:=r;cases(ty)
  exact⟨typeIs_str s z t,λ_ e=>nomatch e⟩
 |int i =>
  let⟨t,rfl⟩:=r;cases(ty)
  exact⟨q4p s i t,λ_ e=>nomatch e⟩
 |ref p =>
  cases r
  rcases ty with⟨rfl,y,q⟩|⟨rfl,o,b,u,g⟩|⟨rfl,b⟩|⟨rfl,S,n,b⟩
  .let⟨w,_,l,_⟩:12:=I.list q
   calc⟨l.isList.typeIs,λa e=>?_⟩;cases e
   let⟨o,n,e,c,g,_⟩:23:=l;exact⟨o,e,g⟩
  .refine⟨⟨o,I.dY p o b,u⟩,λa e=>?_⟩
   cases e
   exact⟨o,I.dY _ o b,g⟩
  .let z:∃o,s.heap.get? p=ζ o/\o.ExactDict:=by
    rcases b with⟨h,b⟩|⟨h,b⟩
    .let⟨_,_,_,_,o,_,_,e,d,_⟩:021132:=I.aM p _ b
     exact⟨o,e,d⟩
    .let⟨_,_,_,_,o,_,_,e,d,_⟩:021132:=I.aM p _ b
     exact⟨o,e,d⟩
   let⟨o,e,d⟩:=z;calc⟨⟨o,e,d.1⟩,λa j=>?_⟩;cases j
   exact⟨o,e,d.2.1⟩
  .let⟨o,_,_,_,e,d,_⟩:42:=I.aM p _ b
   calc⟨⟨o,e,d.1⟩,λa j=>?_⟩;cases j
   exact⟨o,e,d.2.1⟩
 |_=>calc Xu ty
def nD(K:KH)(T:String)(r:V->-V->Hp->VK->Prop)(c:TE)(t:TA):TE:=λa H Q=>c a H λx b=>vo K T x b/\t a b λd e=>r x d e Q
variable{o e:υ}{es:-υ}{to:TE}{t:TA}{name:π}{apos dr:Ε}{T id:String}{r:V->-V->Hp->VK->Prop}
theorem nE(m:PlainAttrs T)(d:Slot T name id)(g:typeOf (.builtin id)=pure (.type "method_descriptor"))(n:AW X id r)(p:JE X o to)(q:JA X (e::es) t)
  (b:‹attributeBase o name X.env (eval o X.env)=eval o X.env›)
  (f:‹((backTo dr (starEach (e::es) X.env)).all (λx => !x.1)&&(backToKw dr (keywordEach [] X.env)).all (λx=>x.1.isSome)
   && μ (↑(e::es)+↑([]:-Keyword)+(if([]:-Keyword).isEmpty then 0 else 1)<30))=θ›)
  (c:‹(apos.endLine==dr.line)=θ›) (u:‹cI X e es›) (hplain:‹cX X dr es›) :
  JE X (.Call (.Attribute o name apos) (e::es) [] dr) (nD X.K T r to t):=by
 calc⟨λa s i H Q I h=>wpAny_Call_method_late b f c Y (aX (p a s i H _ I h) ?_)⟩;ext v w ⟨x,y,j,k,z,A⟩;let⟨B,C⟩:=Kz j k z;calc(zI2 T id ⟨m,d,g,B,C,?_⟩);let l:=q dr a w i y _ j A;rw[u] at l ⊢;calc q1W (by show(ι||(backTo dr (starEach es X.env)).any (·.1))=ι;rw[hplain]<;>rfl) (q2r (aX l λD E ⟨F,G,J,L,M⟩↦n a E i G x F v D Q J k L M))
end
def o9(X:Cx)(e:String)(r:V->-V->Hp->VK->Prop):Prop :=
 ∀(a:ax)(s:ο)(b:St)(H:Hp)(x:V)(c:-V)(v:ν)(d:-ν)(Q:VK),Inv X a b H s->RelV x v->Vals c d->r x c H Q →
  ρ (ς X.prog X.w) X.A (call (.builtin e) (v::d)) (EP X a b Q) X.xe s
theorem Vals.one:∀{x:V}{us:-ν},Vals [x] us->∃u,us=[u]/\RelV x u:=by
 ext x a h
 cases h with
 |cons r h=>cases h;calc⟨_,Y,r⟩
theorem Vals.two:∀{x y:V}{us:-ν},Vals [x,y] us->∃u v,us=[u,v]/\RelV x u/\RelV y v:=by
 ext x y a h
 cases h with
 |cons r h =>
  let⟨v,rfl,q⟩:=Vals.one h;calc(zI2 _ _ ⟨Y,r,q⟩)
theorem Vals.eraseIdx:∀{xs:-V}{us:-ν}(i:Nat),Vals xs us->Vals (xs.eraseIdx i) (us.eraseIdx i)
 |_,_,_,.nil=>.nil
 |_,_,0,.cons _ t=>t
 |_,_,i+1,.cons r t=>.cons r (Vals.eraseIdx i t)
theorem Vals.rep{xs:-V}{us:-ν}(h:Vals xs us):∀k:Nat,Vals (Xb k xs).flatten (Xb k us).flatten
 |0=>.nil
 |k+1=>by
  calc Vals.append h (Vals.rep h k)
theorem A_{a:Type}:∀(l:-a) i,↑(l.eraseIdx i)<=↑l
 |[],_=>vr _
 |_::_,0=>q0N _
 |_::r,i+1=>q3J (A_ r i)
theorem foldl_rep(a:-ν):∀k acc,
  q4q (λc d=>c++d) acc.toArray (Xb k a.toArray)=(acc++(Xb k a).flatten).toArray
 |0,b=>by simp
 |k+1,b=>by
  let e:b.toArray++a.toArray=(b++a).toArray:=by simp
  let f:(b++a)++(Xb k a).flatten=b++(Xb (k+1) a).flatten:=by
   rw[ZC,Y9,YV]
  rw[<-f,<-foldl_rep a k (b++a),<-e,ZC,q12]
section
variable{X:Cx}{pins:ax}{σ:St}{H:Hp}{s:ο}{l b:Z}{xs ys zs:-V}
theorem Inv.me{a gA:-ν}{n:Nat}{f:Array ν->Array ν}{t':Nat}(I:Inv X pins σ H s)(b:H l=ζ (.lst xs))
  (e:s.heap.get? l=ζ {cls:=.type "list",data:=.seq a.toArray n}) (c:f a.toArray=gA.toArray) (d:Vals ys gA) (hz:↑ys<=sizeLine) :
  Inv X pins σ (upd H l (.lst ys)) {s with heap:=s.heap.update l (X7 f),toks:=t'}:=by
 let q:=PySem.IsL.update e f;rw[c] at q;calc I.write   (by rw[b];calc trivial) (.inl Y) (λi u g h=>(XI s.heap (X7 f) (YD g)).trans h) ⟨_,q⟩ ?_;calc⟨hz,gA,_,d,q⟩
theorem Inv.b8{a:-ν}{t':Nat}(I:Inv X pins σ H s)(b:Vals ys a)(hz:↑ys<=sizeLine):
  Inv X pins σ (upd H ⇑s (.lst ys)) {s with heap:=s.heap.push {cls:=.type "list",data:=.seq a.toArray},toks:=t'} :=
 I.laid (λ_ _ q=>mi _ q) (vr _) ⟨hz,a,0,b,Vs _ Y⟩
theorem Inv.fresh(I:Inv X pins σ H s):H ⇑s=η:=I.aM.fresh (vr _)
theorem Inv.gZ(I:Inv X pins σ H s)(b:H l=ζ (.lst xs)):↑xs<=sizeLine/\∃(a:-ν)(n:Nat),Vals xs a/\↑xs=↑a/\s.heap.get? l=ζ {cls:=.type "list",data:=.seq a.toArray n}:=by
 let⟨z,a,n,r,e⟩:0121:=I.aM l _ b;calc⟨z,a,n,r,↑r,e⟩
theorem Ba{n:Nat}(h:n<=sizeLine):q0a n=ι:=by
 calc Bh ⋯
end
section
variable{X:Cx}
def Bb:V->-V->Hp->VK->Prop:=λx b H Q=>∃l a y,x=.ref l/\b=[y]/\H l=ζ (.lst a)/\↑a<sizeLine/\Q .non (upd H l (.lst (a++[y])))
theorem Bc:o9 X "list.append" Bb:=by
 ext b s i H x j v k Q I d f h;let⟨l,m,y,rfl,rfl,c,o,q⟩:34:=h;cases d
 let⟨u,rfl,g⟩:=f.one;let⟨z,a,n,r,p,e⟩:0122:=I.gZ c;calc q0I F.slot_list_append ⟨_,e,Y⟩ F.entry_list_append (F.args_list_append_2 _ _) (PySem.list_append l a.toArray n u (by rw[KJ];symm)) ⟨e,⟨.non,_,I.me  c e (by simp) (r.append (.cons g .nil)) ?_,Y,q⟩⟩;rw[KG,XG];symm
def Bd:V->-V->Hp->VK->Prop:=λx d H Q=>∃l b a c,x=.ref l/\d=[.ref b]/\H l=ζ (.lst a)/\H b=ζ (.lst c)/\↑a+↑c<=sizeLine/\Q .non (upd H l (.lst (a++c)))
theorem KC:o9 X "list.extend" Bd:=by
 ext g s A H x B v C Q I j k h;let⟨l,b,D,E,rfl,rfl,i,m,G,q⟩:45:=h;cases j
 let⟨u,rfl,o⟩:=k.one;cases o
 let⟨z,c,n,r,J,e⟩:0122:=I.gZ i;let⟨K,a,p,t,w,y⟩:0122:=I.gZ m;let f:c.toArray.size+a.toArray.size<=sizeLine:=by rw[KJ,KJ];symm
 let d:¬ (!c.toArray.isEmpty&&q0a (c.toArray.size+a.toArray.size))=θ:=by
  rw[Ba f,q1d];exact Xh
 refine q0I F.slot_list_extend ⟨_,e,Y⟩ F.entry_list_extend (F.args_list_extend_2 _ _)
  (AutoSeq1.list_extend_list_list_0 l c.toArray n b a.toArray p d ⋯ ⋯) ⟨e,y,?_⟩
 calc⟨.non,_,I.me  i e (by simp) (r.append t) ?_,Y,q⟩;rw[KG];symm
def Be:V->-V->Hp->VK->Prop:=λx b H Q=>∃l a i k y,x=.ref l/\b=[.int i]/\H l=ζ (.lst a) /\ -(2 ^ 63)<=i/\i<2 ^ 63/\seqIndex? i ↑a=ζ k/\a[k]?=ζ y/\Q y (upd H l (.lst (a.eraseIdx k)))
theorem KD:o9 X "list.pop" Be:=by
 ext c s E H x G v J Q I f g h;let⟨l,j,i,k,y,rfl,rfl,d,m,o,p,A,q⟩:57:=h;cases f
 let⟨u,rfl,B⟩:=g.one;let⟨t,rfl⟩:=B;let⟨z,a,n,r,C,e⟩:0122:=I.gZ d;let⟨w,D,b⟩:=r.get A
 refine q0I F.slot_list_pop ⟨_,e,Y⟩ F.entry_list_pop (F.args_list_pop_2 _ _)
  (MeetsSeq.list_pop_at l a.toArray n i t k w (q4r m o) (by rw[KJ,<-C];calc p) (by rw[<-XB];calc D) (by rw[KJ];symm)) ⟨e,?_⟩
 refine⟨y,_,I.me  d e ?_ (r.eraseIdx k) ?_,b,q⟩
 .rw[List.eraseIdxIfInBounds_toArray]
 .let:=A_ j k
  symm
def vp:R2:=λx y H Q=>∃l b a c,x=.ref l/\y=.ref b/\H l=ζ (.lst a)/\H b=ζ (.lst c)/\↑a+↑c<=sizeLine/\∀p,H p=η->Q (.ref p) (upd H p (.lst (a++c)))
theorem rB:dn X (binaryOp .Add) vp:=by
 ext d s t H x y v u Q I f g h;let⟨l,b,w,A,rfl,rfl,i,j,B,q⟩:45:=h;cases f
 cases g
 let⟨z,c,n,r,C,e⟩:0122:=I.gZ i;let⟨D,a,E,k,m,o⟩:0122:=I.gZ j;calc PySem.P.add_list e o ?_ (by rw[KJ,KJ];symm);let p:c.toArray++a.toArray=(c++a).toArray:=by simp
 rw[p];calc⟨.ref _,_,I.b8 (t':=s.toks) (r.append k) (by rw[KG];symm),Y,q _ I.fresh⟩
def vq:R2:=λx y H Q=>∃l k a,x=.ref l/\y=.int k/\H l=ζ (.lst a) /\ -(2 ^ 63)<=k/\k<2 ^ 63/\↑a*k.toNat<=sizeLine ∧
 ∀p,H p=η->Q (.ref p) (upd H p (.lst (Xb k.toNat a).flatten))
theorem len_rep{a:Type}(xs:-a)(k:Nat):(Xb k xs).flatten.length=k*↑xs:=by
 induction k with
 |zero=>simp
 |succ k b=>rw[ZC,Y9,KG,b,Nat.succ_mul,Nat.add_comm]
theorem Bf:dn X (binaryOp .Mult) vq:=by
 ext p s L H x y v u Q I A B h;let⟨l,k,M,rfl,rfl,C,D,E,w,q⟩:36:=h;cases A
 let⟨t,rfl⟩:=B;let⟨z,b,n,r,G,e⟩:0122:=I.gZ C;let d:b.toArray.size*k.toNat<=sizeLine:=by rw[KJ,<-G];exact w
 let f:¬ b.toArray.size*k.toNat>(2 ^ 63-1) / 8:=by
  let:(sizeLine:Nat)<=(2 ^ 63-1) / 8:=by decide
  symm
 let g:¬ (!Builtin.List.listFitsIndex k)=θ:=by
  rw[q4r D E];exact Xh
 let c:¬ q0a (b.toArray.size*k.toNat)=θ:=by
  rw[Ba d];exact Xh
 let i:q4q (λj o=>j++o) #[] (Xb (if b.toArray.isEmpty=θ then 0 else k.toNat) b.toArray)=(Xb k.toNat b).flatten.toArray:=by
  let J:∀m:Nat,q4q (λj o=>j++o) #[] (Xb m b.toArray)=(Xb m b).flatten.toArray:=λm=>by
   let:=foldl_rep b m [];rw[q17] at this;exact this
  rw[J]
  cases b with
  |nil=>simp
  |cons a N=>rw[Vq (by simp)]
 refine wpAny_binaryOp_repeat_ref (T:="list") (U:="int") (by decide) ⟨_,e,Y⟩ (λK=>q4p K k t) noFill_list_mul F.fills_int_mul q30 repeat_list F.slot_int_index.lookup
  (q0I q30 (q4p s k t) F.entry_int_rmul (F.args_int_rmul_2 _ _) (int___rmul___int_list k t l b.toArray n)
   ⟨e,Y,⟨_,e,Y⟩,q0I F.slot_list_mul ⟨_,e,Y⟩ F.entry_list_mul (F.args_list_mul_2 _ _) (AutoListH.list___mul___list_int_3 l b.toArray n k t g f c) ⟨e,?_⟩⟩)
 rw[i];calc⟨.ref _,_,I.b8 (t':=s.toks) (r.rep k.toNat) (by rw[len_rep,q5n];calc w),Y,q _ I.fresh⟩
end
section
variable{prog:ψ}{w:ω}{A:Β}{E:aJ}{s:ο}
end
section
variable{X:Cx}
end
end L2
namespace Att
open PySem PySem.W PySem.Calls PyProof.Rows
theorem eI{P h}:∀ns vs,WellAll P h vs (ns.map WData.int)->IntsAre vs ns:=by
 ext c
 induction c with
 |nil =>
  ext d w;cases w
  exact .nil
 |cons n c e =>
  ext d w
  cases w with
  |cons a b =>
   cases a
   calc .cons _ _ (e _ b)
theorem iH{l:OpenLaw}{n}(hn:l.most=ζ n){P h args b}
  (c:l.row.toRowW.claim.pre args=θ) (j:WellAll P h b args) :
  ∃a vs ns,b=[XH a]/\args=[WData.list (ns.map WData.int)]/\h.get? a=ζ {cls:=.type "list",data:=.seq vs.toArray}/\IntsAre vs ns/\ns.length<=n:=by
 let⟨d,r,rfl,k,m⟩:22:=hasAllW_cons ((pre_splitW c).1);obtain rfl:=hasAllW_nil m;let⟨v,rfl,o⟩:=hasW_list k;let⟨g,rfl⟩:=items_int o
 let e:↑g<=n:=by
  let i:=by
   let i:=(holds_andW ((pre_splitW c).2)).1;rw[hn] at i;exact i
  let h5:=condW_of i (w_not (w_lt w_lit (w_len_list (w_arg Y))));rw[kF] at h5;calc q3A λq=>?_;let p:(n:Int)<↑g:=by symm
  first
   |(rw[Bj p] at h5;calc absurd h5 (by decide))
   |(simp at h5)
 cases j with
 |cons s t =>
  cases t
  cases s with
  |list u f=>calc(zI3 _ _ g ⟨Y,Y,u,eI g _ f,e⟩)
theorem iI(l:OpenLaw) args:l.row.toRowW.claim.post args (.bool θ) args=θ :=
 postW_of
  (by first|rfl|decide|symm)
  (w_eq_bool (w_res Y) w_lit) Y
theorem gB{l:OpenLaw}{n:Nat}{q:ψ}{c:-π}{B:(π->Option ν)->Α->Prop}{C:ω->Α->Prop}{d:DefRec}
  (hn:l.most=ζ n) (u:d.params.defaults=[])
  (j:∀(w:ω)(e b:ο)(s v:π->Option ν)(i:Z)(o:Γ)(x t g:ν)(a:Z)(vs:-ν)(ns:-Int),
   Ground q c [] B w e s v b.heap->C w b.heap →
   b.heap.get? i=ζ o->o.data=.func (docDef d.name d.params d.body d.scope x t g)->b.heap.CodeRec t d.name->s d.name=ζ (.ref i) →
   b.heap.get? a=ζ {cls:=.type "list",data:=.seq vs.toArray}->IntsAre vs ns->ns.length<=n->b.gens = #[] →
   codeAny (ς l.prog w) callerA (.call (.ref i) ⟨[.ref a],[]⟩) (λr s'=>r=.ok (.ret (.bool θ))/\OldK b.heap s'.heap/\s'.os=b.os/\AllBare s'.gens) b) :
  WalkO q c B C l.row.toRowW d [] (λf vs=>q22 f vs):=by
 ext w e b s v G Y i o x t g K L M N y D z O E F X k H P A Q;obtain rfl:K=.none:=Dflts.none D u;obtain rfl:L=.none:=Dflts.noKw D;let⟨a,I,J,rfl,rfl,m,h,p⟩:34:=iH hn k A;calc enter_call (ZM (j w e b s v i o x t g a I J G Y M (fd_plain N) y z m h p O) λr W R=>?_);let⟨rfl,S,T,U⟩:03:=R;calc⟨.inl (zI3 (.bool θ) (.bool θ) [] ⟨rfl,λ_=>rfl,.bool θ,iI l _,λ_=>⟨q3d,λ_ V=>(nomatch V)⟩⟩),S,T,U⟩
section
variable{prog:ψ}{w:ω}{A:Β}{E:aJ}{s:ο}{K:Frag}
end
end Att
namespace L2
open PySem PySem.Spec PyProof.Rows
theorem Bg:∀{vs ns},IntsAre vs ns->Vals (ns.map V.int) vs
 |_,_,.nil=>.nil
 |_,_,.cons n t h=>.cons ⟨t,Y⟩ (Bg h)
meta def inClass(s:χ)(j:Nat):χ:=match s with
 |.ClassDef _ _ _ a _ _ _ _ _ _ _=>a.getD j (.Pass ⟨0,0,0,0⟩)
 |_=>.Pass ⟨0,0,0,0⟩
meta def iJ(s:χ):Arguments:=match s with
 |.FunctionDef _ a _ _ _ _ _ _ _ _=>a
 |_=>{posonlyargs:=[],args:=[],vararg:=none,kwonlyargs:=[],kw_defaults:=[],kwarg:=none,defaults:=[]}
meta def dA(s:χ):-χ:=match s with
 |.FunctionDef _ _ b _ _ _ _ _ _ _=>b
 |_=>[]
meta def cn(s:χ):Δ:=match s with
 |.FunctionDef _ _ _ _ _ _ a _ _ _=>a
 |_=>{kind:=.function,names:=[],isGenerator:=false,isCoroutine:=false}
abbrev eS:iF:=λ_ _ _ _ _ _=>False
abbrev E0:XK:=λ_ _ _=>False
theorem nG{X}:kD eS X E0:=λ_ _ _ _ _ _ _ h=>h.elim
structure fM(K:KH)(x qual:π)(st:χ)(f:Z)(fd:FuncData):Prop where
 ex:∃(oc:ν)(od:Option Z)(kV doc pm:ν)(an:Option Z)(d9 ct:ν)(KO:Array (Option ν)),
  fd=Yv x qual (iJ st) (dA st) (cn st) .none kV doc pm an d9 ct/\K.lookup f=ζ ⟨oc,od,.func fd,KO⟩/\Z1 K d9 qual=θ
 kp:Ym K (.ref f)=θ
section
variable{P:ψ}{w:ω}{K:KH}{mg:π->Option ν}{base:Α}
theorem fM.o_{x b:π}{st:χ}{f:Z}{j:FuncData}{N ps:-π}{k:Nat}{sp:Sp}(F:fM K x b st f j)(S:jW N ps (cn st))(e:∀vs H Q E,sp vs H Q E->↑vs=↑ps)
  (d:∀(c:ν)(A:Β)(a:-Ζ)(s:ο)(H:Hp)(vs:-V)(Q:VK)(E:XK),aV k (A.deeper (envOfC b (cn st) ⇑s f c))->sp vs H Q E →
   ∃t,b3 (bC eS P w K mg base N b (cn st) f c A a s H E).jy (dA st) t/\t {nx:=λ_ H'=>Q .non H',rt:=Q} (start N vs) H):bP P w K mg base eS (k+1) f j ps sp:=by
 let⟨r,u,v,m,y,z,c,B,n,rfl,o,g⟩:92:=F.ex;calc u7 o g S e λA a s H l Q E p i=>?_;let⟨t,h,q⟩:=d c A a s H l Q E p i;calc⟨t,h.jy,q⟩
theorem fM.binds{x a:π}{st:χ}{f:Z}{i:FuncData}{ps:-π}(F:fM K x a st f i)
  (h:∀(d b e:ν)(g:Option Z)(c ct:ν)(us:-ν),↑us=↑ps->bindArgs (Yv x a (iJ st) (dA st) (cn st) .none d b e g c ct) ⟨us,[]⟩=pure (ps.zip us)):Binds K i ps []:=by
 let⟨m,n,d,b,e,g,c,j,k,rfl,o,l⟩:92:=F.ex;calc .all (h d b e g c j)
theorem vu{x a:π}{st:χ}{f:Z}{j:ν}{m g:Option Z}{e:Array (Option ν)}{h d i b ct:ν}(l:K.lookup f=ζ ⟨j,m,.func (Yv x a (iJ st) (dA st) (cn st) .none h d i g b ct),e⟩)
  (c:Z1 K b a=θ) (k:Ym K (.ref f)=θ):fM K x a st f (Yv x a (iJ st) (dA st) (cn st) .none h d i g b ct):=⟨(zI7 j m h d i g b (zI2 ct e ⟨Y,l,c⟩)),k⟩
end
theorem lz{n:Nat}(h:n<=1000):n<sizeLine:=q03 h (by decide)
section
variable{X:Cx}
theorem jv(i:Nat){x:π}{pos:Ε}(b:‹X.N[i]?=ζ x›)(c:nz X.env.scope x:=by first|exact q0f Y|exact q2f (q0f Y)|calc q2f (q2f Y))(hd: ~~~(bB x))
  (a: ~~~((x==("__classdict__" : π))=ι)):JE X (.Name x pos) (fu i):=Am b c hd a
end
theorem ml{A B:Prop}(h:B):if ι=θ then A else B:=by
 calc h
theorem vv{A B:Prop}(h:A):if θ=θ then A else B:=by
 calc h
theorem vw{c A B:Prop}[Decidable c](a:c->A)(b:¬ c->B):if c then A else B:=by
 by_cases h:c
 .rw[W_ h]
  exact a h
 .rw[Vq h]
  calc b h
theorem KP{c A B:Prop}[Decidable c](a:c)(h:B):if(!μ c)=θ then A else B:=by
 rw[Bj a];calc ml h
def ay(H H':Hp):Prop:=∀b o,H b=ζ o->H' b=ζ o
theorem ay.trans{H d H2:Hp}(a:ay H d)(b:ay d H2):ay H H2:=λc o h=>b c o (a c o h)
theorem ay.free{H H':Hp}(e:ay H H'){l:Z}(h:H' l=q6x):H l=q6x:=by
 cases q:H l with
 |none=>rfl
 |some o =>
  rw[e l o q] at h;cases h
theorem ay.seq{K:KH}{H H':Hp}{a:Z}{xs:-V}(e:ay H H')(h:bf K H a xs):bf K H' a xs:=by
 rcases h with(h|⟨o,h⟩)|h
 .exact .inl (.inl (e _ _ h))
 .exact .inl (.inr ⟨o,e _ _ h⟩)
 .calc .inr h
theorem KQ{prog w A}{R:Result->ο->Prop}{s l a o p scope pos C acc env}(I:Nat->ο->Prop)
  (u:∀n s,I n s->ρ (ς prog w) A (pyNext C) (λr e=>match r with
   |none=>R (.ok .next) e
   |some v=>ρ (ς prog w) A (letOwnedTupleGo a C v) (λ_ g=>ρ (ς prog w) A (assign a env v) (λ_ i =>
     ρ (ς prog w) A (forIn p θ λc r=>if r=θ then do let q <- isTrue c env (eval c env);pure (YK q) else pure (YK r)) (λq b =>
      if q=θ then ρ (ς prog w) A (eval l env) (λx j =>
       ρ (ς prog w) A (call (.builtin "list.append") [acc,x]) (λ_ t=>∃m,m<n/\I m t) (λ_ _=>False) j) (λ_ _=>False) b
      else ∃m,m<n/\I m b) (λ_ _=>False) i) (λ_ _=>False) g) (λ_ _=>False) e) (λ_ _=>False) s)
  n (h:I n s) :
  codeAny (ς prog w) A (.compLoop (.ListComp l [⟨a,o,p,0⟩] scope pos) 0 C acc env) R s:=by
 refine codeAny_loop Y I (λn s D=>wpAny_noted (dV (Zw (dV (Yl (u n s D) (λr e k=>?_) λ_ _ f=>Xu f))))) n h
 cases r with
 |none=>exact nF k
 |some v =>
  refine dV (Yl k (λ_ g y=>dV (Yl y (λ_ i z=>dV (Yl z (λq b d=>?_) λ_ _ f=>Xu f)) λ_ _ f=>Xu f)) λ_ _ f=>Xu f)
  cases q with
  |false=>exact nF ⟨Y,d⟩
  |true =>
   calc dV (dV (Yl d (λx b d=>dV (Yl d (λ_ j B=>nF (nF ⟨Y,B⟩)) λ_ _ f=>Xu f)) λ_ _ f=>Xu f))
theorem vx{env}:∀(names:-(π×NameKind)) acc,(∀y∈names,y.2=.free->∃c,env.cells.lookup y.1=ζ c)->(∀x c,acc.lookup x=ζ c->env.cells.lookup x=ζ c) →
  ∃g,(forIn names acc (λ(x:Str×NameKind) (u:-(Str×Addr))=>if x.2==YQ then cellOf env x.1 >>= λa=>pure (YK ((x.1,a)::u)) else pure (YK u)):Sem (-(π×Z)))=pure g ∧
   (∀x c,g.lookup x=ζ c->env.cells.lookup x=ζ c)/\(∀y∈names,y.2=.free->∃c,g.lookup y.1=ζ c)/\(∀x c,acc.lookup x=ζ c->∃c,g.lookup x=ζ c)
 |[],f,_,j=>⟨f,Y,j,λ_ b=>absurd b (by simp),λx c e=>⟨c,e⟩⟩
 |(n,k)::r,f,m,j=>by
  rw[List.forIn_cons]
  by_cases o:k=.free
  .subst o
   let⟨c,v⟩:=m (n,.free) Vr Y;let h:=v;let w:cellOf env n=pure c:=by unfold cellOf;rw[h]
   let p:∀x d,((n,c)::f).lookup x=ζ d->env.cells.lookup x=ζ d:=λx d e=>by
    rw[Xx] at e
    cases q:x==n with
    |true =>
     rw[q] at e;cases e
     rw[Xg q];exact h
    |false =>
     rw[q] at e;exact j x d e
   let⟨g,e,s,t,i⟩:13:=vx r ((n,c)::f) (λy b=>m y (Bi _ b)) p;refine⟨g,?_,s,λy b l=>?_,λx d e=>?_⟩
   .dsimp only
    rw[W_ (by decide),w];exact e
   .rcases KN.mp b with rfl|b
    .exact i n c (by simp)
    .exact t y b l
   .cases q:x==n with
    |true=>exact i x c (by rw[Xx,q])
    |false=>exact i x d (by rw[Xx,q];calc e)
  .let⟨g,e,s,t,i⟩:13:=vx r f (λy b=>m y (Bi _ b)) j
   refine⟨g,?_,s,λy b l=>?_,i⟩
   .rw[Vq o⁻¹]
    exact e
   .rcases KN.mp b with rfl|b
    .exact absurd l o
    .calc t y b l
theorem Bl{scope env}(h:∀y∈scope.names,y.2=.free->∃c,env.cells.lookup y.1=ζ c):
  ∃b,closureFor scope env=pure b/\(∀x c,b.lookup x=ζ c->env.cells.lookup x=ζ c)/\∀y∈scope.names,y.2=.free->∃c,b.lookup y.1=ζ c:=by
 let⟨b,e,f,g,_⟩:13:=vx scope.names [] h (λx c e=>by simp at e);calc⟨b,?_,f,g⟩;let i:closureFor scope env=(forIn scope.names [] (λx d=>if x.2==YQ then cellOf env x.1 >>= λa=>pure (YK ((x.1,a)::d)) else pure (YK d))) >>= pure:=Y;rw[i,e];rfl
structure BD where
 cl:-(π×Z)
 C:Z
 s:ο
 H:Hp
 fp:-Z
@[reducible] noncomputable def bT (X:Cx) (scope:Δ) (Nb:-π) (d:BD):Cx where
 prog:=X.prog
 w:=X.w
 K:=X.K
 mg:=X.mg
 base:=X.base
 A:=X.A
 N:=Nb
 s₀:=d.s
 H₀:=d.H
 env:=compEnvC scope d.cl d.C X.env
 outer:=X.stack
 stack:=X.stack
 ex:=d.fp
 fn:=λx=>μ (scope.names.lookup x=ζ .cell)
 calm:=X.calm
 pn:=[]
 xe:=λ_ _=>False
meta def iK(cp:-(Option Nat))(a:St):St:=cp.map λo=>match o with
 |some i=>(a[i]?).join
 |none=>η
meta def iL(N:-π)(a scope:Δ)(Nb:-π)(cp:-(Option Nat)):Bool :=
 (scope.names.all λy=>(μ (y.2≠.cell)||μ (scope.names.lookup y.1=ζ .cell))&&(μ (y.2≠.local)||μ (scope.names.lookup y.1=ζ .local))&&(μ (y.2≠.free)||μ (a.names.lookup y.1=ζ .cell)||μ (a.names.lookup y.1=ζ .free))) &&
 μ (↑cp=↑Nb)&&(cp.zip Nb).all λz=>match z.1 with
  |none=>θ
  |some i=>μ (N[i]?=ζ z.2)&&μ (scope.names.lookup z.2=ζ .free)
structure rD(X:Cx)(scope:Δ)(Nb:-π)(cp:-(Option Nat)):Prop where
 kind:scope.kind=.function
 cell:∀y∈scope.names,y.2=.cell->scope.names.lookup y.1=ζ .cell
 names:∀y∈scope.names,y.2=.local->scope.names.lookup y.1=ζ .local
 free:∀y∈scope.names,y.2=.free->(X.env.kindOf y.1=ζ .cell\/X.env.kindOf y.1=ζ .free)
 len:↑cp=↑Nb
 pa:∀(j i:Nat)(x:π),cp[j]?=ζ (ζ i)->Nb[j]?=ζ x->X.N[i]?=ζ x/\scope.names.lookup x=ζ .free
theorem rE{X scope Nb cp}(c:scope.kind=.function)(h:iL X.N X.env.scope scope Nb cp=θ):rD X scope Nb cp:=by
 unfold iL at h;erw[Xs,XS,Bool.or_eq_true,Xt] at h;let⟨⟨b,d⟩,f⟩:=h;refine⟨c,λy a e=>(b y a).1.1.resolve_left (λz=>z e),λy a e=>?_,λy a e=>?_,d,λj i x g k=>?_⟩
 .rcases (b y a).1.2 with z|z
  .exact absurd e z
  .exact z
 .rcases (b y a).2 with(z|z)|z
  .exact absurd e z
  .exact .inl z
  .exact .inr z
 .let l:=by
   let:(cp.zip Nb)[j]?=ζ (ζ i,x):=by
    rw[List.getElem?_zip_eq_some];exact⟨g,k⟩
   exact Xw this
  let:=f _ l;simpa using this
theorem vy{env:Ζ}{x}:∀{names:-(π×NameKind)}{k},names.lookup x=ζ k →
  (names.map λ(n,k)=>if(k==YQ&&env.scope.kind==.function&&env.kindOf n==ζ .cell) then(n,YR) else(n,k)).lookup x =
   ζ (if(k==YQ&&env.scope.kind==.function&&env.kindOf x==ζ .cell) then YR else k)
 |[],k,h=>by simp at h
 |(n,k')::r,k,h=>by
  let c:=@vy env x r k;show q3R x ((if(k'==YQ&&env.scope.kind==.function&&env.kindOf n==ζ .cell)=θ then(n,YR) else(n,k'))::_)=_
  cases b:x==n with
  |true =>
   erw[Xx,b] at h;cases h
   let e:=Xg b;subst e
   by_cases a:(k'==YQ&&env.scope.kind==.function&&env.kindOf x==ζ .cell)=θ
   .rw[W_ a,W_ a];simp[Xx]
   .rw[Vq a,Vq a];simp[Xx]
  |false =>
   erw[Xx,b] at h
   by_cases a:(k'==YQ&&env.scope.kind==.function&&env.kindOf n==ζ .cell)=θ
   .rw[W_ a];erw[Xx,b];exact c h
   .rw[Vq a];erw[Xx,b];calc c h
theorem Bm{env:Ζ}{x}:∀{names:-(π×NameKind)},names.lookup x=η →
  (names.map λ(n,k)=>if(k==YQ&&env.scope.kind==.function&&env.kindOf n==ζ .cell) then(n,YR) else(n,k)).lookup x=η
 |[],h=>by simp
 |(n,b)::r,h=>by
  let c:=@Bm env x r;show q3R x ((if(b==YQ&&env.scope.kind==.function&&env.kindOf n==ζ .cell)=θ then(n,YR) else(n,b))::_)=_
  cases a:x==n with
  |true=>erw[Xx,a] at h;cases h
  |false =>
   erw[Xx,a] at h
   by_cases d:(b==YQ&&env.scope.kind==.function&&env.kindOf n==ζ .cell)=θ
   .rw[W_ d];erw[Xx,a];exact c h
   .rw[Vq d];erw[Xx,a];calc c h
structure JF(X:Cx)(ifs:-υ)(t:TT):Prop where
 out:∀(pins:ax)(s:ο)(σ:St)(H:Hp)(Q:Bool->Hp->Prop),Inv X pins σ H s->t σ H Q →
  ρ (ς X.prog X.w) X.A (forIn ifs θ λc r=>if r=θ then do let ok <- isTrue c X.env (eval c X.env);pure (YK ok) else pure (YK r)) (TP X pins σ Q) X.xe s
instance {X:Cx} {ifs:-υ} {t:TT}:CoeFun (JF X ifs t) (λ_=>∀(pins:ax)(s:ο)(σ:St)(H:Hp)(Q:Bool->Hp->Prop),Inv X pins σ H s->t σ H Q->ρ (ς X.prog X.w) X.A (forIn ifs θ λc r=>if r=θ then do let ok <- isTrue c X.env (eval c X.env);pure (YK ok) else pure (YK r)) (TP X pins σ Q) X.xe s):=⟨JF.out⟩
def vz:TT:=λ_ H Q=>Q θ H
theorem mm{X}:JF X [] vz:=⟨λ_ _ _ H _ I h=>wpAny_tests_nil ⟨H,I,h⟩⟩
theorem KR{X:Cx}{c:υ}{t:TT}(h:JT X c t):JF X [c] t:=⟨λa s b H Q I d=>wpAny_tests_one (h a s b H Q I d)
⟩
def KU(g:TG)(f:TT)(h:TE)(l:Z)(x:V)(i:St)(H:Hp)(N:St->Hp->Prop):Prop :=
 g x i H λa j=>f a j λb d=>if b=θ then h a d λy e=>∃c,e l=ζ (.lst c)/\↑c<sizeLine/\N a (upd e l (.lst (c++[y]))) else N a d
def Bn(J:It)(g:TG)(f:TT)(h:TE)(l:Z)(c:St)(j:Hp)(Q:VK):Prop :=
 ∃W:Nat->Nat->St->Hp->Prop,(∃m,W 0 m c j)/\∀i m d H,W i m d H →
  (J.stop i H/\Q (.ref l) H)\/(J.go i H/\∃N:St->Hp->Prop,(∀a b,N a b->∃e,e<m/\W (i+1) e a b)/\∀x b,J.nB i H x b->KU g f h l x d b N)
def pb(c:TI)(cp:-(Option Nat))(g:BD->TG)(e:BD->TT)(f:BD->TE):TE:=λa H Q=>c a H λJ b=>∀(d:BD)(l:Z),b l=η->Bn J (g d) (e d) (f d) l (iK cp a) (upd b l (.lst [])) Q
theorem nH:∀{names n acc x c},(cellsFrom n names acc).lookup x=ζ c->acc.lookup x=ζ c\/(n<=c/\(x,YR)∈names)
 |[],n,a,x,c,h=>.inl h
 |(y,k)::r,n,a,x,c,h=>by
  unfold cellsFrom at h;split at h
  .rename_i b
   let d:=Xg b;subst d;rcases nH h with h|⟨h,m⟩
   .rw[Xx] at h
    cases q:x==y with
    |true=>rw[q] at h;cases h;rw[Xg q];exact .inr ⟨vr _,Vr ..⟩
    |false=>rw[q] at h;exact .inl h
   .exact .inr ⟨⋯,Bi _ m⟩
  .rcases nH h with h|⟨h,m⟩
   .exact .inl h
   .calc .inr ⟨h,Bi _ m⟩
theorem vA:∀{names:-(π×NameKind)}{n:Nat}{acc:-(π×Z)}{x:π}{c:Z},(x,YR)∈names->(cellsFrom n names acc).lookup x=ζ c->n<=c
 |[],n,a,x,c,m,h=>by cases m
 |(y,k)::r,n,a,x,c,m,h=>by
  unfold cellsFrom at h
  by_cases b:(x,YR)∈r
  .split at h
   .let:=vA b h;symm
   .exact vA b h
  .let e:(x,YR)=(y,k):=by
    rcases KN.mp m with e|e
    .exact e
    .exact absurd e b
   cases e
   rcases nH h with h|⟨h,_⟩
   .rw[Xx,q1H] at h
    cases h;exact vr _
   .omega
theorem vB:∀{names:-(π×NameKind)}{n:Nat}{acc:-(π×Z)}{x y:π}{c:Z},(∀u v c,acc.lookup u=ζ c->acc.lookup v=ζ c->u=v)->(∀u c,acc.lookup u=ζ c->c<n)->(cellsFrom n names acc).lookup x=ζ c->(cellsFrom n names acc).lookup y=ζ c->x=y
 |[],n,j,x,y,c,h,_,d,a=>h x y c d a
 |(z,k)::r,n,j,x,y,c,h,i,d,a=>by
  unfold cellsFrom at d a;split at d
  .rename_i l
   rw[W_ l] at a;refine vB (λu v c e b=>?_) (λu c q=>?_) d a
   .rw[Xx] at e b
    cases f:u==z with
    |true =>
     rw[f] at e;cases e
     cases g:v==z with
     |true=>rw[Xg f,Xg g]
     |false=>rw[g] at b;exact absurd (i v _ b) (Zf _)
    |false =>
     rw[f] at e
     cases g:v==z with
     |true=>rw[g] at b;cases b;exact absurd (i u _ e) (Zf _)
     |false=>rw[g] at b;exact h u v c e b
   .rw[Xx] at q
    cases f:u==z with
    |true=>rw[f] at q;cases q;exact Y2 _
    |false=>rw[f] at q;exact X8 (i u c q)
  .rename_i l
   rw[Vq l] at a;calc vB h i d a
theorem vC:∀{names:-(π×NameKind)}{n:Nat}{acc:-(π×Z)}{x:π},(x,YR)∉names->(cellsFrom n names acc).lookup x=acc.lookup x
 |[],n,a,x,_=>Y
 |(y,k)::r,n,a,x,m=>by
  unfold cellsFrom;split
  .rename_i b
   let c:=Xg b;subst c;rw[vC λz=>m (Bi _ z),Xx]
   cases q:x==y with
   |true=>exact absurd (by rw[Xg q];calc Vr ..) m
   |false=>rfl
  .calc vC λz=>m (Bi _ z)
theorem vD:∀{names:-(π×NameKind)}{h:Α}{acc:-(π×Z)}{x:π}{c:Z},(∀u c,acc.lookup u=ζ c->∃v,h.IsCell c v)->(cellsFrom h.objs.size names acc).lookup x=ζ c->∃v,(pushCells h names).IsCell c v
 |[],h,b,x,c,a,e=>a x c e
 |(y,k)::r,h,b,x,c,a,e=>by
  unfold cellsFrom at e;unfold pushCells;split at e
  .rename_i d
   rw[W_ d];let g:(h.push {cls:=.type "cell",data:=.cell η}).objs.size=h.objs.size+1:=Y5 ..;rw[<-g] at e;calc vD (λu c q=>?_) e;rw[Xx] at q
   cases f:u==y with
   |true=>rw[f] at q;cases q;exact⟨η,_,Vs _ Y,Y⟩
   |false =>
    rw[f] at q;let⟨v,o,i,j⟩:21:=a u c q;exact⟨v,o,mi _ i,j⟩
  .rename_i d
   rw[Vq d];calc vD a e
theorem KW{M:Model}{A:Β}{E:aJ}{s:ο}{scope:Δ}{g:Z}{c:-(π×Z)}{a:π}{env:Ζ}{Q:Ζ->ο->Prop}
  (h:Q (newEnv scope ⇑s g (cellsFrom (⇑s+1) scope.names c) a η .none (ζ env) builtinsNs) {s with heap:=pushCells (s.heap.push {cls:=.type "dict",data:=.dict #[]}) scope.names}) :
  ρ M A (newFunctionEnv scope g c [] a η .none (ζ env)) Q E s:=by
 calc dV (wpAny_alloc (dV (wpAny_layCells _ (λd e b=>Y) _ _ _ _ ?_)));rw[Y5 ..];calc dV (nF (nF h))
section
variable{X:Cx}{elt tg iter:υ}{ifs:-υ}{scope:Δ}{pos:Ε}{Nb:-π}{cp:-(Option Nat)}{wi:TI}{g:BD->TG}{tf:BD->TT}{te:BD->TE}
variable{pins:ax}{σ:St}{H:Hp}{s:ο}
meta abbrev rF(scope:Δ)(s:ο)(a:-(π×Z)):-(π×Z):=cellsFrom (⇑s+1) scope.names a
theorem KY{g:-Z}{f:-(π×Z)}(S:rD X scope Nb cp)(I:Inv X pins σ H s)(j:∀b∈g,bx X pins H b)(n:∀b∈g,∃o,s.heap.get? b=ζ o)
  (i:∀x c,f.lookup x=ζ c->X.env.cells.lookup x=ζ c) (r:∀y∈scope.names,y.2=.free->∃c,f.lookup y.1=ζ c):(bT X scope Nb ⟨rF scope s f,⇑s,s,H,g⟩).Ok:=by
 let l:∀b∈g,b∉d8 X.stack:=λb d z=>by
  let⟨_,t,w,_⟩:03:=j b d;rcases KN.mp (I.fY b z) with e|e
  .exact t e
  .exact w e
 let A:∀u c,f.lookup u=ζ c->c<⇑s:=λu c e=>by
  let⟨v,q⟩:=I.cell u c (i _ _ e);exact q.lt
 refine⟨I.ok.mod,?_,I.ok.glob,I.ok.blt,vr _,λx y c B C=>?_,λx p=>?_,λx c h D=>?_,I.ok.hd,I.ok.frames,.inl Y,λb d=>⟨?_,λx c e=>?_⟩,I.bs,XQ I.ok.ja I.sz,λb o e d=>?_,l,I.stack,I.dH⟩
 .exact S.kind
 .exact vB (λu v c E F=>I.ok.inj u v c (i _ _ E) (i _ _ F)) (λu c e=>X8 (A u c e)) B C
 .cases q:scope.names.lookup x with
  |none =>
   let z:(relabel scope X.env).names.lookup x=η:=Bm q;let a:(relabel scope X.env).names.lookup x=ζ .cell\/(relabel scope X.env).names.lookup x=ζ .free:=p;rw[z] at a;rcases a with h|h<;>cases h
  |some k =>
   let z:(relabel scope X.env).names.lookup x=_:=vy  q;let a:(relabel scope X.env).names.lookup x=ζ .cell\/(relabel scope X.env).names.lookup x=ζ .free:=p;rw[z] at a
   let G:k=.free\/k=.cell:=by
    by_cases m:k=.free
    .exact .inl m
    .let:(k==YQ)=ι:=by simpa using m
     erw[this,q4l,Zk,Z8] at a;rcases a with h|h
     .exact .inr (XA h)
     .exact absurd (XA h) m
   calc Zy.mp (q0t scope.names _ f ?_);rcases G with rfl|rfl
   .let⟨c,e⟩:=r (x,.free) (Ys q) Y
    exact .inr (by rw[e];rfl)
   .exact .inl q
 .let:=vA (Ys (Xq h)) D
  exact Nat.le_of_succ_le this
 .let⟨o,e⟩:=n b d
  exact W8 (Vo e)
 .rcases nH e with e|⟨e,_⟩
  .exact (j b d).2.2.2.2.1 x c (i _ _ e)
  .let⟨o,J⟩:=n b d
   ext z;subst z;exact absurd ⋯ (q7F.mpr (YJ (Vo J)))
 .rcases (j b d).2.2.2.1 with z|z
  .exact I.ok.fX b o e z
  .calc absurd (Xe (Vo (I.ok.bs b o e).1) z) ⋯
theorem KZ{cp:-(Option Nat)}{a:St}{j:Nat}{v:V}(h:(iK cp a)[j]?=ζ (ζ v)):∃i,cp[j]?=ζ (ζ i)/\a[i]?=ζ (ζ v):=by
 unfold iK at h;rw[KI] at h
 cases e:cp[j]? with
 |none=>rw[e] at h;cases h
 |some o =>
  rw[e] at h
  cases o with
  |none=>cases h
  |some i =>
   calc⟨i,Y,?_⟩;let b:(a[i]?).join=ζ v:=XA h
   cases q:a[i]? with
   |none=>rw[q] at b;cases b
   |some z =>
    rw[q] at b;let:z=ζ v:=b;rw[this]
theorem K3{q:-Z}{l:-(π×Z)}{n:Α}{tk:Nat}(S:rD X scope Nb cp)(I:Inv X pins σ H s)(E:∀b∈q,bx X pins H b)(F:∀b∈q,∃o,s.heap.get? b=ζ o)
  (r:∀x c,l.lookup x=ζ c->X.env.cells.lookup x=ζ c) (C:∀y∈scope.names,y.2=.free->∃c,l.lookup y.1=ζ c)
  (hn:n.Ns ⇑s (λx=>([]:-(π×ν)).reverse.lookup x)) (t:∀b o,s.heap.get? b=ζ o->n.get? b=ζ o) (w:∀x c,(rF scope s l).lookup x=ζ c->∃v,n.IsCell c v) :
  Inv (bT X scope Nb ⟨rF scope s l,⇑s,s,H,q⟩) [] (iK cp σ) H {s with heap:=n,toks:=tk}:=by
 refine⟨KY S I E F r C,Y,I.bare,Un.kept t,⟨_,hn,λj x v G J V=>?_⟩,w,I.aM.fresh (vr _),λx c e=>?_,λp hp=>absurd (hp) (by simp),I.aM.kept t,?_⟩
 .let⟨i,K,L⟩:11:=KZ J
  let⟨M,A⟩:=S.pa j i x K G;let D:=Ys A;let a:=S.free _ D Y;let⟨m,_,N⟩:=I.loc
  let B:nz X.env.scope x:=by
   rcases a with h|h
   .exact .inr (.inl h)
   .exact .inr (.inr h)
  let⟨u,O,P⟩:=N i x v M L B;refine⟨u,O,?_⟩
  let Q:X.env.kindOf x≠ζ .local:=by
   rcases a with h|h
   .ext z;rw[h] at z;cases z
   .ext z;rw[h] at z;cases z
  rcases P with⟨k,_⟩|⟨_,c,R,T⟩
  .exact absurd k Q
  .let⟨c',f⟩:=C (x,.free) D Y
   let g:=r _ _ f;rw[R] at g;cases g;let U:(x,YR)∉scope.names:=λz=>by let:=S.cell _ z Y;rw[A] at this;cases this
   refine .inr ⟨?_,c,(vC U).trans f,?_⟩
   .let z:(relabel scope X.env).names.lookup x=_:=vy  A
    show(relabel scope X.env).names.lookup x=ζ .cell\/(relabel scope X.env).names.lookup x=ζ .free;rw[z];split
    .exact .inl Y
    .exact .inr Y
   .let⟨o,e,d⟩:=T
    exact⟨o,t _ _ e,d⟩
 .rcases nH e with e|⟨e,_⟩
  .exact I.bI x c (r _ _ e)
  .exact I.aM.fresh ⋯
 .unfold iK
  rw[kF];calc S.len
theorem K4{t d it l tn J}{R:Result->ο->Prop}{Q:VK}{H1 L}{E:St}(hc:X.calm=θ)
  (hg:JG (bT X scope Nb d) tg (g d)) (hf:JF (bT X scope Nb d) ifs (tf d)) (he:JE (bT X scope Nb d) elt (te d)) (T:Turn X.prog X.w X.K tg J t it tn)
  (Vu:d.fp=t) (I1:Inv (bT X scope Nb d) [] E H1 L) (M:tn 0 L.heap) (O:∀b∈t,bx (bT X scope Nb d) [] H1 b)
  (W:Nat->Nat->St->Hp->Prop) (w0:∃m,W 0 m E H1)
  (P:∀i m E H,W i m E H->(J.stop i H/\Q (.ref l) H)\/(J.go i H/\∃N:St->Hp->Prop,(∀a H',N a H'->∃k,k<m/\W (i+1) k a H')/\∀x H',J.nB i H x H'->g d x E H' λp H2=>tf d p H2 λb z =>
   if b=θ then te d p z λy H4=>∃ys,H4 l=ζ (.lst ys)/\↑ys<sizeLine/\N p (upd H4 l (.lst (ys++[y]))) else N p z))
  (fin:∀a H' s',Inv (bT X scope Nb d) [] a H' s'->Q (.ref l) H'->R (.ok .next) s') :
  codeAny (ς X.prog X.w) X.A (.compStart (.ListComp elt [⟨tg,iter,ifs,0⟩] scope pos) 0 (.ref it) (.ref l) (compEnvC scope d.cl d.C X.env)) R L:=by
 let c:∀{j},(∀b∈t,j b=η)->∀b∈t,bx (bT X scope Nb d) [] j b:=λhn b q=>⟨hn b q,(O b q).2⟩
 let v:codeAny (ς X.prog X.w) X.A (.compLoop (.ListComp elt [⟨tg,iter,ifs,0⟩] scope pos) 0 (.ref it) (.ref l) (compEnvC scope d.cl d.C X.env)) R L:=by
  let⟨m0,w0⟩:1:=w0;calc KQ (λn s'=>∃i a j,Inv (bT X scope Nb d) [] a j s'/\tn i s'.heap/\(∀b∈t,j b=η)/\W i n a j) ?_ m0 (zI3 0 E H1 ⟨I1,M,λb q=>(O b q).1,w0⟩);ext n s3 S;let⟨i,f,z,I3,U,V,w3⟩:33:=S;rcases P i n f z w3 with⟨Y,qn⟩|⟨go,N,hN,Z⟩
  .refine aX (T.done (bT X scope Nb d) rfl rfl rfl hc i [] s3 f z (λ_ _=>False) I3 (c V) U Y) ?_;ext r s4 ⟨hr,I4⟩
   subst hr;exact fin f z s4 I4 qn
  .refine aX (T.item (bT X scope Nb d) rfl rfl rfl hc i [] s3 f z (λ_ _=>False) I3 (c V) U go) ?_;ext r s4 ⟨u,hr,h4⟩
   subst hr;refine aX h4 λ_ s5 ⟨x,H5,I5,r5,y5,B,K5⟩=>aX (hg _ s5 f H5 x u _ (I5.pinned (c K5) (T.obj _ _ B)) r5 (Z x H5 y5)) ?_;ext _ s6 ⟨D,H6,I6,q6⟩
   let h:∀{s F G k},Inv (bT X scope Nb d) ([]++oR t s5.heap) s F G->k<n->W (i+1) k s F->∃m,m<n/\∃i σ' j,Inv (bT X scope Nb d) [] σ' j G/\tn i G.heap/\(∀b∈t,j b=η)/\W i m σ' j:=λ{s F G k} I hm w7=>by
    calc⟨k,hm,i+1,s,F,I.dI,T.keep _ _ _ B λb q o e=>(I.pin (b,o) (Vp _ (Vp _ (ro q e)))).1,λb q=>?_,w7⟩;let⟨o,e,d⟩:=T.obj _ _ B b q;exact(I.pin (b,o) (Vp _ (Vp _ (ro q e)))).2.1
   refine aX (hf _ s6 D H6 _ I6 q6) ?_;ext ok G ⟨F,I,q7⟩
   cases ok with
   |false =>
    let⟨k,hm,w7⟩:=hN _ _ q7;exact h I hm w7
   |true =>
    calc aX (he _ G D F _ I q7) ?_;ext y s8 ⟨yv,H8,I8,r8,ys,hy,hz,q8⟩;let⟨k,hm,w8⟩:=hN _ _ q8;calc aX (Bc _ s8 D H8 (.ref l) [yv] (.ref l) [y] (λ_ H9=>H9=upd H8 l (.lst (ys++[yv]))) I8 rfl (.cons r8 .nil) (zI3 l ys yv ⟨rfl,rfl,hy,hz,rfl⟩)) ?_;ext _ s9 ⟨_,H9,I9,_,e9⟩;subst e9;exact h I9 hm w8
 calc codeAny_compStart_list v (T.self _ 0 L _ _ M v)
theorem K6{f d}{h:St}{e H' g s'}(i:Inv X pins σ e g)(j:d.s=g)(k:d.H=e)(hd:d.fp=f)(a:∀b∈f,bx X pins e b)(J:Inv (bT X scope Nb d) [] h H' s'):Inv X pins σ H' s':=by
 subst j k hd;calc i.ib  J.os J.base J.aM J.bare λb c=>⟨(a b c).2.2.2.1,(a b c).2.1,(a b c).2.2.2.2.1,(a b c).2.2.2.2.2⟩
theorem Bo{B:Option (ν->Sem Unit)}{P:aJ}{Q:VK}(hc:X.calm=θ)(S:rD X scope Nb cp)(hi:JI X tg iter wi)(hg:∀d,JG (bT X scope Nb d) tg (g d))(hf:∀d,JF (bT X scope Nb d) ifs (tf d))(he:∀d,JE (bT X scope Nb d) elt (te d))
  (hs:∀x,foldedSetIterable iter X.env x=pure x) (I:Inv X pins σ H s) (h:pb wi cp g tf te σ H Q)
  (F:∀(l C:ξ)(H':Hp)(s':ο)(m:π->Option ν),Inv X pins σ H' s'->bx X pins H' C->(∀p c,X.env.cells.lookup p=ζ c->c≠C)->s'.heap.Ns C m->Q (.ref l) H'->compPost (ς X.prog X.w) X.A X.xe B P (.ref l) C (.ok .next) s') :
  ρ (ς X.prog X.w) X.A (comprehension (.ListComp elt [⟨tg,iter,ifs,0⟩] scope pos) scope X.env (firstIterPos [⟨tg,iter,ifs,0⟩] pos) (newList []) ι (eval iter X.env) B) P X.xe s:=by
 let⟨Y,K,L,c2⟩:12:=Bl   λy hy G=>by
  rcases S.free y hy G with z|z
  .exact I.ok.has _ (.inl z)
  .exact I.ok.has _ (.inr z)
 calc wpAny_comprehension_free  rfl hs K S.kind S.names (aX (hi pins s σ H _ I h) λv s1 h1=>aX h1 λJr j h2=>?_);let⟨it,M,tn,J,N,e,Z,T,k,f2,q2⟩:55:=h2;subst e;calc Y7 ?_;let n:Inv X pins σ (upd N ⇑j (.lst [])) {j with heap:=j.heap.push {cls:=.type "list",data:=.seq [].toArray}}:=Z.b8   .nil (XZ _);let k3:∀b o,j.heap.get? b=ζ o->(j.heap.push {cls:=.type "list",data:=.seq [].toArray}).get? b=ζ o:=λb o e=>mi _ e
 let t:∀b∈M,bx X pins (upd N ⇑j (.lst [])) b:=λb i=>by
  let⟨o,e,_⟩:=T.obj _ _ k b i;calc⟨?_,(f2 b i).2⟩;rw[aG (W8 (Vo e))];exact(f2 b i).1
 generalize O:upd N ⇑j (.lst [])=H3 at n t;generalize R:({j with heap:=j.heap.push {cls:=.type "list",data:=.seq [].toArray}})=a at n;let D:∀b o,j.heap.get? b=ζ o->a.heap.get? b=ζ o:=by rw[<-R];exact k3
 let o3:∀b∈M,∃o,a.heap.get? b=ζ o:=λb i=>let⟨o,e,_⟩:=T.obj _ _ k b i;⟨o,D b o e⟩;calc KW ?_;let U:∀b o,a.heap.get? b=ζ o->(pushCells (a.heap.push {cls:=.type "dict",data:=.dict #[]}) scope.names).get? b=ζ o:=λb o e=>q31 _ _ _ _ (mi _ e);let f:(pushCells (a.heap.push {cls:=.type "dict",data:=.dict #[]}) scope.names).Ns ⇑a (λx=>[].reverse.lookup x):=(Heap.Ns.new a.heap (.type "dict")).keeps (q31 _ _)
 let I4:=K3  (tk:=a.toks) S n t o3 L c2 f U λx c e=>by
  let hz:(a.heap.push {cls:=.type "dict",data:=.dict #[]}).objs.size=⇑a+1:=Y5 ..;let e':(cellsFrom (a.heap.push {cls:=.type "dict",data:=.dict #[]}).objs.size scope.names Y).lookup x=ζ c:=by rw[hz];exact e
  calc vD (λu c q=>?_) e';let⟨v,o,g1,g2⟩:21:=n.cell u c (L _ _ q);exact⟨v,o,mi _ g1,g2⟩
 generalize Vv:pushCells (a.heap.push {cls:=.type "dict",data:=.dict #[]}) scope.names=h₁ at U f I4 ⊢;let⟨W,w0,E⟩:11:=q2 ⟨rF scope a Y,⇑a,a,H3,M⟩ ⇑j Z.fresh;rw[O] at w0;refine K4      hc (hg _) (hf _) (he _) T rfl I4 (T.keep _ _ _ k λb i o e=>U b o (D b o e)) (λb i=>?_) W w0 E fun τ' H' s' V q5=>?_
 .let⟨o,e⟩:=o3 b i
  refine⟨(t b i).1,W8 (Vo e),λz=>?_,.inl i,λx c ec=>?_,λp hp=>absurd (hp) (by simp)⟩
  .rcases KN.mp (n.fY b z) with r|r
   .exact (t b i).2.1 r
   .exact (t b i).2.2.1 r
  .rcases nH ec with q|⟨q,_⟩
   .exact (t b i).2.2.2.2.1 x c (L _ _ q)
   .ext z
    subst z;exact absurd ⋯ (q7F.mpr (YJ (Vo e)))
 .let⟨m,hn,_⟩:=V.loc
  let fC:=n.fz (vr _) V.free;calc F _ _ _ _ m (K6 n rfl rfl rfl t V) fC (λp c e=>fC.2.2.2.2.1 p c e) hn q5
theorem Bp cp Nb (i:X.calm=θ) (j:JI X tg iter wi) (k:∀d,JG (bT X scope Nb d) tg (g d)) (n:∀d,JF (bT X scope Nb d) ifs (tf d)) (he:∀d,JE (bT X scope Nb d) elt (te d))
  (p:‹scope.kind=.function›) (r:autoParam (iL X.N X.env.scope scope Nb cp=θ) qz2._auto_1) (t:‹∀x,foldedSetIterable iter X.env x=pure x›) :
  JE X (.ListComp elt [⟨tg,iter,ifs,0⟩] scope pos) (pb wi cp g tf te):=by
 calc⟨λf s A H Q I h=>Bo  i (rE p r) j k n he t I h λl C u B m v a w y q=>⟨m,y,λD c=>⟨.ref l,u,v.turned  (λb o z e=>(c.2 b z).trans e) a.1 a.2.1 a.2.2.2.1 a.2.2.2.2.1 a.2.2.2.2.2,Y,q⟩⟩⟩
theorem Bq cp Nb {i x c f} (y:X.N.Nodup) (z:X.N[i]?=ζ x) (A:Loc X.env.scope x) (B:X.calm=θ) (k:JI X tg iter wi) (E:∀d,JG (bT X scope Nb d) tg (g d)) (F:∀d,JF (bT X scope Nb d) ifs (tf d)) (he:∀d,JE (bT X scope Nb d) elt (te d))
  (G:‹scope.kind=.function›) (J:autoParam (iL X.N X.env.scope scope Nb cp=θ) qz2._auto_1) (K:‹∀x,foldedSetIterable iter X.env x=pure x›)
  (n:‹swapsWith (.ListComp elt [⟨tg,iter,ifs,0⟩] scope pos) (ζ (.Name x c)) f.line X.env=pure θ›)
  (p:autoParam (cW X x) qz4._auto_1) :
  JS X (.Assign [.Name x c] (.ListComp elt [⟨tg,iter,ifs,0⟩] scope pos) f) (dm (pb wi cp g tf te) (ik i)):=by
 calc⟨?_⟩;ext w s W H D I h;rw[exec_Assign_Name_used _ _ _ _ n];refine dV (Zw (dV (dV (aX (Bo   B (rE G J) k E F he K I h λl C L M m O j r P q=>q3g (Ak O y z A (v:=.ref l) rfl (λQ t ⟨a,R,S⟩=>?_) p)) λ_ M T=>nF (nF T)))))
 let U:C≠a:=by
  rcases S with e|e
  .rw[e];exact j.2.1
  .exact YD (r _ _ e)
 calc⟨m,P.sameBut R U,λY u=>(zI2 _ L ⟨t.turned  (λb o V e=>(u.2 b V).trans e) j.1 j.2.1 j.2.2.2.1 j.2.2.2.2.1 j.2.2.2.2.2,q⟩)⟩
end
section
variable{g:TG}{tf:TT}{te:TE}
end
section
variable{X:Cx}{pins:ax}{σ:St}{H:Hp}{s:ο}{h':Α}{T:Z}{o:HO}{ch:-Z}{t':Nat}
theorem Inv.gC(I:Inv X pins σ H s)(f:∀b∈ch,bx X pins H b)(k:∀b u,b∉ch->s.heap.get? b=ζ u->h'.get? b=ζ u)(j:⇑s<=T)(i:aP X.prog X.w (upd H T o) h' T o):
  Inv X pins σ (upd H T o) {s with heap:=h',toks:=t'}:=by
 let g:=I.aM.fresh j;let h:∀b u,H b=ζ u->b∉ch:=λb u e a=>by rw[(f b a).1] at e;cases e
 refine I.step    (λb a=>⟨(f b a).2.2.2.1,(f b a).2.1,(f b a).2.2.2.2.1,(f b a).2.2.2.2.2⟩) (λb u _ _ d e _=>k b u d e) (λb u _ _ d e _=>⟨u.slots,k b u d e⟩)
  (λb u _ e n=>by rw[aG (W8 (Xe (Vo e) j))];calc n) (λb u d e=>⟨u,k b u d e⟩) (λb l e=>by rw[aG (bU e g)];calc e)
  (λb u l e=>by rw[aG (bU e g)];calc e) (λb A e=>⟨#[],by rw[aG (bU e g),e];simp⟩) (λb _ u _ e d=>k b u d e) (λm p=>?_) (λb u e=>?_) I.bare
 .let⟨u,t,x,y,r⟩:31:=p
  exact(zI3 u t x ⟨k _ u (λa=>(f _ a).2.1 Y) y,r⟩)
 .by_cases a:b=T
  .subst a;rw[bj] at e;cases e;exact i
  .rw[aG a] at e
   refine(I.aM b u e).dE (λc v d q=>k c v ?_ q) (λc q=>by rw[aG (bU q g)];calc q) λc l q=>by rw[aG (bU q g)];exact q
   rcases d with z|z
   .rw[z];exact h b u e
   .calc h c _ z
end
meta def nJ(K:KH)(a:Z):It :=
 ⟨λi H=>∃b x,bf K H a b/\b[i]?=ζ x,λi H x c=>∃T v,x=.ref T/\H T=η/\c=upd H T (.tup [.int (i:Nat),v])/\∀b,bf K H a b->b[i]?=ζ v,λi H=>∃b,bf K H a b/\↑b<=i⟩
theorem Br{P:ψ}{w:ω}{K:KH}{n:-υ}{V}{Y:Ε}(a e l:ξ)(r:e≠l):
  Turn P w K (.Tuple n V Y) (nJ K a) [e,l] e (λi h=>(∃c,IsEnum h e l (i:Nat) c)/\h.IsListIter l a i) where
 mem:=by simp
 obj:=λi h g b d=>by
  let⟨⟨c,f⟩,o,j,D,Z⟩:0112:=g;rcases KN.mp d with rfl|d
  .exact⟨_,f,λv z=>by cases z⟩
  .let z:=by simpa using d
   subst z;exact⟨o,j,λv z=>by rw[Z] at z;cases z⟩
 keep:=λi h h' g k=>by
  let⟨⟨c,f⟩,j⟩:=g;exact⟨⟨c,k e (by simp) _ f⟩,j.at λo q=>k l (by simp) o q⟩
 item:=by
  ext X F G J D i t s σ H E I B g L;subst F G J;let⟨⟨c,f⟩,j⟩:=g;let⟨xs,x,C,M⟩:21:=L;let⟨N,O,p,hz⟩:12:=I.list C;let⟨u,hu,ru⟩:=O.get M;refine wpAny_pyNext_enum_item f j p.isList  hu⁻¹ r λh1 R S T hsz hk=>⟨_,rfl,q1e R λh2 U m=>?_⟩
  let k2:∀b o,b∉[e,l]->s.heap.get? b=ζ o->h2.get? b=ζ o:=λb o d q=>by
   let y:b≠e:=λz=>d (by simp[z]);exact(m.2 _ y).trans (hk b o y (λz=>d (by simp[z])) q)
  refine(zI2 (.ref ⇑s) (upd H ⇑s (.tup [.int i,x])) ⟨I.gC   B k2 (vr _) ?_,rfl,(zI2 _ x ⟨rfl,(I.aM.fresh (vr _)),rfl,λys hy=>by rw[I.gx hy C];calc M⟩),⟨⟨u,?_⟩,?_⟩,λb d=>?_⟩)
  .exact⟨by show 2<=sizeLine;decide,[.int i s.toks,u],.cons ⟨_,rfl⟩ (.cons ru .nil),_,((m.2 _ (Zd (Vo f))).trans T),rfl,_,rfl⟩
  .exact U
  .exact S.at λo q=>(m.2 _ (YD r)).trans q
  .let:b<⇑s:=by
    let⟨o,q,_⟩:=j;rcases KN.mp d with rfl|d
    .exact Vo f
    .let z:=by simpa using d
     subst z;exact Vo q
   rw[aG (W8 this)];exact(B b d).1
 done:=by
  ext X F G J D i t s σ H E I B g L;subst F G J;let⟨⟨c,f⟩,j⟩:=g;let⟨xs,C,M⟩:11:=L;let⟨N,O,p,hz⟩:12:=I.list C;let hl:=↑O;calc wpAny_pyNext_enum_end (I.ok.hd D) f j p.isList (by simp;symm) λh1 eb=>⟨rfl,?_⟩;let⟨f0,f1,f2,f3,f4,f5⟩:05:=B l (by simp);exact I.turned  (λb o d q=>eb b o d q) f0 f1 f3 f4 f5
 self:=λA i s Q E g h=>by
  let⟨⟨c,f⟩,j⟩:=g;calc Y_ f h
section
variable{X:Cx}{elts:-υ}{x1:Nat}{tp:Ε}
def K7(K:KH)(ta:TA):TI:=λc H R=>ta c H λd b=>∃a,d=[.ref a]/\(∃e,bf K b a e)/\R (nJ K a) b
theorem Bs:bootBuiltins "enumerate" = ζ (.type "enumerate"):=by decide +kernel
theorem K8{a:υ}{ta:TA}{p pos:Ε}(n:Gl X "enumerate")(o:X.mg "enumerate" = η)(t:JA X [a] ta)(u:‹starEach [a] X.env=[(ι,eval a X.env)]›):
  JI X (.Tuple elts x1 tp) (.Call (.Name "enumerate" p) [a] [] pos) (K7 X.K ta):=by
 calc⟨λc s j H R I h=>Call_ (lh I n o Bs (YP (aX (t pos c s j H _ I h) λG f ⟨J,k,g,v,w⟩=>?_) u Y))⟩;let⟨l,e,⟨L,x⟩,q⟩:12:=w;subst e
 cases v with
 |cons r y =>
  cases y
  cases r
  let⟨A,M,p,N⟩:12:=g.list x;calc q2G p.isList λB m C D E=>?_;let F:Inv X c j k {f with heap:=B}:=g.kept  E;refine Y_ m ((zI5 _ _ _ _ k ⟨Y,F,Br l (⇑f+1) ⇑f (q1I _),⟨⟨_,m⟩,C⟩,λb i=>?_,q⟩))
  let d:⇑f<=b:=by
   rcases KN.mp i with rfl|i
   .exact q0N _
   .let z:=by simpa using i
    rw[z];exact vr _
  calc g.fz d (g.aM.fresh d)
end
section
variable{X:Cx}{nm:π}{tp:Ε}
end
end L2
namespace L2
open PySem PySem.Spec PyProof.Rows PySem.W
open Builtin Builtin.ObjectAttr
section
variable{prog:ψ}{w:ω}{A:Β}{E:aJ}{s:ο}{K:Frag}{x D:Z}{ox:Γ}{kG:Option Γ}{name:π}
theorem K9:builtinKind "BaseException.__getattribute__" = ζ .slot:=by decide +kernel
theorem K_:splitId "BaseException.__getattribute__" = ζ ("BaseException", "__getattribute__"):=by decide +kernel
theorem La:plainId "BaseException.__getattribute__" = θ:=q1J.ga.plain
theorem Lb{tk}{Q:Unit->ο->Prop}(X:K.In s.heap)(I:InstAt s.heap x ox D kG)(a:mroIn K D (.type "BaseException")=ζ θ)(q:Q () s):
  ρ (ς prog w) A (checkBuiltinCall "BaseException.__getattribute__" ⟨[.ref x,.str name tk],[]⟩) Q E s:=by
 calc @check_slot (ς prog w) A E s "BaseException.__getattribute__" "BaseException" "__getattribute__" (.ref x) [.str name tk] [] Q K9 K_ ((I.type).andThen (looks_mroIn X a)) (PySem.F.args_bexc_ga (.ref x) (.str name tk)) q
theorem Lc{tk:Tok}{Q:aJ}(X:K.In s.heap)(I:InstAt s.heap x ox D kG)(b:mroIn K D (.type "BaseException")=ζ θ)
  (h:ρ (ς prog w) A.in1 (Builtin.«object.__getattribute__» ⟨[.ref x,.str name tk],[]⟩) (λa s'=>∃v,a=.done (.ret v)/\Q v s') E s) :
  ρ (ς prog w) A (call (.builtin "BaseException.__getattribute__") [.ref x,.str name tk]) Q E s:=by
 calc q0h (ZY La PySem.F.entry_bexc_ga ?_);calc Lb X I b ?_;calc Yl h (λa d c=>?_) λ_ _ z=>z;let⟨v,rfl,q⟩:=c;calc q
theorem Bt{b a:Bool}{tk:Tok}{Q:aJ}(X:K.In s.heap)(I:InstAt s.heap x ox D kG)(e:findIn K (.ref D) "__getattribute__" = ζ (ζ (.builtin "BaseException.__getattribute__")))
  (f:findIn K (.ref D) "__getattr__" = ζ η) (m:mroIn K D (.type "BaseException")=ζ θ)
  (h:ρ (ς prog w) A.in1 (Builtin.«object.__getattribute__» ⟨[.ref x,.str name tk],[]⟩) (λg s'=>∃v,g=.done (.ret v)/\handedIn v=θ/\Q v s') (λ_ _=>False) s) :
  ρ (ς prog w) A (getAttrBy (.ref x) (.str name tk) b a) Q E s:=by
 let n:=I.type (M:=ς prog w);let o:=looks_findIn (M:=ς prog w) X e;let p:=looks_findIn (M:=ς prog w) X f
 let i:(onTheHeap (XH D)&&(q0K "BaseException.__getattribute__" == q0K "object.__getattribute__"))=ι:=by
  rw[show(q0K "BaseException.__getattribute__" == q0K "object.__getattribute__")=ι by decide +kernel];rfl
 let j:(a&&onTheHeap (q0K "BaseException.__getattribute__"))=ι:=by cases a<;>rfl
 let k:=q1J.ga.bind (.ref x)
 let c:ρ (ς prog w) A (callGetattribute (.ref x) (.str name tk) (.builtin "BaseException.__getattribute__") a) (λv d=>handedIn v=θ/\Q v d) (λ_ _=>False) s:=by
  unfold callGetattribute;rw[j,Vq Xh];unfold boundAndCalled;rw[k];calc dV (nF ?_);exact Lc (Q:=λv d=>handedIn v=θ/\Q v d) X I m h
 unfold getAttrBy;calc Xy (dV (n.here (dV (o.here ?_))));dsimp only;rw[i,Vq Xh];unfold getAttrByItsOwn;calc dV (p.here (dV (q1v (Xy (Yl c (λv d l=>?_) λ_ _ z=>z.elim)))));dsimp only;rw[handedOut_of l.1];calc nF l.2
theorem Ld{tk v Q}(X:K.In s.heap)(I:InstAt s.heap x ox D kG)(a:findObj K D kG name=ζ (.value v))(h:Q (.done (.ret v)) s):
  ρ (ς prog w) A (Builtin.«object.__getattribute__» ⟨[.ref x,.str name tk],[]⟩) Q E s:=by
 let b:=I.type (M:=ς prog w);let c:=looks_find (M:=ς prog w) X I a;calc dV (nF (dV (nF (dV (b.here (dV (c.here (nF h))))))))
theorem Le{a v}{Q:aJ}(X:K.In s.heap)(I:InstAt s.heap x ox D kG)(b:findIn K (.ref D) "__getattribute__" = ζ (ζ (.builtin "BaseException.__getattribute__")))
  (c:findIn K (.ref D) "__getattr__" = ζ η) (d:mroIn K D (.type "BaseException")=ζ θ) (e:findObj K D kG name=ζ (.value v)) (f:handedIn v=θ) (h:Q v {s with toks:=s.toks+1}) :
  ρ (ς prog w) A (getAttr (.ref x) name a) Q E s:=by
 calc Bt  X I b c d (Ld  X I e ⟨v,Y,f,h⟩)
theorem Lg{Q:Option ν->ο->Prop}(X:K.In s.heap)(I:InstAt s.heap x ox D kG)(a:findIn K (.ref D) "__getattribute__" = ζ (ζ (.builtin "BaseException.__getattribute__")))
  (b:findIn K (.ref D) "__getattr__" = ζ η) (c:mroIn K D (.type "BaseException")=ζ θ) (d:mroIn K D (.type "object")=ζ θ)
  (e:findObj K D kG "__class__" = ζ (.bind (.builtin "getset_descriptor.__get__") (.builtin "object.__class__"))) (h:Q (ζ (.ref D)) {s with toks:=s.toks+1}) :
  ρ (ς prog w) A (getAttr? (.ref x) "__class__") Q E s:=by
 calc dV (wpAny_mkText (dV (q1v (Bt  X I a b c ?_))));let f:=I.type (M:=ς prog w);let g:=looks_find (M:=ς prog w) X I e;calc dV (nF (dV (nF (dV (Looks.here  f (dV (Looks.here  g (dV (Xy (q0h (class_get    X I d (nF ⟨.ref D,Y,Y,nF h⟩))))))))))))
meta def gD:-ν->Bool
 |.ref _::r=>gD r
 |l=>l==[.type "ValueError",.type "Exception",.type "BaseException",.type "object"]
theorem Bu(a:ν):∀{l:-ν},gD l=θ->refuseLoop a "__setattr__" l=pure ()
 |.ref c::r,e=>by rw[refuseLoop_ref];exact Bu a (l:=r) (by unfold gD at e;calc e)
 |[],e=>by
  unfold gD at e;rw[Xg e];exact q1z.passes a
 |.type n::r,e=>by
  unfold gD at e;rw[Xg e];exact q1z.passes a
 |.none::r,e=>by unfold gD at e;cases Xg e
 |.bool _::r,e=>by unfold gD at e;cases Xg e
 |.int _ _::r,e=>by unfold gD at e;cases Xg e
 |.float _ _::r,e=>by unfold gD at e;cases Xg e
 |.str _ _::r,e=>by unfold gD at e;cases Xg e
 |.bytes _ _::r,e=>by unfold gD at e;cases Xg e
 |.builtin _::r,e=>by unfold gD at e;cases Xg e
 |.notImplemented::r,e=>by unfold gD at e;cases Xg e
 |.ellipsis::r,e=>by unfold gD at e;cases Xg e
theorem pd:∀{l},gD l=θ->l.contains (.type "object")=θ/\l.contains (.type "BaseException")=θ/\l.isEmpty=ι
 |.ref c::r,e=>by
  let a:=pd (l:=r) (e);exact⟨by rw[q0k,a.1,q0Y],by rw[q0k,a.2.1,q0Y],Y⟩
 |[],e=>by
  rw[Xg e];decide +kernel
 |.type n::r,e=>by
  rw[Xg e];decide +kernel
 |.none::r,e=>by cases Xg e
 |.bool _::r,e=>by cases Xg e
 |.int _ _::r,e=>by cases Xg e
 |.float _ _::r,e=>by cases Xg e
 |.str _ _::r,e=>by cases Xg e
 |.bytes _ _::r,e=>by cases Xg e
 |.builtin _::r,e=>by cases Xg e
 |.notImplemented::r,e=>by cases Xg e
 |.ellipsis::r,e=>by cases Xg e
structure bu(K:Frag)(C:Z):Prop where
 cd:∃cd,clsIn K C=ζ cd/\gD cd.mro=θ/\cd.hasDict=θ
 ga:findIn K (.ref C) "__getattribute__" = ζ (ζ (.builtin "BaseException.__getattribute__"))
 gh:findIn K (.ref C) "__getattr__" = ζ η
 sa:findIn K (.ref C) "__setattr__" = ζ (ζ (.builtin "object.__setattr__"))
 cl:findIn K (.ref C) "__class__" = ζ (ζ (.builtin "object.__class__"))
 hn:specialIn K (.builtin "object.__class__") "__get__" = ζ (ζ (.builtin "getset_descriptor.__get__"))
 tk:takesIn K (.builtin "object.__class__")=ζ θ
theorem bu.base{C}(c:bu K C):mroIn K C (.type "BaseException")=ζ θ:=by
 let⟨d,b,a,_⟩:12:=c.cd;unfold mroIn;rw[b,ZH,Vq (by rw[(pd a).2.2];decide),(pd a).2.1]
theorem bu.obj{C}(c:bu K C):mroIn K C (.type "object")=ζ θ:=by
 let⟨d,b,a,_⟩:12:=c.cd;unfold mroIn;rw[b,ZH,Vq (by rw[(pd a).2.2];decide),(pd a).1]
theorem Lh{C v vs}{Q:Unit->ο->Prop}(X:K.In s.heap)(k:s.heap.get? x=ζ ⟨.ref C,η,.fields vs,#[]⟩)(c:bu K C)(l:findIn K (.ref C) name=ζ η)
  (h:∀h' m,h'.get? x=ζ ⟨.ref C,ζ ⇑s,.fields vs,#[]⟩->h'.Ns1 ⇑s (λy=>if y=name then ζ v else η)->(∀b o,b≠x->s.heap.get? b=ζ o->h'.get? b=ζ o)->Q () {s with heap:=h',toks:=m}) :
  ρ (ς prog w) A (setAttr (.ref x) name v) Q E s:=by
 let I:InstAt s.heap x ⟨.ref C,η,.fields vs,#[]⟩ C η:=⟨k,Y,Y,trivial⟩;let⟨M,d,G,f⟩:12:=c.cd;calc set_plain X I c.sa ?_;let g:=PySem.F.store_object;calc ZY g.slot.plain g.entry (@check_slot (ς prog w) _ _ {s with toks:=s.toks+1} "object.__setattr__" "object" "__setattr__" (.ref x) [.str name s.toks,v] [] _ g.kind g.split (I.type.andThen (looks_mroIn X c.obj)) (g.args (.ref x) (.str name s.toks) v) ?_);rw[osa_eq,refuse_eq];calc dV (dV (Looks.here  I.type (dV (Looks.here  ((looks_clsIn X d).andThen .now) ?_))));rw[Bu _ G];refine nF (dV (Looks.here  I.type (dV (Looks.here  (looks_findIn X l) (dV (nF (dV (nF (dV (dV (q4t  k (dV (Looks.here  (looks_clsIn X d) ?_)))))))))))))
 rw[f];let a:(s.heap.push {cls:=.type "dict",data:=.dict #[]}).get? x=ζ ⟨.ref C,η,.fields vs,#[]⟩:=mi _ k;let i:=W8 (Vo k);refine dV (wpAny_alloc' (dV (wpAny_update' a (nF ?_))))
 let n:((s.heap.push {cls:=.type "dict",data:=.dict #[]}).update x λo=>{cls:=o.cls,dict:=ζ ⇑s,data:=o.data,slots:=o.slots}).get? ⇑s
   = ζ {cls:=.type "dict",data:=.dict #[]}:=(q2H _ _ _ _ i.symm).trans (q3r Y Y)
 let p:((s.heap.push {cls:=.type "dict",data:=.dict #[]}).update x λo=>{cls:=o.cls,dict:=ζ ⇑s,data:=o.data,slots:=o.slots}).Ns ⇑s (λ_=>η) :=
  (zI3 _ #[] _ ⟨n,Y,λe H=>absurd H (by simp),λ_=>Y⟩)
 calc dV (nF (dV (wpAny_nsSet1 (Heap.Ns1.of_empty p) λD j z=>?_)));let⟨N,J,L,q,r,t⟩:32:=j.count (Within.cons name v Within.nil);calc dV (wpAny_lookBehind q (by rw[r];calc pastItsLine_dict (XQ t (by rw[rC,XO,YZ];symm))) (nF (h D _ ((z.2 x i).trans (XC _ a Y)) j λb O u B=>(z.2 b (W8 (Vo B))).trans ((q2H _ _ _ _ u).trans (mi _ B)))))
theorem Li{C d e c g a}(f:clsIn K C=ζ d)(h:findIn K (.ref C) c=ζ (ζ a))(hn:specialIn K a "__get__" = ζ (ζ g))(b:takesIn K a=ζ θ):
  findObj K C e c=ζ (.bind g a):=by
 unfold findObj;rw[f,ZH,h,ZH];dsimp only;rw[hn,ZH];dsimp only;rw[b,ZH]
theorem Lj{C}(c:bu K C):KitX K (.ref x) (.ref C) (λh=>∃j l,InstAt h x j C l) where
 ty:=λ_ _ _ I=>by let⟨_,_,I⟩:2:=I;exact I.type
 it:=λ_ _ X _=>by
  let⟨b,a,_⟩:=c.cd;unfold clsIn at a;split at a
  .rename_i o m g f d
   exactλr s t u k q=>dV (q4t (k _ _ (X _ _ d)) (nF q))
  .cases a
 ne:=λh v w p n y X i=>by
  let⟨b,a,_⟩:=c.cd;calc q3s.mpr λq=>?_;let e:=Value.ref.inj (ZO.mp q);subst e;unfold clsIn at a;split at a
  .rename_i o m g f d
   cases((X _ _ d).symm.trans i)
  .cases a
 ca:=λX I k=>by
  let⟨j,l,I⟩:2:=I;let⟨b,a,_⟩:=c.cd;calc Lg X I c.ga c.gh c.base c.obj (Li a c.cl c.hn c.tk) k
variable{h:Α}{g:Array GenState}{d:Drawn}{t:Nat}{os:OsState}{nm q:π}{C N:Z}{bs bm rG:-ν}{iM:Bool}{sn:-π}{sub:-ν}{ab:Bool}{col:Option Bool}{dd:Option Z}{k0 k1 k2 k3 k5:Option ν}{B newId jA:String}
theorem Lk(F:ExcBaseFacts B newId jA rG)(T:OwnTail h rG bm){n:π->Option ν}{a:-ν}{p:Z}{v:Γ}{Q:Fin->ο->Prop}
  (l:h.get? C=ζ (excClassObj nm q C N bs bm iM sn sub ab col dd k0 k1 k2 k3 k5 newId)) (hn:h.Ns N n) (y:n "__init__" = ζ (.ref p))
  (s:h.get? p=ζ v) (u:v.cls=.type "function")
  (z:∀h' e,q2s h h' e (.ref C) a →
   ρ (ς prog w) A (call (.ref p) (.ref e::a)) (λr s'=>r=.none/\Q (.done (.ret (.ref e))) s') E ⟨h',g,d,t,os⟩) (j:autoParam (↑a<=sizeLine) qz7._auto_1) :
  ρ (ς prog w) A (Builtin.«type.__call__» ⟨.ref C::a,[]⟩) Q E ⟨h,g,d,t,os⟩:=by
 repeat(first|with_reducible refine ZV l ?_|with_reducible refine wpAny_madeBy_exc l ?_|wp_step)
 calc codeAny_call_builtin_code (q0i _ F.quiet) (wpAny_check_new_subT F T l ?_);refine codeAny_exc_new_subT F T l ?_ j
 let c:=mi {cls:=.ref C,data:=.fields #[.ref h.objs.size,.none,.none,.none,.bool ι,.none]}
  (mi {cls:=.type "tuple",data:=.seq a.toArray} l)
 let f:=mi {cls:=.ref C,data:=.fields #[.ref h.objs.size,.none,.none,.none,.bool ι,.none]}
  (mi {cls:=.type "tuple",data:=.seq a.toArray} s)
 let k:((h.push {cls:=.type "tuple",data:=.seq a.toArray}).push {cls:=.ref C,data:=.fields #[.ref h.objs.size,.none,.none,.none,.bool ι,.none]}).Ns N n :=
  let⟨o,D,G,e,r⟩:=hn;(zI3 o D G ⟨mi _ (mi _ e),r⟩)
 let i:((h.push {cls:=.type "tuple",data:=.seq a.toArray}).push
   {cls:=.ref C,data:=.fields #[.ref h.objs.size,.none,.none,.none,.bool ι,.none]}).get? (h.objs.size+1)=ζ
   {cls:=.ref C,data:=.fields #[.ref h.objs.size,.none,.none,.none,.bool ι,.none]}:=by heap_get
 let m:=T.keeps (h':=(h.push {cls:=.type "tuple",data:=.seq a.toArray}).push {cls:=.ref C,data:=.fields #[.ref h.objs.size,.none,.none,.none,.bool ι,.none]})
  λb o e=>mi _ (mi _ e)
 repeat(first|with_reducible refine ZV i ?_|(with_reducible calc q2I c ?_)|wp_step)
 calc wpAny_typeLookup_tail c k m F.mroIs F.init.lookup ?_;rw[y];refine Xy (dV (dV (q0s  ⟨_,f,u⟩ (nF (dV (Yl (z _ (h.objs.size+1) ⟨λb o H=>mi _ (mi _ H),Z0 (q0N _),h.objs.size,i,Z0 (vr _),?_⟩) (λr K I=>?_) λ_ _ x=>x))))))
 .exact mi _ (q3r Y Y)
 .let⟨rfl,J⟩:=I
  wp_walk
  calc J
theorem Lm(F:ExcBaseFacts B newId jA rG)(T:OwnTail h rG bm){k:π->Option ν}{a:-ν}{b:Z}{l:Γ}{Q:aJ}
  (c:h.get? C=ζ (excClassObj nm q C N bs bm iM sn sub ab col dd k0 k1 k2 k3 k5 newId)) (hn:h.Ns N k) (m:k "__init__" = ζ (.ref b))
  (f:h.get? b=ζ l) (i:l.cls=.type "function")
  (o:∀h' e,q2s h h' e (.ref C) a →
   ρ (ς prog w) (A.under (.builtin "type.__call__" ⟨.ref C::a,[]⟩)) (call (.ref b) (.ref e::a)) (λr s'=>r=.none/\Q (.ref e) s') E ⟨h',g,d,t,os⟩) (j:autoParam (↑a<=sizeLine) qz7._auto_1) :
  ρ (ς prog w) A (call (.ref C) a) Q E ⟨h,g,d,t,os⟩:=by
 let s:=tc_lookup;let u:=tc_bind (.ref C);refine q0h (q0P ?_)
 repeat(any_goals (first|assumption|with_reducible refine ZV c ?_|wp_step))
 calc⟨Y,codeAny_call_builtin_at (q0i _ (by decide +kernel)) entry_typeCall (wpAny_check_type_call_sub c (Lk  F T c hn m f i λn e p=>o n e p))⟩
end
end L2
namespace L2
open PySem PySem.Spec PyProof.Rows
meta def d_(a C:Z)(b:Option Z):HO:=.ext λh=>∃t,h.get? a=ζ ⟨.ref C,b,.fields #[.ref t,.none,.none,.none,.bool ι,.none],#[]⟩
theorem Bv{P w H h a C t c}(e:h.get? a=ζ ⟨.ref C,c,.fields #[.ref t,.none,.none,.none,.bool ι,.none],#[]⟩):aP P w H h a (d_ a C c) :=
 ⟨⟨t,e⟩,⟨_,e⟩,λg i b k=>by let⟨d,f⟩:1:=b;calc⟨d,k _ f⟩⟩
theorem Bw{P w H h a C b}(x:aP P w H h a (d_ a C b)):∃t,h.get? a=ζ ⟨.ref C,b,.fields #[.ref t,.none,.none,.none,.bool ι,.none],#[]⟩:=x.1
def pe(K:KH)(N:Z)(name:π)(r:Option ν):Prop:=∃b c a d f,K.lookup N=ζ ⟨b,c,.dict a d,f⟩/\(a.all λe=>match e.key with|.str _ _=>θ|_=>ι)=θ/\nsFind a name=r
theorem pe.ns{K N name r}(x:pe K N name r){h}(k:K.In h):∃m,h.Ns N m/\m name=r:=by
 let⟨g,i,b,c,j,l,d,e⟩:52:=x;calc⟨λn=>nsFind b n,(zI3 _ b c ⟨k _ _ l,Y,λf a=>?_,λ_=>Y⟩),e⟩;let:=(Array.all_eq_true'.mp d) f a;split at this
 .rename_i s t q;exact⟨s,t,q⟩
 .cases this
meta abbrev mn:-ν:=[.type "ValueError",.type "Exception",.type "BaseException",.type "object"]
inductive b9 (K:KH):-ν->Prop
 |base:b9 K mn
 |own {A:Z} {c0:ν} {dd:Option Z} {cd:ClassData} {sl:Array (Option ν)} {tl:-ν}:K.lookup A=ζ ⟨c0,dd,.cls cd,sl⟩->pe K cd.ns "__init__" η->b9 K tl->b9 K (.ref A::tl)
theorem b9.tail{K l}(x:b9 K l){h}(k:K.In h):OwnTail h mn l:=by
 induction x with
 |base=>exact .base
 |own l n _ a =>
  let⟨m,b,e⟩:=n.ns k;calc .own (k _ _ l) b e a
structure pf(K:KH)(C:Z)(rH:Option ν):Prop where
 Bx:∃(nm q:π)(N:Z)(bs bm:-ν)(iM:Bool)(sn:-π)(sub:-ν)(ab:Bool)(col:Option Bool)(dd:Option Z)(k0 k1 k2 k3 k5:Option ν),
  K.lookup C=ζ (excClassObj nm q C N bs bm iM sn sub ab col dd k0 k1 k2 k3 k5 "ValueError.__new__")/\b9 K bm/\pe K N "__init__" rH
 kp:Ym K (.ref C)=θ
section
variable{X:Cx}{pins:ax}{σ:St}{H:Hp}{s:ο}{C f:Z}{CX:iF}{k:Nat}{fd:FuncData}{ps:-π}{sp:Sp}{E:XK}{x:π}{p pos pos':Ε}{e o value:υ}{es:-υ}{ta tv:TE}{t:TA}
theorem By{P w H h a o}(x:aP P w H h a o):∃c,h.get? a=ζ c:=by
 cases o with
 |lst d=>let⟨_,_,_,_,e⟩:0121:=x;exact⟨_,e⟩
 |tup d=>let⟨_,_,_,p⟩:=x;let⟨o,e,_⟩:=p;exact⟨_,e⟩
 |dK b=>let⟨_,_,_,_,o,_,_,e,_⟩:021131:=x;exact⟨_,e⟩
 |dT b=>let⟨_,_,_,_,o,_,_,e,_⟩:021131:=x;exact⟨_,e⟩
 |set S n=>let⟨o,_,_,_,e,_⟩:41:=x;exact⟨_,e⟩
 |ins C i g=>let⟨_,_,_,e,_⟩:04:=x;exact⟨_,e⟩
 |own y=>exact x
 |xd g=>let⟨_,⟨_,_,_,e,_⟩,_⟩:=x;exact⟨_,e⟩
 |rng j k=>let⟨_,_,_,e⟩:3:=x;exact⟨_,e⟩
 |frz c u=>let⟨e,_⟩:=x;exact⟨_,e⟩
 |tbl l=>exact⟨_,(x)⟩
 |met f y=>exact⟨_,(x)⟩
 |ext m=>let⟨_,e,_⟩:02:=x;calc e
theorem Inv.lA{a}(I:Inv X pins σ H s)(hn:s.heap.get? a=η):H a=η:=by
 cases q:H a with
 |none=>rfl
 |some u =>
  let⟨o,b⟩:=By (I.aM a u q);rw[hn] at b;cases b
theorem Inv.ph{h' a u t'}(I:Inv X pins σ H s)(k:∀b u,s.heap.get? b=ζ u->h'.get? b=ζ u)(hn:s.heap.get? a=η)(f:aP X.prog X.w (upd H a u) h' a u):
  Inv X pins σ (upd H a u) {s with heap:=h',toks:=t'}:=by
 let d:=I.lA hn;refine I.un ⟨λb o q _ _ _=>k b o q,λb o q _ _ _=>⟨o.slots,k b o q⟩,λb o q n _=>by rw[aG ((λb i e z=>by rw[z,hn] at e;cases e) b o q)];calc n,λb o q _=>⟨o,k b o q⟩,λb g q=>by rw[aG (bU q d)];calc q,λb o g q=>by rw[aG (bU q d)];calc q,λb j q=>⟨#[],by rw[aG (bU q d),q];simp⟩,λb _ o _ q _=>k b o q⟩ λb o q=>?_
 by_cases h:b=a
 .subst h;rw[bj] at q;cases q;exact f
 .rw[aG h] at q
  calc(I.aM b o q).dE (λc v _ z=>k c v z) (λc z=>by rw[aG (bU z d)];calc z) λc g z=>by rw[aG (bU z d)];calc z
theorem Inv.kH{h' a us}(I:Inv X pins σ H s)(m:q2s s.heap h' a (.ref C) us):H a=η/\Inv X pins σ (upd H a (d_ a C η)) {s with heap:=h'}:=by
 let⟨t,b,_,_⟩:12:=m.there;calc⟨I.lA m.new,I.ph  m.keeps m.new (Bv b)⟩
def Ln(C:Z)(sp:Sp)(E:XK)(t:TA):TE:=λd H Q=>t d H λb c=>↑b<=sizeLine/\∀a,c a=η->sp (.ref a::b) (upd c a (d_ a C η)) (λv e=>v=.non/\Q (.ref a) e) E
theorem Lo(M:pf X.K C (ζ (.ref f)))(j:q3t X.K (.ref f)=θ)(F:bP X.prog X.w X.K X.mg X.base CX k f fd ps sp)(L:aV (k+1) X.A)(O:Binds X.K fd ps [])(P:kD CX X E)(R:Gl X x)(m:X.mg x=ζ (.ref C))(S:JA X (e::es) t)(o: ~~~(bB x))
  (he:‹cI X e es›) (y:‹cX X pos es›) :
  JE X (.Call (.Name x p) (e::es) [] pos) (Ln C sp E t):=by
 calc⟨?_⟩;calcλc s z H Q I h=>ZN (rh I R m (q2Y  I.ok.mod.q9 M.kp (aX (S pos c s z H _ I h) λd s1 ⟨U,H1,g,r,Y,q⟩=>⟨g.dY,?_⟩) he y) o);let⟨nm,q',N,bs,bm,B,sn,Z,ab,col,dd,k0,k1,k2,k3,k5,l,T,n⟩:9072:=M.Bx;let⟨mN,hN,hi⟩:=n.ns g.dY;let⟨oI,lI,hc⟩:=My.mp (ZO.mp j);calc Lm PySem.F.excBase_ValueError (T.tail g.dY) (g.dY _ _ l) hN hi (g.dY _ _ lI) hc (λh' a m=>?_) (by rw[q17,<-↑r];calc Y);let⟨hf,i⟩:=g.kH m;let D:=q a hf;let G:Vals (V.ref a::U) (XH a::d):=.cons rfl r
 let hl:↑(XH a::d++[])=↑ps:=by
  rw[Yx];let e:=↑G;rw[F.len _ _ _ _ D] at e;exact e.symm
 let J:=O _ (XH a::d) i.dY hl;rw[Yx] at J;refine q0h (ZM (F.run _ X.stack _ _ ⟨XH a::d,[]⟩ (XH a::d) _ _ E (L.make C d []) (i.l0.make C d []) J G D) λr s' b=>?_)
 cases r with
 |error e=>exact P c z _ _ e s' i b
 |ok fl =>
  cases fl with
  |ret u =>
   let⟨v,H',I3,rv,ev,q3⟩:=i.after b;subst ev;exact⟨rv,⟨V.ref a,H',I3,rfl,q3⟩⟩
  |next=>exact Xu b
  |brk=>exact Xu b
  |cont=>calc Xu b
def Lp(K:KH)(ta e:TE)(f:π):TS:=λD b H=>e b H λy g=>ta b g λx c=>∃a C,x=.ref a/\c a=ζ (d_ a C η)/\bu K C/\oV K C f ∧
 ∀d,c d=η->D.nx b (upd (upd c d (.xd [(f,y)])) a (d_ a C (ζ d)))
theorem Lq{l:π}(O:JE X o ta)(P:JE X value tv)(Q:swapsWith value (ζ (.Attribute o l pos')) pos.line X.env=pure ι):JS X (.Assign [.Attribute o l pos'] value pos) (Lp X.K ta tv l):=by
 calc⟨λk s E H D I h=>plainObj_wpAny_Assign_Attribute (aX (P k s E H _ I h) λu R ⟨y,S,T,U,q⟩=>aX (O k R E S _ T q) λV M ⟨x,W,m,Y,a,C,Z,i,c,n,q2⟩=>?_) Q⟩;subst Z;obtain rfl:V=XH a:=Y;let⟨t,ht⟩:=Bw (m.aM a _ i);let d:=m.fresh;refine Lh m.dY ht c n λh' jo p F hk=>?_
 let G:∀N ,aP X.prog X.w N h' ⇑M (.xd [(l,y)]):=λN=>⟨_,F,λg=>by
  by_cases e:g=l
  .subst e
   erw[Xx,q1H];exact U
  .rw[Vq e]
   let:(g==l)=ι:=by simpa using e
   erw[Xx,this,List.lookup_nil]
   trivial⟩
 let r:=hk;refine(zI2 E _ ⟨m.un   ⟨λb f q j _ _=>r b f (λz=>by rw[z,i] at j;cases j) q,λb f q j _ _=>⟨f.slots,r b f (λz=>by rw[z,i] at j;cases j) q⟩,λb f q j _=>?_,λb f q _=>?_,λb J q=>?_,λb f J q=>?_,λb Vw q=>⟨#[],?_⟩,λb J f q e _=>r b f (kj q i (by ext z;cases z)) e⟩ λb f q=>?_,q2 _ d⟩)
 .rw[aG (λz=>by rw[z,i] at j;cases j),aG (W8 (Vo q))];exact j
 .by_cases z:b=a
  .subst z;exact⟨_,p⟩
  .exact⟨f,r b f z q⟩
 .rw[aG (kj q i (by ext z;cases z)),aG (bU q d)];exact q
 .rw[aG (kj q i (by ext z;cases z)),aG (bU q d)];exact q
 .rw[aG (kj q i (by ext z;cases z)),aG (bU q d),q];simp
 .by_cases L:b=a
  .subst L;rw[bj] at q;cases q;exact Bv p
  .rw[aG L] at q
   by_cases A:b=⇑M
   .subst A;rw[bj] at q;cases q;exact G _
   .rw[aG A] at q
    let B:∀c,W c=ζ (.own b)->c≠a:=λc z e=>by rw[e,i] at z;cases z
    refine(m.aM b f q).dE (λc v hc z=>r c v ?_ z) (λc z=>by rw[aG (B c z),aG (bU z d)];calc z) λc J z=>by rw[aG (kj z i (by ext y;cases y)),aG (bU z d)];exact z
    rcases hc with e|e
    .rw[e];exact L
    .calc B c e
end
section
variable{X:Cx}
meta def kI:V->Option ν
 |.ty n=>ζ (.type n)
 |.ref a=>ζ (.ref a)
 |_=>η
theorem Bz{y u c}(r:RelV y u)(e:kI y=ζ c):u=c:=by
 cases y with
 |ty n=>cases e;exact r
 |ref a=>cases e;exact r
 |_=>cases e
theorem Lr:fc X (.builtin "isinstance") (λxs H Q=>∃x y c t b,xs=[x,y]/\kI y=ζ c/\dJ X.K H x t/\Xk X.K t c=ζ b/\Q (.bl b) H):=by
 ext a s m H l n Q I d h;let⟨x,y,c,t,b,rfl,f,g,e,q⟩:54:=h;let⟨u,o,rfl,i,j⟩:22:=d.two;rw[Bz j f];calc J_ I i g e λk=>⟨.bl b,H,I.tok k,Y,q⟩
theorem BA{x}:∀{xs us},Vals xs us->xs.all ir=θ->us.countP (ma x)=xs.countP λy=>eZ y x
 |_,_,.nil,_=>Y
 |y::a,u::b,.cons r t,f=>by
  rw[ZU,Xs] at f;rw[Yz,Yz,BA t f.2,vl r f.1]
theorem IsList.parts{h:Α}{l items}(x:h.IsList l items):∃a n b,h.get? l=ζ {cls:=.type "list",dict:=a,data:=.seq items n,slots:=b}:=by
 let⟨⟨cls,a,data,b⟩,c,d,n,e⟩:121:=x;subst d e;calc(zI3 a n b c)
def BB(K:KH):V->-V->Hp->VK->Prop:=λx b H Q=>∃l a y,x=.ref l/\b=[y]/\bf K H l a/\ir y=θ/\a.all ir=θ/\Q (.int (a.countP λz=>eZ z y:Nat)) H
theorem BC:o9 X "list.count" (BB X.K):=by
 ext b s t H x z v A Q I d f h;let⟨l,B,y,rfl,rfl,g,i,c,q⟩:35:=h;cases d
 let⟨u,rfl,j⟩:=f.one;let⟨a,r,k,C⟩:12:=I.list g;let⟨m,n,o,e⟩:3:=IsList.parts k.isList;calc q0I F.slot_list_count ⟨_,e,Y⟩ F.entry_list_count (F.args_list_count_2 _ _) (SeqAt.list_countAt l a.toArray n m o u (ma y)) ⟨e,λw p=>vm j i r c w p⁻¹,⟨.int _,H,I.tok _,⟨_,Y⟩,?_⟩⟩;rw[(BA r c)];calc q
def Ls(K:KH):V->-V->Hp->VK->Prop:=λx b H Q=>∃l a y j,x=.ref l/\b=[y]/\bf K H l a/\ir y=θ/\a.all ir=θ/\j<↑a/\(∀z,a[j]?=ζ z->eZ z y=θ)/\(∀m z,m<j->a[m]?=ζ z->eZ z y=ι)/\Q (.int (j:Nat)) H
theorem Lu{x xs us}(r:Vals xs us)(f:xs.all ir=θ){j:Nat}{u}(a:us[j]?=ζ u):∃z,xs[j]?=ζ z/\ma x u=eZ z x:=by
 let d:=↑r;let g:=(mj.mp a).1;let b:xs[j]?=ζ (xs[j]'⋯):=mf _;let⟨u',e,c⟩:=r.get b;rw[a] at e;cases e;calc⟨_,b,vl c ((XS.mp f) _ (Yk _))⟩
theorem Lw:o9 X "list.index" (Ls X.K):=by
 ext i s O H x P v R Q I p t h;let⟨l,A,y,j,rfl,rfl,B,C,k,S,D,E,q⟩:48:=h;cases p
 let⟨u,rfl,G⟩:=t.one;let⟨a,r,J,T⟩:12:=I.list B;let⟨L,n,M,e⟩:3:=IsList.parts J.isList;let U:=↑r;let o:=lY;let b:∀(m:Nat) c,∃z,A[m]?=ζ z/\ma y a.toArray[m]=eZ z y:=λm c=>Lu r k (by simp[mf c⁻¹]);refine q0I F.slot_list_index ⟨_,e,Y⟩ F.entry_list_index (F.args_list_index_2 _ _) (SeqAt.list_indexAt l a.toArray n L M u (ma y) j (by simp;symm) ⋯ ?_ ?_) ⟨e,λw N=>vm G C r k w N⁻¹,?_⟩
 .let⟨z,d,f⟩:=b j (by simp;symm)
  rw[f];exact D z d
 .ext m c g
  let⟨z,d,f⟩:=b m c;rw[f];exact E m z g d
 .calc⟨.int _,H,I.tok _,⟨_,Y⟩,q⟩
end
theorem Lx{K a xs}{g:TG}{tb:TS}{D:Ends}{b H}(c:Nat->St->Hp->Prop)(l:c 0 b H)(n:∀i b H,i<=↑xs->c i b H->bf K H a xs)
  (o:∀i x T b H,xs[i]?=ζ x->c i b H->H T=η->g (.ref T) b (upd H T (.tup [.int (i:Nat),x])) λd H2=>tb {D with nx:=c (i+1),ct:=c (i+1),bk:=D.nx} d H2) (hd:∀b H,c ↑xs b H->D.nx b H) :
  ∃W:Nat->Nat->St->Hp->Prop,(∃m,W 0 m b H)/\∀i m b H,W i m b H →
   ((nJ K a).stop i H/\D.nx b H)\/((nJ K a).go i H/\∃N:St->Hp->Prop,(∀f H',N f H'->∃k,k<m/\W (i+1) k f H')/\∀x H',(nJ K a).nB i H x H'->g x b H' λd H2=>tb {D with nx:=N,ct:=N,bk:=D.nx} d H2):=by
 calc⟨λi m b H=>m=↑xs-i/\i<=↑xs/\c i b H,⟨↑xs,by simp,XZ _,l⟩,?_⟩;ext i m b H h;let⟨rfl,s,p⟩:02:=h;let q:=n i b H s p
 by_cases j:i<↑xs
 .refine .inr ⟨⟨xs,xs[i],q,by simp[j]⟩,c (i+1),λf r t=>⟨↑xs-(i+1),⋯,Y,j,t⟩,λx r y=>?_⟩
  let⟨T,v,rfl,u,rfl,y⟩:=y;exact o i v T b H (y xs q) p u
 .let e:i=↑xs:=by symm
  subst e;calc .inl ⟨⟨xs,q,vr _⟩,hd b H p⟩
section
variable{g:TG}{tf:TT}{te:TE}{l:Z}{τ0:St}{H0:Hp}{Q:VK}
end
section
variable{X:Cx}{es:-υ}{te:TE}{t:TA}
theorem iN{c j p}(a:JE X (.Constant c j p) te)(b:JA X es t):JA X (.Constant c j p::es) (jc te t):=iq a b Y
theorem iO{x p}(a:JE X (.Name x p) te)(b:JA X es t):JA X (.Name x p::es) (jc te t):=iq a b Y
theorem g0{f a k p}(b:JE X (.Call f a k p) te)(c:JA X es t):JA X (.Call f a k p::es) (jc te t):=iq b c Y
theorem vE{a p}(b:JE X (.List a p) te)(c:JA X es t):JA X (.List a p::es) (jc te t):=iq b c Y
theorem vF{a k p}(b:JE X (.Tuple a k p) te)(c:JA X es t):JA X (.Tuple a k p::es) (jc te t):=iq b c Y
theorem mq{a k p}(b:JE X (.Subscript a k p) te)(c:JA X es t):JA X (.Subscript a k p::es) (jc te t):=iq b c Y
theorem vG{a k p}(b:JE X (.Attribute a k p) te)(c:JA X es t):JA X (.Attribute a k p::es) (jc te t):=iq b c Y
end
inductive D where
 |non|bl (b:Bool)|int (i:Int)|str (x:π)|tup (xs:-D)|lst (xs:-D)
mutual
def Is (H:Hp):D->V->Prop
 |.non,v=>v=.non
 |.bl b,v=>v=.bl b
 |.int i,v=>v=.int i
 |.str x,v=>v=.str x
 |.tup ds,v=>∃a vs,v=.ref a/\H a=ζ (.tup vs)/\ah H ds vs
 |.lst ds,v=>∃a vs,v=.ref a/\H a=ζ (.lst vs)/\ah H ds vs
def ah (H:Hp):-D->-V->Prop
 |[],vs=>vs=[]
 |d::ds,vs=>∃v r,vs=v::r/\Is H d v/\ah H ds r
end
mutual
theorem Is.same {H H':Hp} (s:ay H H'):∀{d:D}{v:V},Is H d v->Is H' d v
 |.non,_,h=>h
 |.bl _,_,h=>h
 |.int _,_,h=>h
 |.str _,_,h=>h
 |.tup _,_,h=>by
  erw[Is] at h ⊢;let⟨a,vs,e,b,c⟩:=h;exact⟨a,vs,e,s _ _ b,ah.same s c⟩
 |.lst _,_,h=>by
  erw[Is] at h ⊢;let⟨a,vs,e,b,c⟩:=h;calc⟨a,vs,e,s _ _ b,ah.same s c⟩
theorem ah.same {H H':Hp} (s:ay H H'):∀{d:-D}{v:-V},ah H d v->ah H' d v
 |[],_,h=>h
 |_::_,_,h=>by
  erw[ah] at h ⊢;let⟨v,r,e,b,c⟩:=h;calc⟨v,r,e,Is.same s b,ah.same s c⟩
end
theorem ah.length{H}:∀{ds vs},ah H ds vs->↑vs=↑ds
 |[],_,h=>by rw[h];rfl
 |_::_,_,h=>by
  let⟨v,r,rfl,_,a⟩:22:=h;rw[rC,rC,ah.length a]
theorem ah.get{H}:∀{ds vs}{i:Nat}{v},ah H ds vs->vs[i]?=ζ v->∃d,ds[i]?=ζ d/\Is H d v
 |[],_,i,v,h,e=>by rw[h] at e;simp at e
 |d::c,_,i,v,h,e=>by
  let⟨f,r,rfl,a,b⟩:22:=h
  cases i with
  |zero=>simp at e;subst e;exact⟨d,Y,a⟩
  |succ i=>simpa using ah.get b e
theorem ah.nil{H}:ah H [] []:=by erw[ah]
theorem ah.cons{H d ds v vs}(h:Is H d v)(r:ah H ds vs):ah H (d::ds) (v::vs):=by
 calc⟨v,vs,Y,h,r⟩
theorem ah.snoc{H d v}:∀{ds vs},ah H ds vs->Is H d v->ah H (ds++[d]) (vs++[v])
 |[],_,h,q=>by subst h;exact .cons q .nil
 |_::_,_,h,q=>by
  let⟨c,r,rfl,a,b⟩:22:=h;exact .cons a (ah.snoc b q)
mutual
noncomputable def dep:D->Nat
 |.tup ds=>bD ds+1
 |.lst ds=>bD ds+1
 |_=>0
noncomputable def bD:-D->Nat
 |[]=>0
 |d::ds=>max (dep d) (bD ds)
end
theorem vH:∀{ds}{i:Nat}{d},ds[i]?=ζ d->dep d<=bD ds
 |[],i,d,e=>by simp at e
 |b::a,0,d,e=>by simp at e;subst e;erw[bD];symm
 |b::a,i+1,d,e=>by simp at e;erw[bD];calc XQ (vH e) ⋯
meta def fg:D->String
 |.non=>"NoneType" | .bl _=>"bool" | .int _=>"int" | .str _=>"str" | .tup _=>"tuple" | .lst _=>"list"
theorem Is.ty{K H}:∀{d v},Is H d v->dJ K H v (.type (fg d))
 |.non,_,h=>by cases(h);exact .non
 |.bl b,_,h=>by cases(h);exact .bl b
 |.int i,_,h=>by cases(h);exact .int i
 |.str x,_,h=>by cases(h);exact .str x
 |.tup _,_,h=>by
  let⟨a,e,rfl,c,_⟩:22:=h;exact .tup c
 |.lst _,_,h=>by
  let⟨a,e,rfl,c,_⟩:22:=h;calc .lst c
meta def cP(T c:String):Bool:=T==c||(T=="bool" && c=="int")
section
variable{K:KH}
theorem Ly:∀T∈["NoneType", "bool", "int", "str", "tuple", "list"],Xk K (.type T) (.type "bool")=ζ (cP T "bool"):=by
 ext T a;erw[KN,XJ,ZR] at a;rcases a with rfl|rfl|rfl|rfl|rfl|rfl<;>kernel_rfl
theorem Lz:∀T∈["NoneType", "bool", "int", "str", "tuple", "list"],Xk K (.type T) (.type "int")=ζ (cP T "int"):=by
 ext T a;erw[KN,XJ,ZR] at a;rcases a with rfl|rfl|rfl|rfl|rfl|rfl<;>kernel_rfl
theorem LA:∀T∈["NoneType", "bool", "int", "str", "tuple", "list"],Xk K (.type T) (.type "str")=ζ (cP T "str"):=by
 ext T a;erw[KN,XJ,ZR] at a;rcases a with rfl|rfl|rfl|rfl|rfl|rfl<;>kernel_rfl
theorem kit_tuple:∀T∈["NoneType", "bool", "int", "str", "tuple", "list"],Xk K (.type T) (.type "tuple")=ζ (cP T "tuple"):=by
 ext T a;erw[KN,XJ,ZR] at a;rcases a with rfl|rfl|rfl|rfl|rfl|rfl<;>kernel_rfl
theorem LB:∀T∈["NoneType", "bool", "int", "str", "tuple", "list"],Xk K (.type T) (.type "list")=ζ (cP T "list"):=by
 ext T a;erw[KN,XJ,ZR] at a;rcases a with rfl|rfl|rfl|rfl|rfl|rfl<;>kernel_rfl
theorem pj d:fg d∈["NoneType", "bool", "int", "str", "tuple", "list"]:=by cases d<;>simp[fg]
end
section
variable{X:Cx}
meta def vI:υ->Option π
 |.Constant (.str x) _ _=>ζ x
 |_=>η
meta def strsOf:-υ->Option (-π)
 |[]=>ζ []
 |e::r=>(vI e).bind λx=>(strsOf r).map (x :: ·)
theorem BE:∀{es d},strsOf es=ζ d->JA X es (λ_ H Q=>Q (d.map V.str) H)
 |[],d,h=>by
  cases h
  exact⟨λb a s f H Q I h=>a_ b a s f H Q I h⟩
 |e::r,d,h=>by
  let h:=h
  cases e with
  |Constant c j p =>
   cases c with
   |str x =>
    let⟨i,g,rfl⟩:=My.mp (h);exact⟨λb a s f H Q I h=>iN (rg  ) (BE g) b a s f H Q I h⟩
   |_=>cases h
  |_=>cases h
theorem LC{es b pos}(h:strsOf es=ζ b)(hz:↑b<=sizeLine):JE X (.List es pos) (λ_ H Q=>∀p,H p=η->Q (.ref p) (upd H p (.lst (b.map V.str)))):=by
 calc⟨λa s c H Q I d=>kC (BE h) a s c H Q I ⟨by rw[kF];calc hz,d⟩⟩
theorem JE.weak{e t t'}(h:JE X e t)(k:∀a H Q,t' a H Q->t a H Q):JE X e t':=⟨λb s a H Q I q=>h b s a H Q I (k a H Q q)⟩
theorem JT.weak{e t t'}(h:JT X e t)(k:∀a H Q,t' a H Q->t a H Q):JT X e t':=⟨λb s a H Q I q=>h b s a H Q I (k a H Q q)⟩
theorem JA.weak{es t t'}(h:JA X es t)(k:∀a H Q,t' a H Q->t a H Q):JA X es t':=⟨λc b s a H Q I q=>h c b s a H Q I (k a H Q q)⟩
theorem JS.weak{st t t'}(h:JS X st t)(k:∀D a H,t' D a H->t D a H):JS X st t':=⟨λb s a H D I q=>h b s a H D I (k D a H q)⟩
theorem b3.weak{st t t'}(h:b3 X st t)(k:∀D a H,t' D a H->t D a H):b3 X st t':=⟨λb s a H D I q=>h b s a H D I (k D a H q)⟩
theorem BF{i x es b a p pos}(c:X.N.Nodup)(d:X.N[i]?=ζ x)(e:Loc X.env.scope x)(he:JE X (.List es p) b)(f:cW X x):JS X (.Assign [.Name x a] (.List es p) pos) (dm b (ik i)):=ko c d e he Y f
theorem rJ{i x a b op d c p pos}(e:X.N.Nodup)(f:X.N[i]?=ζ x)(g:Loc X.env.scope x)(he:JE X (.BinOp a op b p) d)(h:cW X x):JS X (.Assign [.Name x c] (.BinOp a op b p) pos) (dm d (ik i)):=ko e f g he Y h
theorem LF{i x f as ks b a p pos}(c:X.N.Nodup)(d:X.N[i]?=ζ x)(e:Loc X.env.scope x)(he:JE X (.Call f as ks p) b)(g:cW X x):JS X (.Assign [.Name x a] (.Call f as ks p) pos) (dm b (ik i)):=ko c d e he Y g
theorem LG{c A B:Prop}[Decidable c](a:¬ c)(h:A):if(!μ c)=θ then A else B:=by
 rw[Bh a];calc h
theorem lB{L:-χ}{k d t u}(a:k<↑L)(h:JS X (L.getD k d) t)(r:b3 X (L.drop (k+1)) u):b3 X (L.drop k) (oK t u):=by
 let e:L.drop k=L.getD k d::L.drop (k+1):=by
  rw[Yc a,o8,mf a];rfl
 rw[e];calc nA h r
theorem LH{L:-χ}{k d t}(b:↑L=k+1)(h:JS X (L.getD k d) t):b3 X (L.drop k) t:=by
 let a:k<↑L:=by symm
 let e:L.drop k=[L.getD k d]:=by
  rw[Yc a,o8,mf a,q0w ⋯];rfl
 rw[e];calc lj h
theorem LI{L t}(h:b3 X (L.drop 0) t):b3 X L t:=h
theorem gE{n}(h:n<=20):n<=sizeLine:=YJ (lz ⋯)
end
section
variable{κ:Type}[DecidableEq κ]
meta def dM(au:-(κ×V))(k:κ):Option V:=(au.find? λa=>μ (a.1=k)).map (·.2)
meta def putK(au:-(κ×V))(k:κ)(v:V):-(κ×V) :=
 if(au.any λa=>μ (a.1=k))=θ then au.map (λa=>if a.1=k then(a.1,v) else a) else au++[(k,v)]
theorem rK{p:κ×V}{r k}(e:p.1=k):dM (p::r) k=ζ p.2:=by simp[dM,ZT,e]
theorem rL{p:κ×V}{r k}(e:¬ p.1=k):dM (p::r) k=dM r k:=by simp[dM,ZT,e]
theorem BG k:∀au:-(κ×V),(au.any λa=>μ (a.1=k))=(dM au k).isSome
 |[]=>Y
 |p::r=>by
  rw[Zg]
  by_cases e:p.1=k
  .erw[rK e,Bj e,q1X,Option.isSome_some]
  .rw[rL e,Bh e,Bool.false_or];calc BG k r
theorem vJ(au:-(κ×V)) k v:↑(putK au k v)<=↑au+1:=by
 unfold putK;split
 .rw[kF];symm
 .rw[KG,rC,XO];symm
theorem d6.eg{o u}(r:d6 o u):o.isSome=u.isSome:=by
 cases o with
 |none=>cases u with
  |none=>rfl
  |some _=>exact(r).elim
 |some _=>cases u with
  |none=>exact(r).elim
  |some _=>rfl
theorem d6.getD{o u d a}(r:d6 o u)(b:RelV d a):RelV (o.getD d) (u.getD a):=by
 cases o with
 |none=>cases u with
  |none=>exact b
  |some _=>exact(r).elim
 |some _=>cases u with
  |none=>exact(r).elim
  |some _=>calc r
theorem KV.val{au:-(κ×V)}{vs}(r:KV au vs) k:d6 (dM au k) (valueAt vs k):=by
 induction r with
 |nil=>exact Zx
 | @cons p q i a h t d =>
  let⟨c,f⟩:=h
  by_cases e:p.1=k
  .let b:valueAt (q::a) k=ζ q.2:=by simp[valueAt,ZT,(c.symm.trans e)]
   rw[rK e,b];exact f
  .let g:¬ q.1=k:=λz=>e (c.trans z)
   let b:valueAt (q::a) k=valueAt a k:=by simp[valueAt,ZT,g]
   rw[rL e,b];calc d
theorem KV.any{au:-(κ×V)}{vs}(r:KV au vs) k:(au.any λa=>μ (a.1=k))=vs.any λa=>μ (a.1=k):=by
 induction r with
 |nil=>rfl
 |cons h t b=>rw[Zg,Zg,b,h.1]
theorem KV.g4{au:-(κ×V)}{vs}(r:KV au vs) k {y u} (c:RelV y u) :
  KV (au.map λa=>if a.1=k then(a.1,y) else a) (vs.map λa=>if a.1=k then(a.1,u) else a):=by
 induction r with
 |nil=>exact .nil
 | @cons p q g i h t d =>
  rw[Xm,Xm];calc .cons ?_ d;let⟨b,f⟩:01:=h
  by_cases e:p.1=k
  .rw[W_ e,W_ (b.symm.trans e)];exact⟨b,c⟩
  .rw[Vq e,Vq (λz=>e (b.trans z))];calc⟨b,f⟩
theorem KV.put{au:-(κ×V)}{vs}(r:KV au vs) k {y u} (a:RelV y u):KV (putK au k y) (stored vs k u):=by
 unfold putK stored;rw[r.any k]
 by_cases e:(vs.any λb=>μ (b.1=k))=θ
 .rw[W_ e,W_ e];exact r.g4 k a
 .rw[Vq e,Vq e];calc Paired.snoc r ⟨Y,a⟩
theorem KV.length{au:-(κ×V)}{vs}(r:KV au vs):↑au=↑vs:=q2O r
end
theorem nK{P w k u}(r:RelV (kV k) u):(gw P w).is k u=θ:=by
 cases k with
 |inl i=>let⟨t,e⟩:=(r);subst e;exact II P w i t
 |inr x=>let⟨t,e⟩:=(r);subst e;calc IJ P w x t
theorem BH{P w}:∀{ks us},Vals (ks.map kV) us->ItemsAre (gw P w) ks us
 |[],_,r=>by cases r;exact .nil
 |k::a,_,r=>by
  cases r with
  |cons h t=>calc .cons (nK h) (BH t)
abbrev KT(H:Hp):-(-Key×V)->-(-Key×Z×ν)->Prop:=Paired λp q=>p.1=q.1/\H q.2.1=ζ (.tup (p.1.map kV))/\RelV p.2 q.2.2
theorem KT.val{H au}{xs:-(-Key×Z×ν)}(r:KT H au xs) k:d6 (dM au k) ((atKey xs k).map (·.2)):=by
 induction r with
 |nil=>exact Zx
 | @cons p q i a h t d =>
  let⟨c,_,f⟩:02:=h
  by_cases e:p.1=k
  .let b:atKey (q::a) k=ζ q.2:=by simp[atKey,ZT,(c.symm.trans e)]
   rw[rK e,b];exact f
  .let g:¬ q.1=k:=λz=>e (c.trans z)
   let b:atKey (q::a) k=atKey a k:=by simp[atKey,ZT,g]
   rw[rL e,b];calc d
theorem KT.g4{H au}{xs:-(-Key×Z×ν)}(r:KT H au xs) k {y u} (d:RelV y u) :
  KT H (au.map λb=>if b.1=k then(b.1,y) else b) (xs.map (putAt k u)):=by
 induction r with
 |nil=>exact .nil
 | @cons p q i j h t f =>
  rw[Xm,Xm];calc .cons ?_ f;let⟨a,c,g⟩:02:=h;unfold putAt
  by_cases e:p.1=k
  .rw[W_ e,W_ (a.symm.trans e)];exact⟨a,c,d⟩
  .rw[Vq e,Vq (λz=>e (a.trans z))];calc⟨a,c,g⟩
theorem KT.put{H au}{xs:-(-Key×Z×ν)}(r:KT H au xs) k {b y u} (c:H b=ζ (.tup (k.map kV))) (a:RelV y u) :
  KT H (putK au k y) (storedH xs k b u):=by
 let e:(au.any λd=>μ (d.1=k))=(atKey xs k).isSome:=by
  rw[BG,(r.val k).eg,q1r]
 unfold putK storedH;rw[e]
 by_cases q:(atKey xs k).isSome=θ
 .rw[W_ q,W_ q];exact r.g4 k a
 .rw[Vq q,Vq q];calc Paired.snoc r ⟨Y,c,a⟩
theorem KT.keeps{H H' au}{xs:-(-Key×Z×ν)}(r:KT H au xs)(a:∀b ys,H b=ζ (.tup ys)->H' b=ζ (.tup ys)):KT H' au xs :=
 Paired.lU r λ_ _ z=>⟨z.1,a _ _ z.2.1,z.2.2⟩
section
variable{P:ψ}{w:ω}{H:Hp}{h:Α}{a:Z}
theorem BI{u}(b:cF P w H h)(e:Rd H a u):aP P w H h a u:=e.ok b
theorem nM{au}(b:cF P w H h)(e:Rd H a (.dK au)):↑au<=sizeLine/\(a==sysModules)=ι/\∃vs,KV au vs/\h.DictOf (gw P w) a vs :=
 BI b e
theorem BJ{au}(b:cF P w H h)(e:H a=ζ (.dK au)):↑au<=sizeLine/\(a==sysModules)=ι/\∃vs,KV au vs/\h.DictOf (gw P w) a vs:=nM b (.inl e)
theorem pq{ks}(c:cF P w H h)(e:H a=ζ (.tup (ks.map kV))):(tupleKind (gw P w)).is h ks a:=by
 let⟨_,b,r,o,d,f,n,g⟩:0111121:=(c a _ e);calc(zI3 o b.toArray n ⟨d,f,g,by simpa using BH r⟩)
theorem nN{au}(d:cF P w H h)(e:Rd H a (.dT au)):↑au<=sizeLine/\(a==sysModules)=ι ∧
  ∃xs,KT H au xs/\h.DictOfH (tupleKind (gw P w)) a xs:=by
 let⟨z,y,g,r,o,i,j,k,n,s,u,v⟩:021134:=(BI d e);refine⟨z,y,g,r,o,i,j,k,n,s,u,λx b=>?_,v⟩
 let c:∀{l m},KT H l m->∀x∈m,(tupleKind (gw P w)).is h x.1 x.2.1:=by
  ext l m q
  induction q with
  |nil=>ext x b;exact nomatch b
  | @cons p q B C f t A =>
   ext x b;rcases KN.mp b with e|b
   .subst e
    exact pq d (by rw[<-f.1];calc f.2.1)
   .exact A x b
 calc c r x b
theorem LL{au}(b:cF P w H h)(e:H a=ζ (.dT au)):↑au<=sizeLine/\(a==sysModules)=ι ∧
  ∃xs,KT H au xs/\h.DictOfH (tupleKind (gw P w)) a xs:=nN b (.inl e)
end
def eh(H:Hp)(a:Z)(y:V)(r:Option V):Prop :=
 (∃c k,Rd H a (.dK c)/\y=kV k/\r=dM c k)\/∃c k b,Rd H a (.dT c)/\y=.ref b/\H b=ζ (.tup (k.map kV))/\r=dM c k
def jB(H:Hp)(a:Z)(y v:V)(H':Hp):Prop :=
 (∃c k,H a=ζ (.dK c)/\y=kV k/\↑c<sizeLine/\H'=upd H a (.dK (putK c k v))) ∨
 ∃c k b,H a=ζ (.dT c)/\y=.ref b/\H b=ζ (.tup (k.map kV))/\↑c<sizeLine/\H'=upd H a (.dT (putK c k v))
theorem eh.k{H a au k}(e:H a=ζ (.dK au)):eh H a (kV k) (dM au k):=.inl (zI2 au k ⟨.inl e,Y,Y⟩)
theorem jB.k{H a au k v}(e:H a=ζ (.dK au))(b:↑au<sizeLine):jB H a (kV k) v (upd H a (.dK (putK au k v))):=.inl (zI2 au k ⟨e,Y,b,Y⟩)
section
variable{X:Cx}{pins:ax}{σ:St}{H:Hp}{s:ο}{a:Z}{y v:V}{u r:ν}{o:Option V}{A:Β}{E:aJ}
theorem Inv.big(I:Inv X pins σ H s):sysModules<⇑s:=by
 calc q29 (by decide) ((I.mod.glob.keeps I.bk).lt)
theorem LM{Q:aJ}(q:A.units+1<cLine)(I:Inv X pins σ H s)(g:eh H a y (ζ v))(ry:RelV y u)(h:∀f s',Inv X pins σ H s'->RelV v f->Q f s'):
  ρ (ς X.prog X.w) A (getItem (.ref a) u) Q E s:=by
 rcases g with⟨i,k,e,j,l⟩|⟨i,k,b,e,j,r,l⟩
 .subst j
  let⟨z,t,B,c,m⟩:0211:=nM I.aM e;let⟨f,n,d⟩:=d6.some_of   (by rw[l];calc c.val k);exact wpAny_getItem_of (nK ry) m.mapOf n (h f _ (I.tok _) d)
 .subst j
  cases(ry)
  let⟨z,t,C,c,m⟩:0211:=nN I.aM e;let⟨f,n,d⟩:=d6.some_of   (by rw[l];calc c.val k);let⟨p,x,o⟩:=My.mp n;calc wpAny_getItem_heap (q0l q) (pq I.aM r) m x ?_;rw[o];calc h f _ (I.tok _) d
theorem LN{Q:aJ}(m:A.units+1<cLine)(I:Inv X pins σ H s)(g:eh H a y o)(ry:RelV y u)(h:∀s',Inv X pins σ H s'->Q (.bool (!o.isSome)) s'):
  ρ (ς X.prog X.w) A (compareOp .NotIn u (.ref a)) Q E s:=by
 rcases g with⟨d,k,e,f,l⟩|⟨d,k,b,e,f,n,l⟩
 .subst f
  let⟨z,i,p,c,j⟩:0211:=nM I.aM e;calc wpAny_notIn_of (nK ry) i j.mapOf ?_;rw[<-(c.val k).eg,<-l];exact h _ (I.tok _)
 .subst f
  cases(ry)
  let⟨z,i,r,c,j⟩:0211:=nN I.aM e;calc wpAny_notIn_heap (q0l m) (pq I.aM n) i j ?_;let q:=(c.val k).eg;rw[q1r] at q;rw[<-q,<-l];calc h _ (I.tok _)
theorem vK{h':Α}{t':Nat}{c:HO}(I:Inv X pins σ H s)(mu:oE (H a))(e:Z3 a s.heap h')(he:∃q,h'.get? a=ζ q)(d:aP X.prog X.w (upd H a c) h' a c):
  Inv X pins σ (upd H a c) {s with heap:=h',toks:=t'} :=
 I.write   mu (.inl Y) (λb q f z=>(e.2 b f).trans z) he d
theorem BK{P:ψ}{w:ω}{H':Hp}{h':Α}{au:-(Key×V)}{vs:-(Key×ν)}(z:↑au<=sizeLine)(hd:(a==sysModules)=ι)(b:KV au vs)(c:h'.DictOf (gw P w) a vs):
  aP P w H' h' a (.dK au):=⟨z,hd,vs,b,c⟩
theorem LO{H':Hp}{Q:Unit->ο->Prop}(K:A.units+1<cLine)(I:Inv X pins σ H s)(g:jB H a y v H')(C:RelV y u)(D:RelV v r)(h:∀s',Inv X pins σ H' s'->Q () s'):
  ρ (ς X.prog X.w) A (setItem (.ref a) u r) Q E s:=by
 rcases g with⟨d,k,e,m,l,n⟩|⟨d,k,b,e,m,F,l,n⟩
 .subst m n
  let⟨z,o,L,f,p⟩:0211:=BJ I.aM e;let t:↑L<=sizeLine:=by rw[<-↑f];exact z
  let x:↑(putK d k v)<=sizeLine:=by let:=vJ d k v;symm
  calc wpAny_setItem_pairs (hsz:=t) (nK C) p λG i B=>h _ ?_;let M:∃q,G.get? a=ζ q:=let⟨q,_,_,j,_⟩:=i;⟨q,j⟩;exact vK I (by rw[e];calc Zx) B M (BK x o (f.put k D) i)
 .subst m n
  cases(show u=XH b from C)
  let⟨z,o,N,f,p⟩:0211:=LL I.aM e;let t:↑N<=sizeLine:=by rw[<-q2O f];exact z
  let x:↑(putK d k v)<=sizeLine:=by let:=vJ d k v;symm
  calc wpAny_setItem_heap (hsz:=t) (q0l K) (pq I.aM F) p λG i B=>h _ ?_;let⟨q,O,P,j,R,S,T,_,U⟩:35:=i;calc vK I (by rw[e];calc Zx) B ⟨q,j⟩ ⟨x,o,_,(f.put k F D).keeps λc V J=>?_,q,O,P,j,R,S,T,U⟩;rw[aG (kj J e (λz=>nomatch z))];calc J
end
section
variable{X:Cx}{pins:ax}{σ:St}{H:Hp}{s:ο}{a:Z}{au:-(Key×V)}{k:Key}{u:ν}{A:Β}{E:aJ}
end
def mr(i:υ):Prop:=∀a b,subscripted i ι a b=operate [a,b] (getItem a b)
theorem LP{prog:ψ}{w:ω}{A:Β}{E:aJ}{s:ο}{env:Ζ}{b a:υ}{pos:Ε}{T k:String}{Q:aJ}
  (l:typeLookup (.type T) "__getitem__" = pure (ζ (.builtin k))) (m:mr a)
  (h:ρ (ς prog w) A (eval b env) (λo e=>ρ (ς prog w) A (eval a env) (λi c=>c.TypeIs o T/\ρ (ς prog w) A (getItem o i) Q E c) E e) E s) :
  ρ (ς prog w) A (eval (.Subscript b a pos) env) Q E s:=by
 calc Subscript_ (Yl h (λo e g=>Yl g (λi c d=>?_) λ_ _ x=>x) λ_ _ x=>x);let⟨n,d⟩:=d;refine dV (dV (q0O n l ?_))
 let fin:ρ (ς prog w) A (subscripted a ι o i) (λr f=>ρ (ς prog w) A (letTemporaryGo b o r >>= λ_=>pure r) Q E f) E c:=by
  rw[m o i];exact wpAny_operating (Yl d (λr f j=>dV (wpAny_letTemporaryGo (nF j))) λ_ _ x=>x)
 first
  |exact nF (dV fin)
  |rfl
  |calc dV fin
theorem LQ{X:Cx}{c:ax}{h:St}{H:Hp}{s:ο}{a:Z}{y:V}{o:Option V}(I:Inv X c h H s)(g:eh H a y o):s.TypeIs (.ref a) "dict" := by
 rcases g with⟨d,k,e,_,_⟩|⟨d,k,b,e,_,_,_⟩
 .let⟨_,_,i,_,f⟩:0211:=nM I.aM e
  exact f.typeIs
 .let⟨_,_,j,_,f⟩:0211:=nN I.aM e
  calc f.typeIs
def LR(d e:TE):TE:=λb H Q=>d b H λx f=>e b f λy c=>∃a v,x=.ref a/\eh c a y (ζ v)/\Q v c
def BL(d e:TE):TE:=λb H Q=>d b H λy f=>e b f λx c=>∃a o,x=.ref a/\eh c a y o/\Q (.bl (!o.isSome)) c
def LU(d e f:TE):TS:=λD b H=>f b H λv g=>d b g λx h=>e b h λy i=>∃a c,x=.ref a/\jB i a y v c/\D.nx b c
section
variable{X:Cx}{o i e value:υ}{pos pos' u4:Ε}{td ty tv:TE}
theorem LV(f:X.A.units+1<cLine)(j:JE X o td)(k:JE X i ty)(l:mr i):JE X (.Subscript o i pos) (LR td ty):=by
 calc⟨λb s d H Q I h=>LP PySem.F.slot_dict_getitem.lookup l (aX (j b s d H _ I h) λu m ⟨x,n,p,q,r⟩=>aX (k b m d n _ p r) ?_)⟩;ext D E ⟨y,t,e,w,a,v,z,g,B⟩;subst z;obtain rfl:u=XH a:=q;calc⟨LQ e g,LM f e g w λG J C c=>⟨v,t,C,c,B⟩⟩
theorem LW(d:X.A.units+1<cLine)(e:JE X i ty)(f:JE X o td):JC X .NotIn i o (BL ty td):=by
 calc⟨λb s c H Q I h=>aX (e b s c H _ I h) λB j ⟨y,k,l,m,n⟩=>aX (f b j c k _ l n) ?_⟩;ext u C ⟨x,p,q,r,a,t,v,g,w⟩;subst v;obtain rfl:u=XH a:=r;calc LN d q g m λD z=>⟨.bl (!t.isSome),p,z,Y,w⟩
theorem LX(d:X.A.units+1<cLine)(e:JE X o td)(f:JE X i ty)(j:JE X value tv)(k:swapsWith value (ζ (.Subscript o i pos')) pos.line X.env=pure ι):
  JS X (.Assign [.Subscript o i pos'] value pos) (LU td ty tv):=by
 calc⟨λb s c H D I h=>wpAny_Assign_Subscript (aX (j b s c H _ I h) λr l ⟨v,m,n,p,q⟩=>aX (e b l c m _ n q) λu t ⟨x,w,z,B,C⟩=>aX (f b t c w _ z C) λM N ⟨y,O,E,F,a,G,J,g,K⟩=>?_) k⟩;subst J;obtain rfl:u=XH a:=B;calc LO d E g F p λP L=>⟨c,G,L,K⟩
end
theorem LY{P:ψ}{w:ω}{H:Hp}(h:Α)(a:sysModules<h.objs.size):aP P w H (h.push {cls:=.type "dict",data:=.dict #[]}) h.objs.size (.dK []) :=
 ⟨XZ _,beq_eq_false_iff_ne.mpr (YD (W8 a)),[],.nil,Heap.DictOf.new h⟩
section
variable{X:Cx}{pos:Ε}
end
def vL:-(TE×TE)->St->Hp->(-(V×V)->Hp->Prop)->Prop
 |[],_,H,Q=>Q [] H
 |(b,c)::r,a,H,Q=>b a H λx d=>c a d λy e=>vL r a e λf g=>Q ((x,y)::f) g
abbrev VV:-(V×V)->-(ν×ν)->Prop:=Paired λp q=>RelV p.1 q.1/\RelV p.2 q.2
def rM(X:Cx)(pos:Ε)(c:-(Option υ))(a:-υ)(d:-(TE×TE)):Prop :=
 ∀(b:ax)(s:ο)(e:St)(H:Hp)(Q:-(V×V)->Hp->Prop),Inv X b e H s->vL d e H Q →
  ρ (ς X.prog X.w) X.A (evalPairs (pairTrees c a X.env pos)) (λh i=>∃f g,Inv X b e g i/\VV f h/\Q f g) X.xe s
theorem LZ{X pos}:rM X pos [] [] []:=λa s b H Q I h=>pairTrees_nil_walk (zI2 [] H ⟨I,.nil,h⟩)
theorem L0{X:Cx}{pos:Ε}{k v:υ}{ks:-(Option υ)}{vs:-υ}{tk f:TE}{b:-(TE×TE)}(g:JE X k tk)(i:JE X v f)(j:rM X pos ks vs b):
  rM X pos (ζ k::ks) (v::vs) ((tk,f)::b):=λa s d H Q I h =>
 pairTrees_cons_walk (aX (g a s d H _ I h) λu l ⟨x,m,n,o,p⟩↦aX (i a l d m _ n p) λE q ⟨y,r,t,w,z⟩ ↦
  aX (j a q d r _ t z) λF G c=>by let⟨A,B,C,e,D⟩:22:=c;calc(zI2 ((x,y)::A) B ⟨C,.cons ⟨o,w⟩ e,D⟩))
meta def pv(au more:-(Key×V)):-(Key×V):=more.foldl (λa b=>putK a b.1 b.2) au
theorem KV.merge:∀{more:-(Key×V)}{rs:-(Key×ν)}{au:-(Key×V)}{vs:-(Key×ν)},KV more rs->KV au vs->KV (pv au more) (merged vs rs):=by
 ext b g a c r
 induction r generalizing a c with
 |nil=>ext q;exact q
 | @cons p q i j h t d =>
  ext f
  let e:KV (putK a p.1 p.2) (stored c q.1 q.2):=by
   let:=f.put p.1 h.2;rw[<-h.1];exact this
  calc d e
theorem BM:∀more au,↑(pv au more)<=↑au+more.length
 |[],a=>by show ↑a<=↑a+0;symm
 |p::r,a=>by
  let b:=BM r (putK a p.1 p.2);let c:=vJ a p.1 p.2;show↑(pv (putK a p.1 p.2) r)<=_;rw[rC];symm
theorem BN{P:ψ}{w:ω}:∀{au:-(Key×V)}{ws:-(ν×ν)},VV (au.map λd=>(kV d.1,d.2)) ws->∃rs,Carries (gw P w) ws rs/\KV au rs
 |[],_,r=>by cases r;exact⟨[],Zx,.nil⟩
 |p::e,_,r=>by
  cases r with
  | @cons a b i j h t =>
   let⟨f,c,q⟩:=BN   t;let⟨k,g⟩:=b;calc⟨(p.1,g)::f,⟨nK h.1,Y,c⟩,.cons ⟨Y,h.2⟩ q⟩
def L1(b:-(TE×TE)):TE:=λe H Q=>∀p,H p=η->vL b e (upd H p (.dK [])) λf c=>c p=ζ (.dK [])/\∃a:-(Key×V),f=a.map (λd=>(kV d.1,d.2))/\↑a<=15/\Q (.ref p) (upd c p (.dK (pv [] a)))
theorem L4{X:Cx}{pos:Ε}{a:-(Option υ)}{b:-υ}{d:-(TE×TE)}(h:rM X pos a b d)(f:a.all (·.isSome)=θ)(n:↑a=↑b)(o:a≠[])
  (k:↑a<=15):JE X (.Dict a b pos) (L1 d):=by
 calc⟨?_⟩;ext g s p H Q I q;let r:=I.laid    (t':=s.toks) (λ_ _ q=>mi _ q) (vr _) (LY s.heap I.big);calc wpAny_Dict_walk (knd:=gw X.prog X.w) f n o k (aX (h g _ p _ _ r (q _ (I.aM.fresh (vr ⇑s)))) ?_);ext L M ⟨N,O,m,l,e,i,t,P,u⟩;subst t;let⟨v,c,x⟩:=BN   l;let⟨z,y,A,B,C⟩:0211:=BJ m.aM e;cases B
 refine⟨v,c,C,λD j E=>⟨.ref ⇑s,_,?_,Y,u⟩⟩
 let F:↑(pv [] i)<=sizeLine:=by
  let G:=BM i [];rw[XO] at G;rw[YZ];symm
 let K:∃q,D.get? ⇑s=ζ q:=let⟨q,_,_,J,_⟩:=j;⟨q,J⟩;calc vK m (by rw[e];calc Zx) E K (BK F y (x.merge .nil) j)
structure M2(X:Cx)(o:υ)(m:π)(apos:Ε)(e f:υ)(dr:Ε):Prop where
 base:attributeBase o m X.env (eval o X.env)=eval o X.env
 fW:((backTo dr (starEach [e,f] X.env)).all (λx => !x.1)&&(backToKw dr (keywordEach [] X.env)).all (λx=>x.1.isSome)
  && μ (↑([e,f]:-υ)+↑([]:-Keyword)+(if([]:-Keyword).isEmpty then 0 else 1)<30))=θ
 line:(apos.endLine==dr.line)=θ
 trees:backTo dr (starEach [e,f] X.env)=[(ι,eval e X.env),(ι,eval f X.env)]
def BO(H:Hp)(a:Z):Prop:=(∃b,Rd H a (.dK b))\/∃b,Rd H a (.dT b)
theorem L6{X:Cx}{f:ax}{l:St}{H:Hp}{s:ο}{a:Z}(I:Inv X f l H s)(d:BO H a):
  s.TypeIs (.ref a) "dict" /\ (∀b,XH a=.ref b->∃c,s.heap.get? b=ζ c/\c.dict=η)/\(a==sysModules)=ι:=by
 rcases d with⟨h,e⟩|⟨h,e⟩
 .let⟨_,i,m,_,g⟩:=nM I.aM e
  calc⟨g.typeIs,λb q=>?_,i⟩;cases q
  let⟨c,_,_,j,k,_⟩:32:=g;exact⟨c,j,k.2.1⟩
 .let⟨_,i,n,_,g⟩:=nN I.aM e
  calc⟨g.typeIs,λb q=>?_,i⟩;cases q
  let⟨c,_,_,j,k,_⟩:32:=g;calc⟨c,j,k.2.1⟩
section
variable{X:Cx}{pins:ax}{σ:St}{H:Hp}{s:ο}{a:Z}{y d:V}{u r:ν}{o:Option V}{A:Β}{E:aJ}
theorem L7{Q:aJ}(q:A.units+1<cLine)(I:Inv X pins σ H s)(g:eh H a y o)(ry:RelV y u)(n:RelV d r)(h:∀p s',Inv X pins σ H s'->RelV (o.getD d) p->Q p s'):
  ρ (ς X.prog X.w) A (call (.builtin "dict.get") [.ref a,u,r]) Q E s:=by
 rcases g with⟨i,k,e,j,l⟩|⟨i,k,b,e,j,t,l⟩
 .subst j
  let⟨z,m,x,c,f⟩:0211:=nM I.aM e;calc call_meetsIn q0C f.typeIs q1Y (q1K _ _ _) (meets_dict_get_default (gw X.prog X.w) a (nK ry) m r) ⟨_,f.mapOf,h _ _ (I.tok _) ?_⟩;rw[l];exact(c.val k).getD n
 .subst j
  cases(ry)
  let⟨z,m,v,c,f⟩:0211:=nN I.aM e;calc call_meetsIn q0C f.typeIs q1Y (q1K _ _ _) (meetsH_dict_get_default (tupleKind (gw X.prog X.w)) a b m r) ⟨q0l q,k,v,pq I.aM t,f,h _ _ (I.tok _) ?_⟩;rw[l];calc(c.val k).getD n
end
def L8(e f g:TE):TE:=λb H Q=>e b H λx c=>∃a,x=.ref a/\BO c a/\f b c λy h=>g b h λz d=>∃o,eh d a y o/\Q (o.getD z) d
section
variable{X:Cx}{o e f:υ}{apos dr:Ε}{td ty tx:TE}
theorem L9(k:X.A.units+1<cLine)(l:JE X o td)(he:JE X e ty)(n:JE X f tx)(m:M2 X o "get" apos e f dr):JE X (.Call (.Attribute o "get" apos) [e,f] [] dr) (L8 td ty tx):=by
 calc⟨λb s c H Q I h=>wpAny_Call_method m.base m.fW m.line PySem.F.plainAttrs_dict q0C PySem.F.type_dict_get (aX (l b s c H _ I h) ?_)⟩;ext u p ⟨x,q,j,r,a,t,d,v⟩;subst t;obtain rfl:u=XH a:=r;let⟨w,B,_⟩:02:=L6 j d;calc⟨w,B,?_⟩;rw[m.trees]
 refine q1W Y (q2r (q1a (aX (he b p c q _ j v) λP C ⟨y,D,E,G,J⟩ =>
  q1a (aX (n b C c D _ E J) λR S ⟨z,K,L,M,T,g,N⟩=>q3l ?_))))
 calc L7 k L g G M λU V O i=>⟨_,K,O,i,N⟩
end
section
variable{X:Cx}{pins:ax}{σ:St}{H:Hp}{s:ο}{a:Z}{au:-(Key×V)}{A:Β}{E:aJ}
end
section
variable{X:Cx}{pins:ax}{σ:St}{H:Hp}{s:ο}{a:Z}{y:V}{u:ν}{A:Β}{E:aJ}
end
end L2
namespace L2
section
variable{κ:Type}[DecidableEq κ]
end
end L2
namespace L2
open PySem PySem.Spec PyProof.Rows
end L2
namespace LJS
open PySem
meta def hp(i j:Int):Int:=reduceHash (Builtin.Tuple.tupleHashOf [hashInt i,hashInt j])
theorem BP{prog w} i j:hT prog w [i,j]=hp i j:=rfl
meta def vM:-(Int×Int):=(Xz 12).flatMap λj=>(Xz j).map λi:Nat=>(q3K i,q3K j)
theorem L_:∀a∈vM,∀b∈vM,hp a.1 a.2=hp b.1 b.2->a=b:=by decide +kernel
theorem BQ{i j}(c:0<=i)(d:i<j)(e:j<12):(i,j)∈vM:=by
 let⟨a,rfl⟩:∃a:Nat,i=a:=⟨i.toNat,⋯⟩;let⟨b,rfl⟩:∃b:Nat,j=b:=⟨j.toNat,⋯⟩;calc List.mem_flatMap.mpr ⟨b,Xr.mpr ⋯,Bk.mpr ⟨a,Xr.mpr ⋯,Y⟩⟩
end LJS
namespace L2
open PySem PySem.Spec PyProof.Rows
meta def jC(S:Z)(n:Nat):HO:=.ext λh=>∃a:-Int,↑a=n/\LJS.eY h S a
theorem Ma{P w H h S b n}(e:LJS.eY h S b)(hn:↑b=n):aP P w H h S (jC S n) :=
 ⟨⟨b,hn,e⟩,let⟨o,_,_,_,d,_⟩:=e;⟨o,d⟩,λj l a k=>by let⟨c,f,g⟩:11:=a;calc⟨c,f,LJS.ui g λo i=>k o i⟩⟩
section
variable{X:Cx}
theorem BR:∀{ps:-Z}{a},Vals (ps.map V.ref) a->a=ps.map XH
 |[],_,.nil=>Y
 |_::_,_,.cons r b=>by cases r;rw[BR b];rfl
theorem Mb(Y:X.calm=θ)(hu:X.A.units+64<cLine):fc X (.type "set") (λxs H Q=>∃(l:ξ)(ps:-ξ)(ks:-(Int×Int)),xs=[.ref l]/\bf X.K H l (ps.map V.ref)/\↑ps=↑ks ∧
  (∀(i:Nat)(a:ξ)(k:Int×Int),ps[i]?=ζ a->ks[i]?=ζ k->H a=ζ (.tup [.int k.1,.int k.2]))/\(∀k∈ks,0<=k.1/\k.1<k.2/\k.2<12)/\ks.Nodup/\↑ks<=30/\∀p,H p=η->Q (.ref p) (upd H p (jC p ↑ks))):=by
 ext S s σ H xs us Q I r h;let⟨l,m,f,rfl,Z,x,t,T,D,E,q⟩:37:=h;let⟨u,rfl,rx⟩:=vals1 r;cases rx
 let⟨ly,r',pl,_⟩:12:=I.list Z;obtain rfl:=BR r';let y:(m.map XH).toArray.size=↑f:=by rw[KJ,kF,x]
 let d:∀i,i<↑f->∃k,f[i]?=ζ k/\f.getD i (0,0)=k:=λi c=>⟨f[i],mf c,by rw[o8,mf c];rfl⟩;let w:∀i,i<↑f->∃a,m[i]?=ζ a/\m.getD i 0=a:=λi c=>⟨m[i]'(by rw[x];calc c),mf (by rw[x];calc c),by rw[o8,mf (by rw[x];calc c)];rfl⟩;refine LJS.Ii (λi=>m.getD i 0) (λi=>[(f.getD i (0,0)).1,(f.getD i (0,0)).2]) (I.ok.hd Y) ⋯ pl.isList (λi v U=>?_) (λi c=>?_) (λi j c hj=>?_) (by rw[y];calc E) λh' tk se kp=>?_
 .rw[Zn,KI] at U
  let⟨a,F,rfl⟩:=My.mp U;rw[o8,F];rfl
 .rw[y] at c
  let⟨k,B,G⟩:=d i c;let⟨a,F,da⟩:=w i c;rw[G,da];let⟨_,W,r2,o,ho,J,n,hd⟩:0111121:=I.aM a _ (t i a k F B)
  cases r2 with
  |cons ra rr =>
   cases rr with
   |cons rb rn =>
    cases rn
    let⟨t1,rfl⟩:=ra;let⟨t2,rfl⟩:=rb;exact(zI3 o _ n ⟨ho,J,hd,.cons (q0E ..) (.cons (q0E ..) .nil)⟩)
 .rw[y] at c
  let⟨k,B,G⟩:=d i c;let⟨C,g,L⟩:=d j ⋯;rw[G,L,LJS.BP,LJS.BP];ext z;let M:=T k (Vt.mpr ⟨i,B⟩);let N:=T C (Vt.mpr ⟨j,g⟩);let e':C=k:=(LJS.L_ (C.1,C.2) (LJS.BQ N.1 N.2.1 N.2.2) (k.1,k.2) (LJS.BQ M.1 M.2.1 M.2.2) z);rw[e'] at g;let⟨Vx,O⟩:=mj.mp g;let⟨P,R⟩:=mj.mp B;let:=(q0H  (h₁:=P) D).mp (by rw[O,R]);symm
 .calc⟨.ref ⇑s,upd H ⇑s (jC ⇑s ↑f),I.laid  (λb o e=>kp b o (Vo e) e) (vr _) (Ma se (by rw[kF,Ye,y])),rfl,q _ (I.aM.fresh (vr _))⟩
theorem Mc:fc X (.builtin "len") (λxs H Q=>∃(p:Z)(n:Nat),xs=[.ref p]/\H p=ζ (jC p n)/\n<1000/\Q (.int n) H):=by
 ext b s l H k m Q I r h;let⟨p,n,rfl,c,v,q⟩:23:=h;let⟨u,rfl,d⟩:=vals1 r;cases d
 let⟨⟨w,f,o,g,x,t,i,a,j,T⟩,_⟩:01:=I.aM p _ c;let e:g.size=n:=by rw[T.num,f]
 calc call_len_set i a j T.fits ⋯ ⟨.int n,H,I.tok _,⟨_,by rw[e]⟩,q⟩
theorem vN:∀{b:-Bool}{a:-ν},Vals (b.map V.bl) a->a=b.map Zv
 |[],_,.nil=>Y
 |_::_,_,.cons r c=>by cases r;rw[vN c];rfl
theorem all_range(c:-Bool):(Xz ↑c).all (λi=>c.getD i θ)=c.all id:=by
 rw[ZS,XS,XS]
 constructor
 .ext h b e
  let⟨i,a⟩:=Vt.mp e;let:=h i (Xr.mpr ((mj.mp a).1));rw[o8,a] at this;exact this
 .ext h i a
  let d:=Xr.mp a;rw[o8,mf d];calc h _ (Yk d)
theorem Md(j:X.calm=θ):fc X (.builtin "all") (λxs H Q=>∃(l:Z)(c:-Bool),xs=[.ref l]/\bf X.K H l (c.map V.bl)/\Q (.bl (c.all id)) H):=by
 ext g s D H C E Q I r h;let⟨l,c,rfl,k,q⟩:22:=h;let⟨u,rfl,m⟩:=vals1 r;cases m
 let⟨n,p,t,_⟩:12:=I.list k;obtain rfl:=vN p;let f:=t.isList;let w:l<⇑s:=by let⟨o,e,_⟩:=f;exact Vo e
 refine call_all_walk (YW f ((zI7 ⇑s _ _ _ _ _ (λi=>c.getD i θ) ⟨Y,ZZ (by calc I.ok.hd j) ⇑s l (W8 w) _,⟨⟨_,Vs _ Y,Y,Y⟩,f.push _⟩,λi v x y F d a=>?_,λG J A=>?_⟩)))
 .let d:(c.map Zv).toArray[i]?=ζ v:=d
  let a:y (c.getD i θ) x:=a;rw[Zn,KI] at d;let⟨b,B,rfl⟩:=My.mp d;rw[o8,B] at a;exact Yu a
 .refine⟨.bl (c.all id),H,I.kept  λb o e=>A b o (λz=>?_) (mi _ e),?_,q⟩
  .let:=Vo e
   rw[W7.mp z] at this;exact Zf _ this
  .show Zv _=Zv _
   rw[KJ,kF,all_range]
end
end L2
namespace LJ
open PySem L2
structure Fn(P:ψ)(w:ω)(K:KH)(mg:π->Option ν)(base:Α)(k:Nat)(x:π)(ps:-π)(sp:Sp)(f:Z)(fd:FuncData):Prop where
 ok:bP P w K mg base eS k f fd ps sp
 pw:mg x=ζ (.ref f)
 kp:Ym K (.ref f)=θ
 bd:Binds K fd ps []
theorem Me:bootBuiltins "bool" = ζ (.type "bool"):=by decide +kernel
theorem Mf:bootBuiltins "int" = ζ (.type "int"):=by decide +kernel
theorem Mg:bootBuiltins "str" = ζ (.type "str"):=by decide +kernel
theorem BS:bootBuiltins "tuple" = ζ (.type "tuple"):=by decide +kernel
theorem rN:bootBuiltins "list" = ζ (.type "list"):=by decide +kernel
theorem vO:bootBuiltins "set" = ζ (.type "set"):=by decide +kernel
theorem Mh:bootBuiltins "all" = ζ (.builtin "all"):=by decide +kernel
section
variable{K:KH}
end
structure ak(many:Int)(ys:-(Int×Int×Int)):Prop where
 m1:1<=many
 fA:many<=12
 h_:↑ys<=30
 ends:∀y∈ys,0<=y.1/\y.1<y.2.1/\y.2.1<many/\0<=y.2.2/\y.2.2<=1000000000
 unlike:(ys.map λy=>(y.1,y.2.1)).Nodup
end LJ
namespace L2
open PySem PySem.Spec PyProof.Rows
section
variable{X:Cx}
end
end L2
namespace LJ
open PySem L2
meta def iu:Nat->-(Int×Int)
 |0=>[]
 |n+1=>iu n++(Xz n).map λa:Nat=>(q3K a,q3K n)
theorem vP:∀{n k},k∈iu n->0<=k.1/\k.1<k.2/\k.2<n
 |0,_,h=>nomatch h
 |n+1,k,h=>by
  rcases W9.mp h with h|h
  .let:=vP h;symm
  .let⟨a,b,rfl⟩:=Bk.mp h
   let:=Xr.mp b;refine⟨Int.natCast_nonneg a,?_,?_⟩
   .show (a:Int)<n;symm
   .show (n:Int)<(n+1);symm
theorem BU:∀n:Nat,(iu n).Nodup
 |0=>Zj
 |n+1=>by
  refine XT.mpr ⟨BU n,?_,λk c g d e=>?_⟩
  .exact X9.mpr (q0D.imp λ{a b} f e=>f (q1A (congrArg q6B e)))
  .subst e
   let⟨a,h,rfl⟩:=Bk.mp d;let:=(vP c).2.2;let:(n:Int)<n:=this;symm
theorem BV:∀n:Nat,n<=12->↑(iu n)<=66:=by
 ext n h;rcases n with _|_|_|_|_|_|_|_|_|_|_|_|_|n
 all_goals first|decide|symm
end LJ
namespace LJ
open PySem
theorem BW{j n:Nat}(h:j<n):seqIndex? (j:Int) n=ζ j:=by
 unfold seqIndex?
 first|(simp;symm)|skip
end LJ
namespace L2
open PySem PySem.Spec PyProof.Rows
section
variable{X:Cx}
theorem BX:fc X (.type "range") (λxs H Q=>∃j:Int,xs=[.int j]/\∀r,H r=η->Q (.ref r) (upd H r (.rng 0 j))):=by
 ext a s d H c f Q I r h;let⟨j,rfl,q⟩:=h;let⟨u,rfl,t,rfl⟩:=vals1 r;calc call_range_1 ⟨.ref ⇑s,_,I.laid   (λb o e=>mi _ e) (vr _) ?_,Y,q _ (I.aM.fresh (vr _))⟩;calc(zI3 _ _ _ (Vs _ Y))
meta def aZ(n:Nat):-Int:=(Xz n).map λa:Nat=>(a:Int)
theorem BY:∀{ns:-Int}{us},↑us=ns.length->(∀(i:Nat) u,us[i]?=ζ u->∃t,u=.int (ns.getD i 0) t)->Vals (ns.map V.int) us
 |[],[],_,_=>.nil
 |[],_::_,h,_=>by simp at h
 |_::_,[],h,_=>by simp at h
 |n::b,u::c,h,g=>by
  let⟨t,e⟩:=g 0 u Y;calc .cons ⟨t,e⟩ (BY h⁻¹ λi v a=>?_);let⟨t,e⟩:=g (i+1) v a⁻¹;calc⟨t,by simpa using e⟩
theorem BZ(g:X.calm=θ):fc X (.type "list") (λxs H Q=>∃(r:Z)(n:Nat),xs=[.ref r]/\H r=ζ (.rng 0 (n:Int))/\n<=1000/\∀l,H l=η->Q (.ref l) (upd H l (.lst ((aZ n).map V.int)))):=by
 ext f s B H A C Q I r h;let⟨a,n,rfl,j,k,q⟩:23:=h;let⟨u,rfl,m⟩:=vals1 r;cases m
 let⟨t,u,v,e⟩:3:=(I.aM a _ j);let o:q1F 0 n 1=n:=by rw[q4M];split<;>symm
 calc call_list_range  (I.ok.hd g) e (small_one ⋯ ⋯ ⋯ ⋯) o ⋯ λD E b p w x c=>⟨.ref ⇑s,_,I.laid   w (vr _) ?_,Y,q _ (I.aM.fresh (vr _))⟩;refine⟨YJ (lz (by rw[kF,aZ,kF,Ye];calc k)),b.toList,p,BY ?_ λi u e=>?_,by simpa using x⟩
 .rw[Xa,c.1,aZ,kF,Ye]
 .rw[XB] at e
  let⟨d,y⟩:=c.2 i u e;let z:i<n:=by rw[<-c.1];exact(YS.mp e).1
  calc⟨d,y.trans ?_⟩;rw[aZ,o8,KI,YG z];show YB (0+i*1) d=YB i d;rw[q3u,q6v]
theorem vQ:∀{us ns},IntsAre us ns->Vals (ns.map V.int) us
 |_,_,.nil=>.nil
 |_,_,.cons n t r=>.cons ⟨t,Y⟩ (vQ r)
theorem B3:fc X (.builtin "sorted") (λxs H Q=>∃(l:Z)(ns:-Int),xs=[.ref l]/\bf X.K H l (ns.map V.int)/\ns.length<64/\∀r (a:-Int),a.Perm ns->a.Pairwise (· <= ·)->H r=η->Q (.ref r) (upd H r (.lst (a.map V.int)))):=by
 ext f s y H w z Q I r h;let⟨l,x,rfl,j,k,q⟩:23:=h;let⟨u,rfl,m⟩:=vals1 r;cases m
 let⟨d,g,n,_⟩:12:=I.list j;let p:=↑g;rw[kF] at p;calc sorted_ints n.isList (intsAre_of g)⁻¹ ⋯ λc a t i v=>?_;let⟨e,A⟩:=sortedAll_at s.heap d c;calc⟨.ref (⇑s+1),_,I.laid   (λb o e=>sortedAll_old e) (q0N _) ?_,Y,q _ a i v (I.aM.fresh (q0N _))⟩;calc⟨YJ (lz (by rw[kF,i.length_eq];symm)),c.toList,e,vQ t,?_⟩;symm
theorem B4{prog w A}{E:aJ}{I l items}(W:Walks prog w A I [I,l] [I] items.size (λi v=>items[i]?=ζ v) (λi h=>h.IsListIter I l i/\h.IsList l items)):
  ∀k i s (Q:-ν->ο->Prop),i+k<=items.size->(s.heap.IsListIter I l i/\s.heap.IsList l items) →
   (∀h' tk,(h'.IsListIter I l (i+k)/\h'.IsList l items)->(∀b o,b∉[I]->s.heap.get? b=ζ o->h'.get? b=ζ o)->Q ((items.toList.drop i).take k) {s with heap:=h',toks:=tk})->ρ (ς prog w) A (draw (.ref I) k) Q E s
 |0,i,s,Q,_,c,g=>by
  calc nF ?_;let:=g s.heap s.toks c λ_ _ _ e=>e;exact this
 |k+1,i,s,Q,x,c,g=>by
  let p:i<items.size:=by symm
  refine dV (W.item i s _ _ p c λv y r t d f=>dV (Xy (B4 W k (i+1) _ _ ⋯ d λu j m n=>nF ?_)))
  let e:items.toList.drop i=v::items.toList.drop (i+1):=by
   rw[Yc ⋯];congr 1;let a:=t;rw[Xp p] at a;simpa using a
  let:=g u j (by rw[show i+(k+1)=i+1+k by symm];calc m) λb o q e=>n b o q (f b o q e);rw[e,q2J] at this;calc this
theorem Mi{prog:ψ}{w:ω}{A:Β}{E:aJ}{s:ο}{l:Z}{items:Array ν}{Q:-ν->ο->Prop}(j:A.handled=η)(c:s.heap.IsList l items)
  (g:∀h' tk,(∀b o,b≠⇑s->s.heap.get? b=ζ o->h'.get? b=ζ o)->Q items.toList {s with heap:=h',toks:=tk}):ρ (ς prog w) A (unpackItems (.ref l) items.size η) Q E s:=by
 let k:l<⇑s:=by let⟨o,e,_⟩:=c;exact Vo e
 let W:=ZZ (prog:=prog) (w:=w) j ⇑s l (W8 k) items;calc dV (dV (q0O c.typeIs slot_list_iter.lookup (nF (dV (Xy (YW c (dV (Xy (B4 W items.size 0 _ _ ⋯ ⟨⟨_,Vs _ Y,Y,Y⟩,c.push _⟩ λp m a d=>?_)))))))));rw[q04,Yn (by calc vr _),Vq (by calc Zf _)];rw[Yd] at a;calc dV (Xy (W.done _ _ _ a λn f h=>nF (g n f λb o i e=>h b o i⁻¹ (d b o i⁻¹ (mi _ e)))))
def Mj(K:KH)(n:Nat)(t:jz):TG:=λv c H Q=>∃a b,v=.ref a/\bf K H a b/\↑b=n/\t b c H Q
theorem Ml{es:-υ}{k:Nat}{t:jz}{n:Nat}{pos:Ε}(m:X.calm=θ)(h:ij X es t)
  (hn:‹↑(assignEach es X.env)=n›) (f:‹(assignEach es X.env).findIdx? (·.1)=η›):JG X (.Tuple es k pos) (Mj X.K n t):=by
 calc⟨?_⟩;ext c s j H v u Q I r g;let⟨a,p,q,w,x,g⟩:=g;subst q;cases r
 let⟨i,l,y,D⟩:12:=I.list w;let d:=↑l;rw[assign_Tuple];calc dV (Zw ?_);unfold unpack;rw[f,show↑(assignEach es X.env)=i.toArray.size by rw[hn,<-x,d];simp];calc dV (Xy (Mi (I.ok.hd m) y.isList λz A B=>?_));let C:Inv X c j H {s with heap:=z,toks:=A}:=I.kept λb o e=>B b o (W8 (Vo e)) e;calc h c _ j H p _ Q C l⁻¹ g
end
section
variable{X:Cx}{e:υ}{te:TE}{pos p2 p3 p4:Ε}
end
inductive FV where
 |p (d:D)|w (a:Z)
inductive DV where
 |p (d:D)|o (k:Nat)|t (d:D) (k:Nat)|w (a:Z)|u (t:Bool) (fs:-FV)
inductive OV where
 |lst (ds:-D)|dct (au:-(Key×D))|dtt (au:-(-Int×Int))
 |al (a:Z) (ds:-D)|ac (a:Z) (au:-(Key×D))|ins (a C:Z) (fs:-(π×FV))|av (a:Z) (au:-(Key×FV))
structure aH where
 sl:-(Option DV)
 mu:-(Option OV)
def e7{κ b:Type}(R:b->V->Prop):-(κ×b)->-(κ×V)->Prop
 |[],a=>a=[]
 |c::r,a=>∃v t,a=(c.1,v)::t/\R c.2 v/\e7 R r t
def lC(F:Hp):FV->V->Prop
 |.p d,v=>Is F d v
 |.w a,v=>v=.ref a
abbrev rO(F:Hp):-(Key×D)->-(Key×V)->Prop:=e7 (Is F)
abbrev B5(F:Hp){κ:Type}:-(κ×FV)->-(κ×V)->Prop:=e7 (lC F)
theorem e7.mono{κ c R b}(s:∀a v,R a v->b a v):∀{ks:-(κ×c)}{ws},e7 R ks ws->e7 b ks ws
 |[],_,h=>h
 |_::_,_,⟨v,t,e,d,f⟩=>(zI2 v t ⟨e,s _ _ d,e7.mono s f⟩)
theorem lC.same{F F'}(s:ay F F'):∀f v,lC F f v->lC F' f v
 |.p _,_,h=>Is.same s h
 |.w _,_,h=>h
def eT(F:Hp)(a:Z):OV->HO->Prop
 |.lst f,o=>∃e,o=.lst e/\ah F f e
 |.dct c,o=>∃d,o=.dK d/\rO F c d
 |.dtt c,o=>o=.dT (c.map λp=>(p.1.map q1p,V.int p.2))
 |.al b f,o=>b=a/\∃e,o=.lst e/\ah F f e
 |.ac b c,o=>b=a/\∃d,o=.dK d/\rO F c d
 |.ins b C g,o=>b=a/\∃h d,o=.ins C h d/\B5 F g d
 |.av b c,o=>b=a/\∃d,o=.dK d/\B5 F c d
theorem eT.same{F F' a}(s:ay F F'):∀{ov o},eT F a ov o->eT F' a ov o
 |.lst _,_,⟨c,e,h⟩=>⟨c,e,h.same s⟩
 |.dct _,_,⟨b,e,h⟩=>⟨b,e,h.mono λ_ _=>Is.same s⟩
 |.dtt _,_,e=>e
 |.al _ _,_,⟨z,c,e,h⟩=>⟨z,c,e,h.same s⟩
 |.ac _ _,_,⟨z,b,e,h⟩=>⟨z,b,e,h.mono λ_ _=>Is.same s⟩
 |.ins _ _ _,_,⟨z,d,b,e,h⟩=>⟨z,d,b,e,h.mono (lC.same s)⟩
 |.av _ _,_,⟨z,b,e,h⟩=>⟨z,b,e,h.mono (lC.same s)⟩
meta def vR:Bool->-V->HO
 |true,a=>.tup a
 |false,a=>.lst a
def iP(F:Hp):-FV->-V->Prop
 |[],a=>a=[]
 |f::r,a=>∃v t,a=v::t/\lC F f v/\iP F r t
theorem iP.same{F F'}(s:ay F F'):∀{fs us},iP F fs us->iP F' fs us
 |[],_,h=>h
 |_::_,_,⟨v,t,e,a,b⟩=>⟨v,t,e,lC.same s _ _ a,iP.same s b⟩
def dB(F:Hp)(c:-Z):DV->V->Prop
 |.p d,v=>Is F d v
 |.o k,v=>∃a,c[k]?=ζ a/\v=.ref a
 |.w a,v=>v=.ref a
 |.u t f,v=>∃b e,v=.ref b/\F b=ζ (vR t e)/\iP F f e
 |.t d k,v=>∃a b u,v=.ref a/\F a=ζ (.tup [u,.ref b])/\Is F d u/\c[k]?=ζ b
def Lv(b:-Z)(mu:-(Option OV))(a:Z):Prop:=∃(k:Nat)(c:OV),b[k]?=ζ a/\mu[k]?=ζ (ζ c)
class aB where
 ad:-Z
 ok:Hp->Prop
 same:∀{H H':Hp},ok H->ay H H'->ok H'
 put:∀{H:Hp}{a:Z}{o o':HO},ok H->H a=ζ o->((∃vs,o=.lst vs)\/(∃ws,o=.dK ws)\/(∃ws,o=.dT ws)\/∃C dx ws,o=.ins C dx ws)->ok (upd H a o')
 tb:∀{H:Hp}{a:Z},ok H->a∈ad->∃ps,H a=ζ (.tbl ps)
 cs:Hp
 ct:∀{a:Z}{o:HO},cs a=ζ o->∃vs,o=.tup vs
 co:∀{H:Hp},ok H->ay cs H
theorem eT.kd{F a}:∀{ov o},eT F a ov o->(∃vs,o=.lst vs)\/(∃ws,o=.dK ws)\/(∃ws,o=.dT ws)\/∃C d ws,o=.ins C d ws
 |.lst _,_,⟨c,e,_⟩=>.inl ⟨c,e⟩
 |.dct _,_,⟨b,e,_⟩=>.inr (.inl ⟨b,e⟩)
 |.dtt _,_,e=>.inr (.inr (.inl ⟨_,e⟩))
 |.al _ _,_,⟨_,c,e,_⟩=>.inl ⟨c,e⟩
 |.ac _ _,_,⟨_,b,e,_⟩=>.inr (.inl ⟨b,e⟩)
 |.av _ _,_,⟨_,b,e,_⟩=>.inr (.inl ⟨b,e⟩)
 |.ins _ _ _,_,⟨_,d,b,e,_⟩=>.inr (.inr (.inr ⟨_,d,b,e⟩))
theorem eT.kind{F a ov o}(h:eT F a ov o) ps (z:o=.tbl ps):False:=by
 rcases h.kd with⟨_,e⟩|⟨_,e⟩|⟨_,e⟩|⟨_,_,_,e⟩<;>rw[e] at z<;>cases z
variable[zt:aB]
structure NT(F:Hp):Prop where
 no:∀a∈aB.ad,F a=η
 cs:ay aB.cs F
instance {F:Hp}:CoeFun (NT F) λ_=>∀a∈aB.ad,F a=η:=⟨NT.no⟩
theorem NT.up{F F'}(h:NT F)(s:ay F F')(n:∀a∈aB.ad,F' a=η):NT F':=⟨n,λa o e=>s a o (h.cs a o e)⟩
structure SR(F:Hp)(ad:-Z)(δ:aH)(σ:St)(H:Hp):Prop where
 sub:ay F H
 off:∀a,Lv ad δ.mu a->F a=η
 b7:↑ad=↑δ.mu
 inj:∀(k l:Nat)(a:Z)(ov ow:OV),ad[k]?=ζ a->ad[l]?=ζ a->δ.mu[k]?=ζ (ζ ov)->δ.mu[l]?=ζ (ζ ow)->k=l
 mu:∀(k:Nat)(ov:OV),δ.mu[k]?=ζ (ζ ov)->∃a o,ad[k]?=ζ a/\H a=ζ o/\eT F a ov o
 sl:∀(i:Nat)(x:DV),δ.sl[i]?=ζ (ζ x)->∃v,σ[i]?=ζ (ζ v)/\dB F ad x v
 len:↑σ=↑δ.sl
 tab:aB.ok H
 nt:NT F
structure Ext(F:Hp)(ad:-Z)(mu:-(Option OV))(H:Hp)(F':Hp)(bL:-Z)(e8:-(Option OV))(H':Hp):Prop where
 same:ay F F'
 new:∀a o,F' a=ζ o->F a=ζ o\/H a=η\/Lv ad mu a
 keep:∀a o,H a=ζ o->¬ Lv ad mu a->a∉aB.ad->H' a=ζ o
 pre:∀(k:Nat)(a:Z),ad[k]?=ζ a->bL[k]?=ζ a
 b8:∀a,Lv bL e8 a->Lv ad mu a\/H a=η
 g5:∀a o,H a=ζ o->∃o',H' a=ζ o'
section
variable{F F' B6 H H' rP:Hp}{ad bL px:-Z}{mu e8 pz:-(Option OV)}{δ:aH}{σ:St}
theorem b_{H a o}(h:H a=η):ay H (upd H a o):=λb u e=>by rw[aG (bU e h)];calc e
theorem Ext.refl:Ext F ad mu H F ad mu H:=⟨λ_ _ e=>e,λ_ _ e=>.inl e,λ_ _ e _ _=>e,λ_ _ e=>e,λ_ e=>.inl e,λ_ o e=>⟨o,e⟩⟩
theorem Ext.trans(x:Ext F ad mu H F' bL e8 H')(y:Ext F' bL e8 H' B6 px pz rP):Ext F ad mu H B6 px pz rP where
 same:=x.same.trans y.same
 new:=λa o e=>by
  rcases y.new a o e with h|h|h
  .exact x.new a o h
  .refine .inr (.inl ?_)
   cases q:H a with
   |none=>rfl
   |some u=>let⟨c,b⟩:=x.g5 a u q;rw[h] at b;cases b
  .rcases x.b8 a h with h|h
   .exact .inr (.inr h)
   .exact .inr (.inl h)
 keep:=λa o e n t=>y.keep a o (x.keep a o e n t) (λl=>by
  rcases x.b8 a l with h|h
  .exact n h
  .rw[e] at h;cases h) t
 pre:=λk a e=>y.pre k a (x.pre k a e)
 b8:=λa l=>by
  rcases y.b8 a l with h|h
  .exact x.b8 a h
  .refine .inr ?_
   cases q:H a with
   |none=>rfl
   |some u=>let⟨c,b⟩:=x.g5 a u q;rw[h] at b;cases b
 g5:=λa o e=>let⟨d,f⟩:=x.g5 a o e;y.g5 a d f
theorem dB.ext{x v}(h:dB F ad x v)(e:Ext F ad mu H F' bL e8 H'):dB F' bL x v:=by
 cases x with
 |p d=>exact Is.same e.same h
 |o k=>let⟨a,c,f⟩:=h;exact⟨a,e.pre k a c,f⟩
 |w a=>exact h
 |u t l=>let⟨b,i,c,f,g⟩:22:=h;exact(zI2 b i ⟨c,e.same _ _ f,g.same e.same⟩)
 |t d k=>let⟨a,b,u,c,f,g,j⟩:33:=h;calc(zI3 a b u ⟨c,e.same _ _ f,g.same e.same,e.pre k b j⟩)
theorem dB.same{x v}(h:dB F ad x v)(s:ay F F'):dB F' ad x v:=by
 cases x with
 |p d=>exact Is.same s h
 |o k=>exact h
 |w a=>exact h
 |u t j=>let⟨b,g,c,e,f⟩:22:=h;exact(zI2 b g ⟨c,s _ _ e,f.same s⟩)
 |t d k=>let⟨a,b,u,c,e,f,i⟩:33:=h;calc(zI3 a b u ⟨c,s _ _ e,f.same s,i⟩)
theorem dB.pre{c x v}(h:dB F ad x v)(s:∀k a,ad[k]?=ζ a->x=.o k\/(∃d,x=.t d k)->c[k]?=ζ a):dB F c x v:=by
 cases x with
 |p d=>exact h
 |o k=>let⟨a,e,f⟩:=h;exact⟨a,s k a e (.inl Y),f⟩
 |w a=>exact h
 |u t j=>exact h
 |t d k=>let⟨a,b,u,e,f,g,i⟩:33:=h;calc(zI3 a b u ⟨e,f,g,s k b i (.inr ⟨d,Y⟩)⟩)
meta def Nw(F H H':Hp):Hp:=λa=>match H a with
 |none=>H' a
 |some _=>F a
theorem Nw.same(s:ay F H):ay F (Nw F H H'):=λa o e=>by
 unfold Nw;rw[s a o e];calc e
theorem Nw.sub(s:ay F H)(k:ay H H'):ay (Nw F H H') H':=λa o e=>by
 unfold Nw at e
 cases q:H a with
 |none=>rw[q] at e;exact e
 |some u=>rw[q] at e;calc k a o (s a o e)
theorem Nw.upd{p o}(s:ay F H)(b:H p=η):Nw F H (upd H p o)=upd F p o:=by
 funext a;unfold Nw L2.upd
 by_cases c:a=p
 .subst c;rw[b,W_ Y];simp
 .rw[Vq c,Vq c]
  cases q:H a with
  |none =>
   cases d:F a with
   |none=>rfl
   |some u=>rw[s a u d] at q;cases q
  |some u=>rfl
theorem Nw.refl(s:ay F H):Nw F H H=F:=by
 funext a;unfold Nw
 cases q:H a with
 |none =>
  cases b:F a with
  |none=>rfl
  |some u=>rw[s a u b] at q;cases q
 |some u=>rfl
theorem SR.al(S:SR F ad δ σ H)(k:ay H H'):SR (Nw F H H') ad δ σ H':=by
 let f:=Nw.same (H':=H') S.sub;refine⟨Nw.sub S.sub k,λa l=>?_,S.b7,S.inj,λi c e=>?_,λi x e=>?_,S.len,aB.same S.tab k,S.nt.up f λa g=>by let⟨n,q⟩:=aB.tb S.tab g;unfold Nw;rw[q];calc S.nt a g⟩
 .let⟨i,c,b,d⟩:21:=l
  let⟨a',o,j,m,_⟩:22:=S.mu i c d;rw[b] at j;cases j;unfold Nw;rw[m];exact S.off a (zI2 i c ⟨b,d⟩)
 .let⟨a,o,b,d,h⟩:22:=S.mu i c e
  exact(zI2 a o ⟨b,k a o d,h.same f⟩)
 .let⟨v,b,h⟩:=S.sl i x e
  calc⟨v,b,h.same f⟩
theorem Ext.al(S:SR F ad δ σ H)(k:ay H H'):Ext F ad δ.mu H (Nw F H H') ad δ.mu H' where
 same:=Nw.same S.sub
 new:=λa o e=>by
  unfold Nw at e
  cases q:H a with
  |none=>exact .inr (.inl Y)
  |some u=>rw[q] at e;exact .inl e
 keep:=λa o e _ _=>k a o e
 pre:=λ_ _ e=>e
 b8:=λ_ l=>.inl l
 g5:=λa o e=>⟨o,k a o e⟩
theorem SR.own{p:Z}{o ov}(S:SR F ad δ σ H)(r:H p=η)(h:eT F p ov o):SR F (ad++[p]) ⟨δ.sl,δ.mu++[ζ ov]⟩ σ (upd H p o):=by
 let g:∀{k w},(δ.mu++[ζ ov])[k]?=ζ (ζ w)->(k<↑δ.mu/\δ.mu[k]?=ζ (ζ w))\/(k=↑δ.mu/\w=ov):=λ{k w} e=>by
  by_cases c:k<↑δ.mu
  .rw[Xc c] at e;exact .inl ⟨c,e⟩
  .let A:=(mj.mp e).1
   rw[KG,XG] at A;let B:k=↑δ.mu:=by symm
   subst B;exact .inr ⟨Y,by simpa using e.symm⟩
 let j:∀{k},k<↑δ.mu->(ad++[p])[k]?=ad[k]?:=λ{k} c=>Xc (by rw[S.b7];calc c);let f:(ad++[p])[↑δ.mu]?=ζ p:=by rw[<-S.b7,Xi (vr _),YE];rfl
 let y:∀{k a w},ad[k]?=ζ a->δ.mu[k]?=ζ (ζ w)->a≠p:=λ{k a w} b d=>by
  let⟨a',u,m,t,_⟩:22:=S.mu k w d;rw[b] at m;cases m;exact bU t r
 refine⟨λa u e=>?_,λa l=>?_,by rw[KG,KG,S.b7];rfl,λk l a w C b d m t=>?_,λk w e=>?_,λi x e=>?_,S.len,aB.same S.tab (b_ r),S.nt⟩
 .let:=S.sub a u e
  rw[aG (bU this r)];exact this
 .let⟨k,w,b,d⟩:21:=l
  rcases g d with⟨c,m⟩|⟨c,m⟩
  .rw[j c] at b;exact S.off a (zI2 k w ⟨b,m⟩)
  .subst c;rw[f] at b;cases b
   cases q:F p with
   |none=>rfl
   |some u=>rw[S.sub p u q] at r;cases r
 .rcases g m with⟨c,q⟩|⟨c,q⟩
  .rw[j c] at b
   rcases g t with⟨n,s⟩|⟨n,s⟩
   .rw[j n] at d;exact S.inj k l a w C b d q s
   .subst n;rw[f] at d;cases d;exact absurd Y (y b q)
  .subst c;rw[f] at b;cases b
   rcases g t with⟨n,s⟩|⟨n,s⟩
   .rw[j n] at d;exact absurd Y (y d s)
   .exact n.symm
 .rcases g e with⟨c,q⟩|⟨c,q⟩
  .let⟨a,u,b,d,z⟩:22:=S.mu k w q
   exact(zI2 a u ⟨by rw[j c];calc b,by rw[aG (y b q)];calc d,z⟩)
  .subst c q;exact(zI2 p o ⟨f,bj,h⟩)
 .let⟨v,b,z⟩:=S.sl i x e
  calc⟨v,b,z.pre λk a d _=>by rw[Xc (mj.mp d).1];calc d⟩
theorem Ext.own{p:Z}{o:HO}{ov:OV}(S:SR F ad δ σ H)(b:H p=η):Ext F ad δ.mu H F (ad++[p]) (δ.mu++[ζ ov]) (upd H p o) where
 same:=λ_ _ e=>e
 new:=λ_ _ e=>.inl e
 keep:=λa u e _ _=>by rw[aG (bU e b)];exact e
 pre:=λk a e=>by rw[Xc (mj.mp e).1];exact e
 b8:=λa l=>by
  let⟨k,w,d,f⟩:21:=l
  by_cases c:k<↑δ.mu
  .rw[Xc c] at f
   rw[Xc (by rw[S.b7];calc c)] at d;exact .inl (zI2 k w ⟨d,f⟩)
  .let g:=(mj.mp f).1
   rw[KG,XG] at g;let h:k=↑ad:=by rw[S.b7];symm
   subst h;let:=by simpa using d
   subst this;exact .inr b
 g5:=λa u e=>⟨u,by rw[aG (bU e b)];calc e⟩
theorem SR.put{k:Nat}{a:Z}{o:HO}{ov m:OV}(S:SR F ad δ σ H)(j:δ.mu[k]?=ζ (ζ m))(n:ad[k]?=ζ a)(h:eT F a ov o):SR F ad ⟨δ.sl,δ.mu.set k (ζ ov)⟩ σ (upd H a o):=by
 let f:∀{l w},(δ.mu.set k (ζ ov))[l]?=ζ (ζ w)->(l≠k/\δ.mu[l]?=ζ (ζ w))\/(l=k/\w=ov):=λ{l w} e=>by
  by_cases c:k=l
  .subst c;rw[XD ((mj.mp j).1)] at e;exact .inr ⟨Y,by simpa using e.symm⟩
  .rw[XM c] at e;exact .inl ⟨λz=>c z.symm,e⟩
 let s:∀{l w b},ad[l]?=ζ b->(δ.mu.set k (ζ ov))[l]?=ζ (ζ w)->Lv ad δ.mu b:=λ{l w b} d g=>by
  rcases f g with⟨_,q⟩|⟨c,_⟩
  .exact⟨l,w,d,q⟩
  .subst c;exact(zI2 l m ⟨d,j⟩)
 let t:aB.ok (upd H a o):=by
  let⟨a',u,d,g,p⟩:22:=S.mu k m j;rw[n] at d;cases d;exact aB.put S.tab g p.kd
 refine⟨λb u e=>?_,λb l=>?_,by rw[Yr];calc S.b7,λl r b w G d g v y=>?_,λl w e=>?_,λi x e=>?_,S.len,t,S.nt⟩
 .let A:b≠a:=λz=>by
   subst z;rw[S.off b (zI2 k m ⟨n,j⟩)] at e;cases e
  rw[aG A];exact S.sub b u e
 .let⟨l,w,d,g⟩:21:=l
  exact S.off b (s d g)
 .let B:∃w,δ.mu[l]?=ζ (ζ w):=by
   rcases f v with⟨_,q⟩|⟨c,_⟩
   .exact⟨_,q⟩
   .subst c;exact⟨_,j⟩
  let C:∃w,δ.mu[r]?=ζ (ζ w):=by
   rcases f y with⟨_,q⟩|⟨c,_⟩
   .exact⟨_,q⟩
   .subst c;exact⟨_,j⟩
  let⟨I,D⟩:=B;let⟨J,E⟩:=C;exact S.inj l r b _ _ d g D E
 .rcases f e with⟨c,q⟩|⟨c,q⟩
  .let⟨b,u,d,g,p⟩:22:=S.mu l w q
   exact(zI2 b u ⟨d,by rw[aG (λz=>by subst z;calc c (S.inj l k b _ _ d n q j))];calc g,p⟩)
  .subst c q;exact(zI2 a o ⟨n,bj,h⟩)
 .calc S.sl i x e
theorem Ext.put{k:Nat}{a:Z}{o:HO}{ov d:OV}(S:SR F ad δ σ H)(f:δ.mu[k]?=ζ (ζ d))(i:ad[k]?=ζ a):Ext F ad δ.mu H F ad (δ.mu.set k (ζ ov)) (upd H a o) where
 same:=λ_ _ e=>e
 new:=λ_ _ e=>.inl e
 keep:=λb u e n _=>by rw[aG λz=>n (by subst z;calc⟨k,d,i,f⟩)];exact e
 pre:=λ_ _ e=>e
 b8:=λb l=>by
  let⟨l,w,g,h⟩:21:=l
  by_cases c:k=l
  .subst c;exact .inl ⟨k,d,g,f⟩
  .rw[XM c] at h;exact .inl ⟨l,w,g,h⟩
 g5:=λb u e=>by
  by_cases c:b=a
  .subst c;exact⟨o,bj⟩
  .calc⟨u,by rw[aG c];calc e⟩
theorem SR.fix{k:Nat}{a:Z}{o:HO}{m:OV}(S:SR F ad δ σ H)(j:δ.mu[k]?=ζ (ζ m))(n:ad[k]?=ζ a)(s:H a=ζ o):SR (upd F a o) ad ⟨δ.sl,δ.mu.set k η⟩ σ H:=by
 let p:ay F (upd F a o):=λb u e=>by rw[aG (bU e (S.off a ⟨k,m,n,j⟩))];exact e
 let f:∀{l w},(δ.mu.set k η)[l]?=ζ (ζ w)->l≠k/\δ.mu[l]?=ζ (ζ w):=λ{l w} e=>by
  by_cases c:k=l
  .subst c;rw[XD ((mj.mp j).1)] at e;cases e
  .rw[XM c] at e;exact⟨λz=>c z.symm,e⟩
 refine⟨λb u e=>?_,λb l=>?_,by rw[Yr];calc S.b7,λl t b w y d g A B=>S.inj l t b w y d g (f A).2 (f B).2,λl w e=>?_,λi x e=>?_,S.len,S.tab,S.nt.up p λb r=>?_⟩
 .by_cases c:b=a
  .subst c;rw[bj] at e;cases e;exact s
  .rw[aG c] at e;exact S.sub b u e
 .let⟨l,w,d,g⟩:21:=l
  let⟨c,q⟩:=f g;rw[aG (λz=>by subst z;calc c (S.inj l k b _ _ d n q j))];exact S.off b ⟨l,w,d,q⟩
 .let⟨b,u,d,g,h⟩:22:=S.mu l w (f e).2
  exact(zI2 b u ⟨d,g,h.same p⟩)
 .let⟨v,d,h⟩:=S.sl i x e
  exact⟨v,d,h.same p⟩
 .let⟨C,q⟩:=aB.tb S.tab r
  let D:b≠a:=λz=>by
   subst z;let⟨a',u,d,g,h⟩:22:=S.mu k m j;rw[n] at d;cases d;rw[q] at g;cases g;exact h.kind C Y
  rw[aG D];calc S.nt b r
theorem Ext.fix{k:Nat}{a:Z}{o:HO}{f:OV}(S:SR F ad δ σ H)(g:δ.mu[k]?=ζ (ζ f))(h:ad[k]?=ζ a):Ext F ad δ.mu H (upd F a o) ad (δ.mu.set k η) H where
 same:=λb u e=>by rw[aG (bU e (S.off a ⟨k,f,h,g⟩))];exact e
 new:=λb u e=>by
  by_cases c:b=a
  .subst c;exact .inr (.inr ⟨k,f,h,g⟩)
  .rw[aG c] at e;exact .inl e
 keep:=λb u e _ _=>e
 pre:=λ_ _ e=>e
 b8:=λb l=>by
  let⟨l,w,i,d⟩:21:=l
  by_cases c:k=l
  .subst c;rw[XD (mj.mp g).1] at d;cases d
  .rw[XM c] at d;exact .inl ⟨l,w,i,d⟩
 g5:=λb u e=>⟨u,e⟩
theorem SR.set{i:Nat}{x:DV}{v:V}(S:SR F ad δ σ H)(h:dB F ad x v):SR F ad ⟨δ.sl.set i (ζ x),δ.mu⟩ (σ.set i (ζ v)) H:=by
 refine⟨S.sub,S.off,S.b7,S.inj,S.mu,λj y e=>?_,by rw[Yr,Yr];calc S.len,S.tab,S.nt⟩
 by_cases c:i=j
 .subst c
  let a:=(mj.mp e).1;rw[Yr] at a;rw[XD a] at e;cases e
  exact⟨v,XD (by rw[S.len];calc a),h⟩
 .rw[XM c] at e
  let⟨w,b,d⟩:=S.sl j y e;calc⟨w,by rw[XM c];calc b,d⟩
end
abbrev WE:=aH->(DV->aH->Prop)->Prop
abbrev WA:=aH->(-DV->aH->Prop)->Prop
abbrev WT:=aH->(Bool->aH->Prop)->Prop
def cZ(F:Hp)(b:-Z):-DV->-V->Prop
 |[],a=>a=[]
 |x::c,a=>∃v r,a=v::r/\dB F b x v/\cZ F b c r
theorem cZ.ext{F F' H H' c a mu b}(e:Ext F c mu H F' a b H'):∀{xs vs},cZ F c xs vs->cZ F' a xs vs
 |[],_,h=>h
 |_::_,_,⟨v,r,q,d,f⟩=>(zI2 v r ⟨q,d.ext e,cZ.ext e f⟩)
inductive tD (f:WE) (σ:St) (H:Hp) (Q:VK):Prop
 |mk (F:Hp) (ad:-Z) (δ:aH) (K:DV->aH->Prop) (S:SR F ad δ σ H) (q:f δ K) (k:∀x δ',K x δ'->∀v F' bL H',Ext F ad δ.mu H F' bL δ'.mu H'->SR F' bL δ' σ H'->dB F' bL x v->Q v H')
inductive bM (f:WA) (σ:St) (H:Hp) (Q:-V->Hp->Prop):Prop
 |mk (F:Hp) (ad:-Z) (δ:aH) (K:-DV->aH->Prop) (S:SR F ad δ σ H) (q:f δ K) (k:∀xs δ',K xs δ'->∀vs F' bL H',Ext F ad δ.mu H F' bL δ'.mu H'->SR F' bL δ' σ H'->cZ F' bL xs vs->Q vs H')
inductive cq (f:WT) (σ:St) (H:Hp) (Q:Bool->Hp->Prop):Prop
 |mk (F:Hp) (ad:-Z) (δ:aH) (K:Bool->aH->Prop) (S:SR F ad δ σ H) (q:f δ K) (k:∀b δ',K b δ'->∀F' bL H',Ext F ad δ.mu H F' bL δ'.mu H'->SR F' bL δ' σ H'->Q b H')
def g6(F H:Hp):D->V->Prop
 |.lst c,v=>∃a b,v=.ref a/\H a=ζ (.lst b)/\ah F c b
 |d,v=>Is F d v
def fh(x:DV)(b:aH)(K:D->Prop):Prop:=match x with
 |.p d=>K d
 |.o k=>match b.mu[k]? with
  |some (some (.lst a))=>K (.lst a)
  |some (some (.al _ a))=>K (.lst a)
  |_=>False
 |.w _=>False
 |.u _ _=>False
 |.t _ _=>False
theorem g6.of{F H}(s:ay F H):∀{d v},Is F d v->g6 F H d v
 |.lst _,_,h=>by
  let⟨a,b,e,c,f⟩:22:=h;exact(zI2 a b ⟨e,s _ _ c,f⟩)
 |.tup _,_,h=>h
 |.non,_,h=>h
 |.bl _,_,h=>h
 |.int _,_,h=>h
 |.str _,_,h=>h
theorem g6.is{F H}(s:ay F H):∀{d v},g6 F H d v->Is H d v
 |.lst _,_,h=>by
  let⟨a,b,e,c,f⟩:22:=h;exact(zI2 a b ⟨e,c,f.same s⟩)
 |.tup _,_,h=>Is.same s h
 |.non,_,h=>Is.same s h
 |.bl _,_,h=>Is.same s h
 |.int _,_,h=>Is.same s h
 |.str _,_,h=>Is.same s h
theorem gF{F H l m n x v K}(S:SR F l m n H)(c:dB F l x v)(h:fh x m K):∃d,K d/\g6 F H d v:=by
 cases x with
 |p d=>exact⟨d,h,g6.of S.sub c⟩
 |o k =>
  unfold fh at h;dsimp only at h;split at h
  .rename_i q e
   let⟨a,f,rfl⟩:11:=c;let⟨a',o,b,g,i,rfl,j⟩:2211:=S.mu k _ e;rw[f] at b;cases b;exact⟨_,h,a,i,Y,g,j⟩
  .rename_i q e
   let⟨a,f,rfl⟩:=c;let⟨a',o,b,g,_,i,rfl,j⟩:2311:=S.mu k _ e;rw[f] at b;cases b;exact⟨_,h,a,i,Y,g,j⟩
  .exact h.elim
 |w _=>exact h.elim
 |u _ _=>exact h.elim
 |t _ _=>calc h.elim
def g7:-DV->aH->(-D->Prop)->Prop
 |[],_,K=>K []
 |x::b,a,K=>fh x a λd=>g7 b a λc=>K (d::c)
def gG(F H:Hp):-D->-V->Prop
 |[],a=>a=[]
 |d::b,a=>∃v r,a=v::r/\g6 F H d v/\gG F H b r
theorem mw{F H c e f}(S:SR F c e f H):∀{xs vs K},cZ F c xs vs->g7 xs e K->∃ds,K ds/\gG F H ds vs
 |[],_,_,i,h=>⟨[],h,i⟩
 |x::n,_,_,⟨v,r,rfl,j,k⟩,h=>by
  let⟨d,l,m⟩:=gF S j h;let⟨g,a,b⟩:=mw S k l;calc⟨d::g,a,v,r,Y,m,b⟩
abbrev Made(F H:Hp)(K:D->Prop)(Q:VK):Prop:=∀z v a,K z->ay H a->Is (Nw F H a) z v->Q v a
inductive vS (g:D->D->(D->Prop)->Prop) (x y:V) (H:Hp) (Q:VK):Prop
 |mk (F:Hp) (d e:D) (K:D->Prop) (s:ay F H) (rd:g6 F H d x) (re:g6 F H e y) (q:g d e K) (md:Made F H K Q)
inductive B7 (g:-D->(D->Prop)->Prop) (xs:-V) (H:Hp) (Q:VK):Prop
 |mk (F:Hp) (ds:-D) (K:D->Prop) (s:ay F H) (rd:gG F H ds xs) (q:g ds K) (md:Made F H K Q)
inductive Mm (g:D->-D->(D->Prop)->Prop) (x:V) (xs:-V) (H:Hp) (Q:VK):Prop
 |mk (F:Hp) (d:D) (ds:-D) (K:D->Prop) (s:ay F H) (rd:g6 F H d x) (Vy:gG F H ds xs) (q:g d ds K) (md:Made F H K Q)
def eE(X:Cx)(f:ν->ν->Sem ν)(g:D->D->(D->Prop)->Prop):Prop :=
 dn X f λx y H Q=>vS g x y H Q
def B8(X:Cx)(g:D->D->(D->Prop)->Prop):Prop :=
 o5 X λx y H Q=>vS g x y H Q
def cG(X:Cx)(f:ν)(g:-D->(D->Prop)->Prop):Prop :=
 fc X f λa H Q=>B7 g a H Q
def d2(f g:WE)(op:D->D->(D->Prop)->Prop):WE:=λc K=>f c λx b=>g b λy a=>fh x a λd=>fh y a λe=>op d e λz=>K (.p z) a
def d1(f:WE)(op:D->(D->Prop)->Prop):WE:=λb K=>f b λx a=>fh x a λd=>op d λz=>K (.p z) a
def dN(f:WA)(op:-D->(D->Prop)->Prop):WE:=λb K=>f b λc a=>g7 c a λd=>op d λz=>K (.p z) a
def dC(d:D):WE:=λa K=>K (.p d) a
def aa(i:Nat):WE:=λa K=>match a.sl[i]? with
 |some (some x)=>K x a
 |_=>False
def af:WA:=λa K=>K [] a
def ag(f:WE)(g:WA):WA:=λc K=>f c λx a=>g a λd b=>K (x::d) b
section
variable{X:Cx}{a b c:υ}{f g h:WE}{fa:WA}{pos:Ε}
theorem pA{e d v}(h:JE X e (tC v))(a:∀F,Is F d v):JE X e (tD (dC d)):=h.weak λb H Q ⟨F,c,f,K,S,q,k⟩↦k _ _ q _ _ _ _ .refl S (a F)
theorem vT{i j pos}:JE X (.Constant (.int i) j pos) (tD (dC (.int i))):=pA jw λ_=>Y
theorem Mn{i j pos}:JE X (.Constant (.bool i) j pos) (tD (dC (.bl i))):=pA uF λ_=>Y
theorem vU{j pos}:JE X (.Constant .none j pos) (tD (dC .non)):=pA IS λ_=>Y
theorem Mo{x j pos}:JE X (.Constant (.str x) j pos) (tD (dC (.str x))):=pA rg λ_=>Y
theorem Mp{x i u pos}(a:Gl X x)(b:X.mg x=ζ u)(r:RelV (.int i) u)(hd: ~~~(bB x)):JE X (.Name x pos) (tD (dC (.int i))):=pA (uG a b r hd) λ_=>Y
theorem dv(i:Nat){x:π}{pos:Ε}(b:‹X.N[i]?=ζ x›)(c:nz X.env.scope x:=by first|exact q0f Y|exact q2f (q0f Y)|calc q2f (q2f Y))
  (hd: ~~~(bB x)) (a: ~~~((x==("__classdict__" : π))=ι)):JE X (.Name x pos) (tD (aa i)) :=
 (Am b c hd a).weak λg H Q ⟨F,h,j,K,S,q,k⟩↦by
  unfold aa at q;split at q
  .rename_i x e
   let⟨v,d,f⟩:=S.sl i x e;exact⟨v,d,k _ _ q _ _ _ _ .refl S f⟩
  .calc q.elim
theorem rQ{r}{ta tb:TE}{op:D->D->(D->Prop)->Prop}(l:∀x y H Q,(vS op x y H Q)->r x y H Q):∀b H Q,tD (d2 f g op) b H Q->oS r (tD f) (tD g) b H Q:=by
 ext b H Q ⟨F,m,n,K,S,q,k⟩;calc⟨F,m,n,_,S,q,λx c o O p h P s t u=>⟨p,h,c,_,t,o,λy w A R B C T i a E=>l _ _ _ _ ?_⟩⟩;let⟨d,G,I⟩:=gF a (u.ext i) A;let⟨e,J,L⟩:=gF a E G;calc⟨B,d,e,_,a.sub,I,L,J,λz v U M j N=>k _ _ M _ _ _ _ ((s.trans i).trans (Ext.al a j)) (a.al j) N⟩
theorem nO{op}{o:D->D->(D->Prop)->Prop}(c:eE X (binaryOp op) o)(d:JE X a (tD f))(e:JE X b (tD g)):JE X (.BinOp a op b pos) (tD (d2 f g o)) :=
 (lq c d e).weak (rQ (ta:=tD f) (tb:=tD g) λ_ _ _ _ h=>h)
theorem lD{op}{o:D->D->(D->Prop)->Prop}(c:eE X (compareOp op) o)(d:JE X a (tD f))(e:JE X b (tD g))(i:behindInMarks op b=ι):JE X (.Compare a [op] [b] pos) (tD (d2 f g o)) :=
 (JQ c d e i).weak (rQ (ta:=tD f) (tb:=tD g) λ_ _ _ _ h=>h)
theorem pB{o:D->D->(D->Prop)->Prop}(c:B8 X o)(d:JE X a (tD f))(e:JE X b (tD g))(i:AV b):JE X (.Subscript a b pos) (tD (d2 f g o)) :=
 (o7 c d e i).weak (rQ (ta:=tD f) (tb:=tD g) λ_ _ _ _ h=>h)
theorem nP:JA X [] (bM af):=a_.weak λa H Q ⟨F,b,c,K,S,q,k⟩↦k _ _ q _ _ _ _ .refl S Y
theorem my:∀a H Q,bM (ag f fa) a H Q->jc (tD f) (bM fa) a H Q:=by
 ext a H Q ⟨F,e,g,K,S,q,k⟩;calc⟨F,e,g,_,S,q,λx b h i j c v l m n=>⟨j,c,b,_,m,h,λw o p r y s z d t u=>k _ _ p _ _ _ _ (l.trans d) t (zI2 i r ⟨Y,n.ext d,u⟩)⟩⟩
theorem Mq{e es}(a:JE X e (tD f))(b:JA X es (bM fa))(c:‹cI X e es›):JA X (e::es) (bM (ag f fa)):=(iq a b c).weak my
theorem vV{es c j p}(a:JE X (.Constant c j p) (tD f))(b:JA X es (bM fa)):JA X (.Constant c j p::es) (bM (ag f fa)):=(iN a b).weak my
theorem jD{es x p}(a:JE X (.Name x p) (tD f))(b:JA X es (bM fa)):JA X (.Name x p::es) (bM (ag f fa)):=(iO a b).weak my
theorem vW{es x y k p}(a:JE X (.Call x y k p) (tD f))(b:JA X es (bM fa)):JA X (.Call x y k p::es) (bM (ag f fa)):=(g0 a b).weak my
theorem vX{es x p}(a:JE X (.List x p) (tD f))(b:JA X es (bM fa)):JA X (.List x p::es) (bM (ag f fa)):=(vE a b).weak my
theorem vY{es x k p}(a:JE X (.Tuple x k p) (tD f))(b:JA X es (bM fa)):JA X (.Tuple x k p::es) (bM (ag f fa)):=(vF a b).weak my
theorem mz{es x k p}(a:JE X (.Subscript x k p) (tD f))(b:JA X es (bM fa)):JA X (.Subscript x k p::es) (bM (ag f fa)):=(mq a b).weak my
theorem B9{r:-V->Hp->VK->Prop}{op:-D->(D->Prop)->Prop}(e:∀xs H Q,(B7 op xs H Q)->r xs H Q):∀b H Q,tD (dN fa op) b H Q->oX r (bM fa) b H Q:=by
 ext b H Q ⟨F,f,g,K,S,q,k⟩;calc⟨F,f,g,_,S,q,λu h i w j l x m a n=>e _ _ _ ?_⟩;let⟨o,p,c⟩:=mw a n i;calc⟨j,o,_,a.sub,c,p,λz v y s d t=>k _ _ s _ _ _ _ (m.trans (Ext.al a d)) (a.al d) t⟩
theorem lE{x p e es c}{o:-D->(D->Prop)->Prop}(d:cG X (.builtin c) o)(f:Gl X x)(g:X.mg x=η)(i:bootBuiltins x=ζ (.builtin c))(j:JA X (e::es) (bM fa))(hn:x≠"__name__" := by decide)(a: ~~~(bB x))
  (he:‹cI X e es›) (b:‹cX X pos es›):JE X (.Call (.Name x p) (e::es) [] pos) (tD (dN fa o)) :=
 (l9 d f g i j hn a he b).weak (B9 λ_ _ _ h=>h)
theorem B_{x p e es T}{o:-D->(D->Prop)->Prop}(c:cG X (.type T) o)(d:Gl X x)(f:X.mg x=η)(g:bootBuiltins x=ζ (.type T))(i:JA X (e::es) (bM fa))(hn:x≠"__name__" := by decide)(a: ~~~(bB x))
  (he:‹cI X e es›) (b:‹cX X pos es›):JE X (.Call (.Name x p) (e::es) [] pos) (tD (dN fa o)) :=
 (kE c d f g i hn a he b).weak (B9 λ_ _ _ h=>h)
end
meta def Ca(k:Nat)(ds:-D):Option DV->Option DV
 |some (.o j)=>if j=k then ζ (.p (.lst ds)) else ζ (.o j)
 |some (.t d j)=>if j=k then η else ζ (.t d j)
 |s=>s
meta def aH.fix(a:aH)(k:Nat)(ds:-D):aH:=⟨a.sl.map (Ca k ds),a.mu.set k η⟩
def jE(x:DV)(a:aH)(K:D->aH->Prop):Prop:=match x with
 |.p d=>K d a
 |.o k=>match a.mu[k]? with
  |some (some (.lst b))=>K (.lst b) (a.fix k b)
  |_=>False
 |.w _=>False
 |.u _ _=>False
 |.t _ _=>False
def iQ:-DV->aH->(-D->aH->Prop)->Prop
 |[],a,K=>K [] a
 |x::e,a,K=>jE x a λd b=>iQ e b λf c=>K (d::f) c
section
variable{F F' H H':Hp}{ad bL:-Z}{δ δ':aH}{σ σ':St}
theorem SR.fixed{k a vs ds}(S:SR F ad δ σ H)(n:δ.mu[k]?=ζ (ζ (.lst ds)))(l:ad[k]?=ζ a)(y:H a=ζ (.lst vs))(z:ah F ds vs):SR (upd F a (.lst vs)) ad (δ.fix k ds) σ H:=by
 let b:=S.fix n l y;calc⟨b.sub,b.off,b.b7,b.inj,b.mu,λi x e=>?_,by rw[S.len];unfold aH.fix;rw[kF],b.tab,b.nt⟩;unfold aH.fix at e;rw[KI] at e;let⟨s,h,g⟩:=My.mp e
 match s,g with
 |none,g=>cases g
 |some (.p d),e2 =>
  cases(e2)
  exact b.sl i _ h
 |some (.w d),e2 =>
  cases(e2)
  exact b.sl i _ h
 |some (.u t A),e2 =>
  cases(e2)
  exact b.sl i _ h
 |some (.t d j),g =>
  let f:(if j=k then η else ζ (DV.t d j))=ζ x:=g
  by_cases c:j=k
  .rw[W_ c] at f;cases f
  .rw[Vq c] at f;cases f;exact b.sl i _ h
 |some (.o j),g =>
  let f:(if j=k then ζ (DV.p (.lst ds)) else ζ (DV.o j))=ζ x:=g;let⟨v,q,a',m,r⟩:1111:=S.sl i _ h
  by_cases c:j=k
  .rw[W_ c] at f
   subst c;cases f
   rw[l] at m;cases m;exact⟨v,q,(zI2 a vs ⟨r,bj,z.same ((Ext.fix  S n l).same)⟩)⟩
  .rw[Vq c] at f
   cases f
   calc⟨v,q,a',m,r⟩
theorem mB{x v K}(S:SR F ad δ σ H)(f:dB F ad x v)(h:jE x δ K):∃d b F',K d b/\Ext F ad δ.mu H F' ad b.mu H/\SR F' ad b σ H/\Is F' d v:=by
 cases x with
 |p d=>exact(zI3 d δ F ⟨h,.refl,S,f⟩)
 |o k =>
  unfold jE at h;dsimp only at h;split at h
  .rename_i m e
   let⟨a,c,rfl⟩:=f;let⟨a',o,g,j,l,rfl,i⟩:2211:=S.mu k _ e;rw[c] at g;cases g;exact(zI3 _ _ _ ⟨h,Ext.fix S e c,S.fixed e c j i,(zI2 a l ⟨Y,bj,i.same (Ext.fix  S e c).same⟩)⟩)
  .exact h.elim
 |w _=>exact h.elim
 |u _ _=>exact h.elim
 |t _ _=>calc h.elim
theorem rR:∀{xs vs b F K},SR F ad b σ H->cZ F ad xs vs->iQ xs b K->∃ds a F',K ds a/\Ext F ad b.mu H F' ad a.mu H/\SR F' ad a σ H/\ah F' ds vs
 |[],_,b,F,_,S,k,h=>(zI3 [] b F ⟨h,.refl,S,k⟩)
 |x::w,_,b,F,_,S,⟨v,r,e,l,m⟩,h=>by
  subst e;let⟨d,n,y,o,g,p,q⟩:33:=mB S l h;let⟨j,c,s,f,i,t,u⟩:33:=rR p (m.ext g) o;calc(zI3 (d::j) c s ⟨f,g.trans i,t,.cons (q.same i.same) u⟩)
end
def bN(d:WA):WE:=λe K=>d e λf a=>iQ f a λc b=>↑c<=1000/\K (.p (.tup c)) b
def br(d:WA):WE:=λe K=>d e λf a=>iQ f a λc b=>↑c<=1000/\K (.p (.lst c)) b
def kJ(d:WA):WE:=λe K=>d e λf b=>iQ f b λc a=>↑c<=1000/\K (.o ↑a.mu) ⟨a.sl,a.mu++[ζ (.lst c)]⟩
section
variable{X:Cx}{a b c:υ}{es:-υ}{f g h:WE}{fa:WA}{t u:WT}{pos:Ε}
theorem jd{n}(h:n<=1000):n<=sizeLine:=YJ (lz h)
theorem Mr{i}(j:JA X es (bM fa)):JE X (.Tuple es i pos) (tD (bN fa)):=(AE j).weak λA H Q ⟨F,l,m,K,S,q,k⟩ =>
 ⟨F,l,m,_,S,q,λB n r d C s f t u v=>by
  let⟨D,w,E,⟨x,y⟩,z,a,g⟩:33:=rR u v r;calc⟨jd (by rw[↑g];calc x),λp c=>?_⟩;let h:ay f (upd f p (.tup d)):=b_ c;calc k _ _ y _ _ _ _ ((t.trans z).trans (Ext.al a h)) (a.al h) ?_;rw[Nw.upd a.sub c];refine(zI2 p d ⟨Y,bj,g.same λb o e=>?_⟩)
  rw[aG (bU (a.sub b o e) c)];calc e⟩
theorem Ms(i:JA X es (bM fa)):JE X (.List es pos) (tD (br fa)):=(kC i).weak λz H Q ⟨F,j,l,K,S,q,k⟩ =>
 ⟨F,j,l,_,S,q,λA m n d B r f s t u=>by
  let⟨C,v,D,⟨w,x⟩,y,a,g⟩:33:=rR t u n;calc⟨jd (by rw[↑g];calc w),λp c=>?_⟩;let h:ay f (upd f p (.lst d)):=b_ c;calc k _ _ x _ _ _ _ ((s.trans y).trans (Ext.al a h)) (a.al h) ?_;rw[Nw.upd a.sub c];refine(zI2 p d ⟨Y,bj,g.same λb o e=>?_⟩)
  rw[aG (bU (a.sub b o e) c)];calc e⟩
theorem Mt(f:JA X es (bM fa)):JE X (.List es pos) (tD (kJ fa)):=(kC f).weak λy H Q ⟨F,g,h,K,S,q,k⟩ =>
 ⟨F,g,h,_,S,q,λz i j c A l B m n o=>by
  let⟨r,s,t,⟨u,v⟩,w,b,d⟩:33:=rR n o j;calc⟨jd (by rw[↑d];calc u),λp e=>?_⟩;let x:∀{a},eT t a (.lst r) (.lst c):=λ{a}=>⟨c,Y,d⟩;refine k _ _ v _ _ _ _ ((m.trans w).trans (Ext.own b e)) (b.own e x) ⟨p,?_,Y⟩
  rw[<-b.b7,Xi (vr _),YE];rfl⟩
def nQ(x:DV)(P:Bool->Prop):Prop:=match x with
 |.p (.bl b)=>P b
 |_=>False
def dT(f:WE):WT:=λc K=>f c λx a=>nQ x λb=>K b a
def cJ(t u:WT):WT:=λc K=>t c λb a=>if b=θ then u a K else K ι a
def je(t u:WT):WT:=λc K=>t c λb a=>if b=θ then K θ a else u a K
def cu(t:WT):WT:=λc K=>t c λb a=>K (!b) a
def pC(t:WT)(f g:WE):WE:=λc K=>t c λb a=>if b=θ then f a K else g a K
def jF(f g:WE):WE:=λc K=>f c λx a=>nQ x λb=>if b=θ then g a K else K (.p (.bl ι)) a
def rS(f:WE):WE:=λc K=>f c λx a=>nQ x λb=>K (.p (.bl (!b))) a
theorem pD{F a x v P}(c:dB F a x v)(h:nQ x P):∃b,v=.bl b/\P b:=by
 unfold nQ at h;split at h
 .rename_i b
  exact⟨b,c,h⟩
 .calc h.elim
theorem Mu(d:JE X a (tD f))(he:‹∀c,isTrue a X.env c=(do let v <- c;standAt a.pos;holding [v] (truthy v))›):JT X a (cq (dT f)) :=
 (uH d he).weak λp H Q ⟨F,e,g,K,S,q,k⟩↦⟨F,e,g,_,S,q,λx h i v r j s l m n=>by
  let⟨b,rfl,o⟩:=pD n i
  calc⟨b,Y,k _ _ o _ _ _ l m⟩⟩
theorem kK{op}{o:D->D->(D->Prop)->Prop}(c:eE X (compareOp op) o)(d:JE X a (tD f))(e:JE X b (tD g))(i:behindInMarks op b=ι):JT X (.Compare a [op] [b] pos) (cq (dT (d2 f g o))) :=
 (uZ c d e i).weak λj H Q ⟨F,l,m,K,S,q,k⟩↦rQ (ta:=tD f) (tb:=tD g) (λ_ _ _ _ h=>h) j H _ ⟨F,l,m,_,S,q,λx n p v y r z s t u=>by
  let⟨b,rfl,w⟩:=pD u p
  calc⟨b,Y,k _ _ w _ _ _ s t⟩⟩
theorem Mv(c:JT X a (cq t)):JT X (.UnaryOp .Not a pos) (cq (cu t)):=(uK c).weak λl H Q ⟨F,d,e,K,S,q,k⟩↦⟨F,d,e,_,S,q,λb f g m h n i j=>k _ _ g _ _ _ i j⟩
theorem Mw:∀a H Q,cq (cJ t u) a H Q->oJ (cq t) (cq u) a H Q:=λa H Q ⟨F,h,i,K,S,q,k⟩↦⟨F,h,i,_,S,q,λb c e j d r f g=>by
 cases b with
 |true =>
  exact⟨j,d,c,_,g,e,λb l m s n v o p=>k _ _ m _ _ _ (f.trans o) p⟩
 |false =>
  calc k _ _ e _ _ _ f g⟩
theorem Mx:∀a H Q,cq (je t u) a H Q->Ap (cq t) (cq u) a H Q:=λa H Q ⟨F,h,i,K,S,q,k⟩↦⟨F,h,i,_,S,q,λb c e j d r f g=>by
 cases b with
 |false =>
  exact⟨j,d,c,_,g,e,λb l m s n v o p=>k _ _ m _ _ _ (f.trans o) p⟩
 |true =>
  calc k _ _ e _ _ _ f g⟩
theorem JW.weak{e t t'}(h:JW X e t)(k:∀a H Q,t' a H Q->t a H Q):JW X e t':=⟨λc b s a H Q I q=>h c b s a H Q I (k a H Q q)⟩
theorem Mz(b:JT X a (cq t)):JW X (.BoolOp .And [a] pos) (cq t):=IV b
theorem MA(b:JT X a (cq t)):JW X (.BoolOp .Or [a] pos) (cq t):=Aq b
theorem Cb{c}(d:JT X a (cq t))(e:JW X (.BoolOp .And (b::c) pos) (cq u)):JW X (.BoolOp .And (a::b::c) pos) (cq (cJ t u)):=(IW d e).weak Mw
theorem Cc{c}(d:JT X a (cq t))(e:JW X (.BoolOp .Or (b::c) pos) (cq u)):JW X (.BoolOp .Or (a::b::c) pos) (cq (je t u)):=(uJ d e).weak Mx
theorem MB{op}(b:JE X a (tD f)):JE X (.BoolOp op [a] pos) (tD f):=IZ b
theorem MC{c}(l:JE X a (tD f))(m:JE X (.BoolOp .And (b::c) pos) (tD g)):JE X (.BoolOp .And (a::b::c) pos) (tD (jF f g)) :=
 (I_ l m).weak λB H Q ⟨F,n,o,K,S,q,k⟩=>⟨F,n,o,_,S,q,λx d p v r e C h i s=>by
  let⟨b,rfl,j⟩:=pD s p;refine⟨b,Y,?_⟩
  cases b with
  |true =>
   exact⟨r,e,d,_,i,j,λx t u v D w E y z A=>k _ _ u _ _ _ _ (h.trans y) z A⟩
  |false =>
   calc k _ _ j _ _ _ _ h i Y⟩
theorem MD(c:JE X a (tD f)):JE X (.UnaryOp .Not a pos) (tD (rS f)) :=
 (Ja c).weak λo H Q ⟨F,d,e,K,S,q,k⟩↦⟨F,d,e,_,S,q,λx g h v p i r j l m=>by
  let⟨b,rfl,n⟩:=pD m h
  calc⟨b,Y,k _ _ n _ _ _ _ j l Y⟩⟩
theorem ME(u:JT X c (cq t))(w:JE X a (tD f))(y:JE X b (tD g)):JE X (.IfExp c a b pos) (tD (pC t f g)) :=
 (uL u w y).weak λD H Q ⟨F,z,A,K,S,q,k⟩↦⟨F,z,A,_,S,q,λb d o p e E r s=>by
  cases b with
  |true =>
   exact⟨p,e,d,_,s,o,λx h i v B j C l m n=>k _ _ i _ _ _ _ (r.trans l) m n⟩
  |false =>
   calc⟨p,e,d,_,s,o,λx h i v B j C l m n=>k _ _ i _ _ _ _ (r.trans l) m n⟩⟩
end
structure KS where
 nx:aH->Prop
 rt:DV->aH->Prop
 bk:aH->Prop:=λ_=>False
 ct:aH->Prop:=λ_=>False
abbrev WS:=KS->aH->Prop
def Cn(F:Hp)(f:-Z)(mu:-(Option OV))(H:Hp)(P:aH->Prop)(R:St->Hp->Prop):Prop:=∀a,P a->∀e b c d,Ext F f mu H e b a.mu d->SR e b a c d->R c d
class bV where
 ok:Nat->Int->Prop
 kp:Hp->-Z->-(Option OV)->Hp->Prop
 st:∀{F ad mu H F' bL e8 H'},Ext F ad mu H F' bL e8 H'->kp F ad mu H->kp F' bL e8 H'
instance (priority:=low) MF:bV:=⟨λ_ _=>False,λ_ _ _ _=>True,λ_ _=>trivial⟩
section
variable[bV]
structure nR(F:Hp)(ad:-Z)(mu:-(Option OV))(H:Hp)(K:KS)(D:Ends):Prop where
 nx:Cn F ad mu H K.nx D.nx
 bk:Cn F ad mu H K.bk D.bk
 ct:Cn F ad mu H K.ct D.ct
 rt:∀x δ',K.rt x δ'->∀v F' bL σ' H',Ext F ad mu H F' bL δ'.mu H'->SR F' bL δ' σ' H'->dB F' bL x v->D.rt v H'
 kp:bV.kp F ad mu H
theorem Cn.ext{F F' H H' f a mu b P R}(c:Cn F f mu H P R)(e:Ext F f mu H F' a b H'):Cn F' a b H' P R:=λd h _ _ _ _ E S=>c d h _ _ _ _ (e.trans E) S
theorem nR.ext{F F' H H' f a mu b K D}(c:nR F f mu H K D)(e:Ext F f mu H F' a b H'):nR F' a b H' K D :=
 ⟨c.nx.ext e,c.bk.ext e,c.ct.ext e,λx d h _ _ _ _ _ E S V=>c.rt x d h _ _ _ _ _ (e.trans E) S V,bV.st e c.kp⟩
inductive cB (G:WS) (D:Ends) (σ:St) (H:Hp):Prop
 |mk (F:Hp) (ad:-Z) (δ:aH) (K:KS) (S:SR F ad δ σ H) (q:G K δ) (k:nR F ad δ.mu H K D)
def ai(G a:WS):WS:=λK b=>G {K with nx:=a K} b
def bQ:WS:=λK a=>K.nx a
def ar(i:Nat)(f:WE):WS:=λK b=>f b λx a=>K.nx ⟨a.sl.set i (ζ x),a.mu⟩
def jf(f:WE):WS:=λK b=>f b λ_ a=>K.nx a
def aA(f:WE):WS:=λK b=>f b λx a=>K.rt x a
def aO(t:WT)(G c:WS):WS:=λK d=>t d λb a=>if b=θ then G K a else c K a
section
variable{X:Cx}{e c:υ}{st:χ}{rest:-χ}{f:WE}{t:WT}{G G':WS}{pos:Ε}
theorem MG:b3 X [] (cB bQ):=ig.weak λD a H ⟨F,b,c,K,S,q,k⟩↦k.nx _ q _ _ _ _ .refl S
theorem rT(h:JS X st (cB G)):b3 X [st] (cB G):=lj h
theorem vZ(h:JS X st (cB G))(r:b3 X rest (cB G')):b3 X (st::rest) (cB (ai G G')) :=
 (nA h r).weak λD e H ⟨F,b,c,K,S,q,k⟩↦⟨F,b,c,_,S,q,⟨λa h _ _ _ _ E d=>⟨_,_,a,K,d,h,k.ext E⟩,k.bk,k.ct,k.rt,k.kp⟩⟩
theorem MH{i}:∀D a H,cB (ar i f) D a H->dm (tD f) (ik i) D a H:=λD a H ⟨F,b,c,K,S,q,k⟩↦⟨F,b,c,_,S,q,λx d e v m g n h j l=>k.nx _ e _ _ _ _ h (j.set l)⟩
theorem v3{i x a}(b:X.N.Nodup)(c:X.N[i]?=ζ x)(d:Loc X.env.scope x)(he:JE X e (tD f))(g:‹swapsWith e (ζ (.Name x a)) pos.line X.env=pure ι›)
  (h:autoParam (cW X x) qz1._auto_1):JS X (.Assign [.Name x a] e pos) (cB (ar i f)):=(ko b c d he g h).weak MH
theorem MI(he:JE X e (tD f))(a:‹swapsWith e η pos.line X.env=pure ι›):JS X (.Expr e pos) (cB (jf f)) :=
 (Jd he a).weak λD l H ⟨F,b,c,K,S,q,k⟩↦⟨F,b,c,_,S,q,λx d g v m h n i j o=>k.nx _ g _ _ _ _ i j⟩
theorem v5(he:JE X e (tD f)):JS X (.Return (ζ e) pos) (cB (aA f)) :=
 (oN he).weak λD l H ⟨F,a,b,K,S,q,k⟩↦⟨F,a,b,_,S,q,λx c d v m g n h i j=>k.rt _ _ d _ _ _ _ _ h i j⟩
theorem MJ{a b}(j:JT X c (cq t))(l:b3 X a (cB G))(m:b3 X b (cB G')):JS X (.If c a b pos) (cB (aO t G G')) :=
 (As j l m).weak λD p H ⟨F,n,o,K,S,q,k⟩↦⟨F,n,o,_,S,q,λb d f g e r h i=>by
  cases b with
  |true =>
   exact⟨g,e,d,K,i,f,k.ext h⟩
  |false =>
   calc⟨g,e,d,K,i,f,k.ext h⟩⟩
def v7:WS:=λ_ _=>False
abbrev WG:=DV->aH->(aH->Prop)->Prop
inductive gP (g:WG) (v:V) (σ:St) (H:Hp) (Q:St->Hp->Prop):Prop
 |mk (F:Hp) (ad:-Z) (δ:aH) (x:DV) (K:aH->Prop) (S:SR F ad δ σ H) (V:dB F ad x v) (q:g x δ K) (k:Cn F ad δ.mu H K Q)
abbrev pE:=-D->aH->(aH->Prop)->Prop
def kM(g:pE):jz:=λd e H Q=>∃F b a c K,SR F b a e H/\ah F c d/\g c a K/\Cn F b a.mu H K Q
def aS(i:Nat):WG:=λx a K=>K ⟨a.sl.set i (ζ x),a.mu⟩
def fB:pE:=λa b K=>match a with
 |[]=>K b
 |_=>False
def cH(g:WG)(b:pE):pE:=λc e K=>match c with
 |d::r=>g (.p d) e λa=>b r a K
 |[]=>False
theorem JG.weak{c t t'}(h:JG X c t)(k:∀v a H Q,t' v a H Q->t v a H Q):JG X c t':=⟨λb s a H v u Q I r q=>h b s a H v u Q I r (k v a H Q q)⟩
theorem ij.weak{c t t'}(h:ij X c t)(k:∀v a H Q,t' v a H Q->t v a H Q):ij X c t':=⟨λb s a H v u Q I r q=>h b s a H v u Q I r (k v a H Q q)⟩
theorem MK{i x}(a:X.N.Nodup)(b:X.N[i]?=ζ x)(c:Loc X.env.scope x)(d:autoParam (cW X x) qz1._auto_1):JG X (.Name x pos) (gP (aS i)) :=
 (uO a b c d).weak λv e H Q ⟨F,f,g,x,K,S,V,q,k⟩↦k _ q _ _ _ _ .refl (S.set V)
theorem ML:ij X [] (kM fB):=ip.weak λa b H Q ⟨F,c,d,e,K,S,V,q,k⟩↦by
 unfold fB at q;split at q
 .exact⟨V,k _ q _ _ _ _ .refl S⟩
 .calc q.elim
theorem MM{es g b}(c:JG X e (gP g))(f:ij X es (kM b))(i:‹(assignEach (e::es) X.env).map (·.2)=assign e X.env::(assignEach es X.env).map (·.2)›):ij X (e::es) (kM (cH g b)) :=
 (uQ c f i).weak λt u H Q ⟨F,j,l,w,K,S,V,q,k⟩↦by
  unfold cH at q;split at q
  .rename_i d r
   let⟨v,m,e,n,o⟩:22:=V;exact(zI2 v m ⟨e,F,j,l,.p d,_,S,n,q,λa h _ _ _ _ E s=>(zI5 _ _ a r K ⟨s,o.same E.same,h,k.ext E⟩)⟩)
  .calc q.elim
def fN(n:Nat)(g:pE):WG:=λx b K=>fh x b λd=>match d with
 |.tup a=>↑a=n/\g a b K
 |.lst a=>↑a=n/\g a b K
 |_=>False
theorem JG.or{c t t'}(h:JG X c t)(h':JG X c t'):JG X c (λv b H Q=>t v b H Q\/t' v b H Q):=⟨λa s b H v u Q I r q=>q.elim (λq=>h a s b H v u Q I r q) λq=>h' a s b H v u Q I r q⟩
theorem MN{es k g n}(l:X.calm=θ)(h:ij X es (kM g))(hn:‹↑(assignEach es X.env)=n›)(b:‹(assignEach es X.env).findIdx? (·.1)=η›):JG X (.Tuple es k pos) (gP (fN n g)) :=
 ((Au l h hn b).or (Ml l h hn b)).weak λv r H Q ⟨F,m,o,x,K,S,V,q,k⟩↦by
  let⟨d,q,p⟩:=gF S V q;split at q
  .rename_i f
   let⟨a,i,e,j,c⟩:=p;exact .inl ⟨a,i,e,bE.of (S.sub _ _ j),by rw[↑c];calc q.1,F,m,o,f,K,S,c,q.2,k⟩
  .rename_i f
   let⟨a,i,e,j,c⟩:=p;exact .inr ⟨a,i,e,bf.of j,by rw[↑c];calc q.1,F,m,o,f,K,S,c,q.2,k⟩
  .calc q.elim
def eJ(f:WE)(g:WG):WS:=λK b=>f b λx a=>g x a K.nx
theorem MO{a g}(he:JE X e (tD f))(h:JG X a (gP g))(i:‹swapsWithSole [a] e pos.line X.env=pure ι›)(j:‹swappedStores [a] e X.env=pure η›)
  (b:‹(assignEach [a] X.env).map (·.2)=[assign a X.env]›):JS X (.Assign [a] e pos) (cB (eJ f g)) :=
 (uS he h i j b).weak λD s H ⟨F,l,m,K,S,q,k⟩↦⟨F,l,m,_,S,q,λx c b v n d t o p r=>⟨n,d,c,x,K.nx,p,r,b,k.nx.ext o⟩⟩
end
end
structure pF where
 items:-D
 eU:aH->Prop
abbrev WI:=aH->(pF->aH->Prop)->Prop
def mC(F:Hp)(h:-Z)(c:pF)(J:It):Prop:=∀(e:Hp)(b:-Z)(g:aH)(j:St)(H:Hp),ay F e->(∀(k:Nat)(a:Z),h[k]?=ζ a->b[k]?=ζ a)->SR e b g j H->c.eU g →
 J.stop ↑c.items H/\∀(i:Nat)(d:D),c.items[i]?=ζ d->J.go i H/\∀x f,J.nB i H x f->ay H f/\Is (Nw e H f) d x
inductive g8 (w:WI) (σ:St) (H:Hp) (R:It->Hp->Prop):Prop
 |mk (F:Hp) (ad:-Z) (δ:aH) (K:pF->aH->Prop) (S:SR F ad δ σ H) (q:w δ K) (k:∀it δ',K it δ'->∀J F' bL H',Ext F ad δ.mu H F' bL δ'.mu H'->SR F' bL δ' σ H'->mC F' bL it J->R J H')
meta def rV(n:Nat):Option DV->Option DV->Option DV
 |none,_=>η
 |some _,some (.o k)=>if k<n then ζ (.o k) else η
 |some _,some (.t d k)=>if k<n then ζ (.t d k) else η
 |some _,s=>s
meta def fO(n:Nat):-(Option DV)->-(Option DV)->-(Option DV)
 |a::b,s::r=>rV n a s::fO n b r
 |[],_::r=>η::fO n [] r
 |_,[]=>[]
meta def aH.trim(a b:aH):aH:=⟨fO ↑a.mu a.sl b.sl,b.mu.take ↑a.mu⟩
theorem v8{n}:∀a l,↑(fO n a l)=↑l
 |_::b,_::r=>by rw[fO,rC,rC,v8 b r]
 |[],_::r=>by rw[fO,rC,rC,v8 [] r]
 |[],[]=>Y
 |_::_,[]=>Y
theorem v9{n}:∀{b l}{i:Nat}{x},(fO n b l)[i]?=ζ (ζ x)->l[i]?=ζ (ζ x)/\∀k,x=.o k\/(∃d,x=.t d k)->k<n
 |a::f,s::r,0,x,h=>by
  let h:=by simpa[fO] using h
  match a,s,h with
  |none,_,h=>cases h
  |some _,none,h=>cases h
  |some _,some (.p d),h=>cases(h);exact⟨Y,λk e=>by rcases e with e|⟨_,e⟩<;>cases e⟩
  |some _,some (.w d),h=>cases(h);exact⟨Y,λk e=>by rcases e with e|⟨_,e⟩<;>cases e⟩
  |some _,some (.u t d),h=>cases(h);exact⟨Y,λk e=>by rcases e with e|⟨_,e⟩<;>cases e⟩
  |some _,some (.t d k),h =>
   let h:(if k<n then ζ (DV.t d k) else η)=ζ x:=h
   by_cases c:k<n
   .rw[W_ c] at h;cases h;exact⟨Y,λk' e=>by rcases e with e|⟨_,e⟩<;>cases e;calc c⟩
   .rw[Vq c] at h;cases h
  |some _,some (.o k),h =>
   let h:(if k<n then ζ (DV.o k) else η)=ζ x:=h
   by_cases c:k<n
   .rw[W_ c] at h;cases h;exact⟨Y,λk' e=>by rcases e with e|⟨_,e⟩<;>cases e;calc c⟩
   .rw[Vq c] at h;cases h
 |a::f,s::r,i+1,x,h=>by
  let h:=by simpa[fO] using h
  simpa using v9 h
 |[],s::r,0,x,h=>by simp[fO] at h
 |[],s::r,i+1,x,h=>by
  let h:=by simpa[fO] using h
  simpa using v9 h
 |[],[],i,x,h=>by simp[fO] at h
 |_::_,[],i,x,h=>by simp[fO] at h
section
variable{F F' H H':Hp}{ad bL:-Z}{δ δ' δ0:aH}{σ σ' τ:St}{mu e8:-(Option OV)}{l:Z}{o:HO}
theorem Lv.take{n a}(h:Lv (ad.take n) (mu.take n) a):Lv ad mu a:=by
 let⟨k,d,b,c⟩:21:=h
 let e:k<n:=by
  let:=(mj.mp b).1;rw[XN] at this;symm
 rw[Yf e] at b c;calc(zI2 k d ⟨b,c⟩)
theorem SR.trim(S:SR F ad δ σ H):SR F (ad.take ↑δ0.mu) (δ0.trim δ) σ H:=by
 let g:∀{k a},(ad.take ↑δ0.mu)[k]?=ζ a->k<↑δ0.mu/\ad[k]?=ζ a:=λ{k a} e=>by
  let b:k<↑δ0.mu:=by
   let:=(mj.mp e).1;rw[XN] at this;symm
  rw[Yf b] at e;exact⟨b,e⟩
 let f:∀{k w},(δ.mu.take ↑δ0.mu)[k]?=ζ w->k<↑δ0.mu/\δ.mu[k]?=ζ w:=λ{k w} e=>by
  let b:k<↑δ0.mu:=by
   let:=(mj.mp e).1;rw[XN] at this;symm
  rw[Yf b] at e;exact⟨b,e⟩
 refine⟨S.sub,λa x=>S.off a x.take,?_,λk l a w j c d m n=>S.inj k l a w j (g c).2 (g d).2 (f m).2 (f n).2,λk p e=>?_,λi x e=>?_,?_,S.tab,S.nt⟩
 .show ↑(ad.take _)=↑(δ.mu.take _)
  rw[XN,XN,S.b7]
 .let⟨a,o,c,d,h⟩:22:=S.mu k p (f e).2
  exact(zI2 a o ⟨by rw[Yf (f e).1];calc c,d,h⟩)
 .let⟨c,d⟩:=v9 e
  let⟨v,q,r⟩:=S.sl i x c;exact⟨v,q,r.pre λk a s z=>by rw[Yf (d k z)];calc s⟩
 .show ↑σ=↑(fO _ _ _)
  rw[v8];calc S.len
theorem Ext.trim{n}(e:Ext F ad mu H F' bL e8 H')(hn:↑ad=n):Ext F ad mu H F' (bL.take n) (e8.take n) H' :=
 ⟨e.same,e.new,e.keep,λk a h=>by rw[Yf (by rw[<-hn];calc(mj.mp h).1)];calc e.pre k a h,λa x=>e.b8 a x.take,e.g5⟩
theorem SR.other(S:SR F ad δ σ H)(d:F l=η)(f:¬ Lv ad δ.mu l)(tk:aB.ok (upd H l o)):SR F ad δ σ (upd H l o):=by
 refine⟨λa u e=>?_,S.off,S.b7,S.inj,λk b e=>?_,S.sl,S.len,tk,S.nt⟩
 .rw[aG (bU e d)];exact S.sub a u e
 .let⟨a,u,c,g,h⟩:22:=S.mu k b e
  calc(zI2 a u ⟨c,by rw[aG λz=>f (by subst z;calc(zI2 k b ⟨c,e⟩))];calc g,h⟩)
theorem Ext.other(e:Ext F ad mu H F' bL e8 H')(b:H l=η):Ext F ad mu H F' bL e8 (upd H' l o) :=
 ⟨e.same,e.new,λa u h n t=>by rw[aG (bU h b)];calc e.keep a u h n t,e.pre,e.b8,λa u h=>by rw[aG (bU h b)];calc e.g5 a u h⟩
theorem SR.adopt(S:SR F ad δ σ H)(j:F l=η)(f:H l=ζ o)(m:¬ Lv ad δ.mu l)(p:∀ps,o≠.tbl ps:=by ext _ z;cases z):SR (upd F l o) ad δ σ H:=by
 let b:ay F (upd F l o):=b_ j
 refine⟨λa u e=>?_,λa x=>?_,S.b7,S.inj,λk r e=>?_,λi x e=>?_,S.len,S.tab,S.nt.up b λa g=>by
  let⟨n,q⟩:=aB.tb S.tab g;rw[aG λz=>by subst z;rw[f] at q;calc p n (XA q)]
  calc S.nt a g⟩
 .by_cases c:a=l
  .subst c;rw[bj] at e;cases e;exact f
  .rw[aG c] at e;exact S.sub a u e
 .rw[aG λz=>m (by subst z;calc x)];exact S.off a x
 .let⟨a,u,d,s,h⟩:22:=S.mu k r e
  exact(zI2 a u ⟨d,s,h.same b⟩)
 .let⟨v,d,h⟩:=S.sl i x e
  calc⟨v,d,h.same b⟩
theorem Ext.adopt(e:Ext F ad mu H F' bL e8 H')(b:H l=η)(d:F' l=η):Ext F ad mu H (upd F' l o) bL e8 H' :=
 ⟨e.same.trans (b_ d),λa u h=>by
  by_cases c:a=l
  .subst c;exact .inr (.inl b)
  .rw[aG c] at h;calc e.new a u h,e.keep,e.pre,e.b8,e.g5⟩
theorem SR.cC{ov}(S:SR F ad δ σ H)(A:F l=η)(B:H l=ζ o)(p:¬ Lv ad δ.mu l)(h:eT F l ov o):SR F (ad++[l]) ⟨δ.sl,δ.mu++[ζ ov]⟩ σ H:=by
 let g:∀{k w},(δ.mu++[ζ ov])[k]?=ζ (ζ w)->(k<↑δ.mu/\δ.mu[k]?=ζ (ζ w))\/(k=↑δ.mu/\w=ov):=λ{k w} e=>by
  by_cases c:k<↑δ.mu
  .rw[Xc c] at e;exact .inl ⟨c,e⟩
  .let p:=(mj.mp e).1
   rw[KG,XG] at p;let C:k=↑δ.mu:=by symm
   subst C;exact .inr ⟨Y,by simpa using e.symm⟩
 let j:∀{k},k<↑δ.mu->(ad++[l])[k]?=ad[k]?:=λ{k} c=>Xc (by rw[S.b7];calc c);let b:(ad++[l])[↑δ.mu]?=ζ l:=by rw[<-S.b7,Xi (vr _),YE];rfl
 refine⟨S.sub,λa x=>?_,by rw[KG,KG,S.b7];rfl,λk t a w y d f r z=>?_,λk w e=>?_,λi x e=>?_,S.len,S.tab,S.nt⟩
 .let⟨k,w,d,f⟩:21:=x
  rcases g f with⟨c,r⟩|⟨c,r⟩
  .rw[j c] at d;exact S.off a ⟨k,w,d,r⟩
  .subst c;rw[b] at d;cases d;exact A
 .rcases g r with⟨c,q⟩|⟨c,q⟩
  .rw[j c] at d
   rcases g z with⟨m,n⟩|⟨m,n⟩
   .rw[j m] at f;exact S.inj k t a w y d f q n
   .subst m;rw[b] at f;cases f;exact absurd ⟨k,w,d,q⟩ p
  .subst c;rw[b] at d;cases d
   rcases g z with⟨m,n⟩|⟨m,n⟩
   .rw[j m] at f;exact absurd ⟨t,y,f,n⟩ p
   .exact m.symm
 .rcases g e with⟨c,q⟩|⟨c,q⟩
  .let⟨a,u,d,f,s⟩:22:=S.mu k w q
   exact(zI2 a u ⟨by rw[j c];calc d,f,s⟩)
  .subst c q;exact(zI2 l o ⟨b,B,h⟩)
 .let⟨v,d,s⟩:=S.sl i x e
  calc⟨v,d,s.pre λk a f _=>by rw[Xc (mj.mp f).1];calc f⟩
theorem Ext.cC{ov:OV}(e:Ext F ad mu H F' bL e8 H')(g:H l=η)(i:↑bL=↑e8):Ext F ad mu H F' (bL++[l]) (e8++[ζ ov]) H' :=
 ⟨e.same,e.new,e.keep,λk a h=>by rw[Xc (mj.mp (e.pre k a h)).1];calc e.pre k a h,λa x=>by
  let⟨k,w,b,d⟩:21:=x
  by_cases c:k<↑e8
  .rw[Xc c] at d
   rw[Xc (by rw[i];calc c)] at b;exact e.b8 a (zI2 k w ⟨b,d⟩)
  .let f:=(mj.mp d).1
   rw[KG,XG] at f;let j:k=↑bL:=by symm
   subst j;let:=by simpa using b
   subst this;calc .inr g,e.g5⟩
theorem SR.back{b}(a:SR F ad δ σ H)(e:Ext F ad δ.mu H F' bL e8 H')(S:SR F' bL ⟨b,e8⟩ τ H'):SR F' bL ⟨δ.sl,e8⟩ σ H' :=
 ⟨S.sub,S.off,S.b7,S.inj,S.mu,λi x q=>let⟨v,c,d⟩:=a.sl i x q;⟨v,c,d.ext e⟩,a.len,S.tab,S.nt⟩
meta def dO(cp:-(Option Nat))(a:-(Option DV)):-(Option DV):=cp.map λo=>match o with
 |some i=>(a[i]?).join
 |none=>η
theorem SR.pG{cp:-(Option Nat)}(S:SR F ad δ σ H):SR F ad ⟨dO cp δ.sl,δ.mu⟩ (iK cp σ) H:=by
 calc⟨S.sub,S.off,S.b7,S.inj,S.mu,λj x e=>?_,by unfold iK dO;rw[kF,kF],S.tab,S.nt⟩;unfold dO at e;rw[KI] at e;let⟨o,b,a⟩:=My.mp e
 match o,a with
 |none,a=>cases a
 |some i,a =>
  let a:(δ.sl[i]?).join=ζ x:=a
  cases q:δ.sl[i]? with
  |none=>rw[q] at a;cases a
  |some z =>
   rw[q] at a;subst a;let⟨v,c,d⟩:=S.sl i x q;calc⟨v,?_,d⟩;unfold iK;rw[KI,b];show ζ ((σ[i]?).join)=ζ (ζ v);rw[c];rfl
end
def jg(a:aH)(c:aH->Prop)(g:WG)(b:WS)(K:KS):-D->aH->Prop
 |[],f=>c f/\K.nx f
 |d::r,f=>c f/\g (.p d) f λh=>b {nx:=λe=>jg a c g b K r (a.trim e),ct:=λe=>jg a c g b K r (a.trim e),bk:=K.nx,rt:=K.rt} h
def cD(w:WI)(g:WG)(b:WS):WS:=λK d=>w d λc a=>jg a c.eU g b K c.items a
def g9(c:aH)(h:aH->Prop)(g:WG)(t:WT)(f:WE)(K:-D->aH->Prop):-D->-D->aH->Prop
 |[],a,i=>h i/\K a i
 |d::r,a,i=>h i/\g (.p d) i λk=>t k λb j=>if b=θ then f j λx l=>jE x l λe m=>↑a<1000/\g9 c h g t f K r (a++[e]) (c.trim m) else g9 c h g t f K r a (c.trim j)
def bX(w:WI)(cp:-(Option Nat))(g:WG)(t:WT)(f:WE):WE:=λe K=>w e λd a=>g9 ⟨dO cp a.sl,a.mu⟩ d.eU g t f (λb c=>K (.p (.lst b)) ⟨a.sl,c.mu⟩) d.items [] ⟨dO cp a.sl,a.mu⟩
def jh(w:WI)(cp:-(Option Nat))(g:WG)(t:WT)(f:WE):WE:=λe K=>w e λd a=>g9 ⟨dO cp a.sl,a.mu⟩ d.eU g t f (λc b=>K (.o ↑b.mu) ⟨a.sl,b.mu++[ζ (.lst c)]⟩) d.items [] ⟨dO cp a.sl,a.mu⟩
section
variable{X:Cx}{tg iter elt:υ}{body:-χ}{w:WI}{g:WG}{b:WS}{pos:Ε}{ifs:-υ}{t:WT}{f:WE}{scope:Δ}
theorem Cd[bV](hp:PassesOwn (ς X.prog X.w) X.A X.env X.xe)(hc:X.calm=θ)(hi:JI X tg iter (g8 w))(hg:JG X tg (gP g))(hb:b3 X body (cB b))(hs:‹∀x,foldedSetIterable iter X.env x=pure x›):
  JS X (.For tg iter body [] pos) (cB (cD w g b)):=(Az hp hc hi hg hb hs).weak λD σ H ⟨F,ad,δ,K,S,q,k⟩=>by
 calc⟨F,ad,δ,_,S,q,λn d h1 J L o Z E1 M I1=>?_⟩;let G:=k.ext E1;calc⟨λi m j s=>∃t c a,i+m=↑n.items/\Ext L o d.mu Z t c a.mu s/\SR t c a j s/\jg d n.eU g b K (n.items.drop i) a,(zI4 ↑n.items L o d ⟨⋯,.refl,M,h1⟩),?_⟩;ext i m j s u;let⟨t,c,a,hm,r,v,h⟩:33:=u
 by_cases z:i<↑n.items
 .rw[Yc z] at h
  let⟨N,h⟩:=h;let⟨go,yl⟩:=(I1 t c a j s r.same r.pre v N).2 i _ (mf z);calc .inr ⟨go,λB C=>∃I l e,Ext L o d.mu Z I l e.mu C/\SR I l e B C/\jg d n.eU g b K (n.items.drop (i+1)) e,λB C E=>by let⟨I,l,e,e1,e2,e3⟩:32:=E;calc⟨m-1,⋯,I,l,e,⋯,e1,e2,e3⟩,λx C y=>?_⟩;let⟨sm,is⟩:01:=yl x C y;let E2:=r.trans (Ext.al v sm);calc⟨_,c,a,.p _,_,v.al sm,is,h,λO h3 F3 P σ3 H3 E3 S3=>?_⟩;let f:=E2.trans E3;refine⟨F3,P,O,_,S3,h3,⟨λQ R T U V H4 W Y=>⟨T,_,_,(f.trans W).trim M.b7,Y.trim,R⟩,G.nx.ext f,λQ R T U V H4 W Y=>⟨T,_,_,(f.trans W).trim M.b7,Y.trim,R⟩,(G.ext f).rt,(G.ext f).kp⟩⟩
 .let ei:i=↑n.items:=by symm
  subst ei;rw[q0w (vr _)] at h;let⟨N,h⟩:=h;calc .inl ⟨(I1 t c a j s r.same r.pre v N).1,G.nx _ h _ _ _ _ r v⟩
def bY:WT:=λa K=>K θ a
theorem JF.weak{a:-υ}{t t':TT}(h:JF X a t)(k:∀b H Q,t' b H Q->t b H Q):JF X a t':=⟨λc s b H Q I q=>h c s b H Q I (k b H Q q)⟩
theorem MP:JF X [] (cq bY):=mm.weak λa H Q ⟨F,b,c,K,S,q,k⟩↦k _ _ q _ _ _ .refl S
theorem MQ{c:υ}(h:JT X c (cq t)):JF X [c] (cq t):=KR h
theorem Ce{J l H n c σ U C cp Q K}(N:SR H n c σ U)(I1:mC H n C J)(O:U l=η)
  (h:g9 ⟨dO cp c.sl,c.mu⟩ C.eU g t f K C.items [] ⟨dO cp c.sl,c.mu⟩)
  (fin:∀acc b F' d V H' ys,K acc b->Ext H n c.mu U F' d b.mu H'->SR F' d b V H'->H' l=ζ (.lst ys)->F' l=η->¬ Lv d b.mu l->ah F' acc ys->Q (.ref l) H') :
  Bn J (gP g) (cq t) (tD f) l (iK cp σ) (upd U l (.lst [])) Q:=by
 let f1:H l=η:=by
  cases q:H l with
  |none=>rfl
  |some u=>rw[N.sub l u q] at O;cases O
 let l1:¬ Lv n c.mu l:=λ⟨k,ov,e1,e2⟩↦by
  let⟨a,o,e3,e4,_⟩:22:=N.mu k ov e2;rw[e1] at e3;cases e3;rw[O] at e4;cases e4
 calc⟨λi m V P=>∃I d b w L,i+m=↑C.items/\Ext H n c.mu U I d b.mu P/\SR I d b V P/\P l=ζ (.lst L)/\I l=η/\¬ Lv d b.mu l/\ah I w L/\g9 ⟨dO cp c.sl,c.mu⟩ C.eU g t f K (C.items.drop i) w b,(zI6 ↑C.items H n _ [] [] ⟨⋯,Ext.refl.other O,(N.pG.other f1 l1 (aB.same N.tab (b_ O))),bj,f1,l1,.nil,h⟩),?_⟩;ext i m V P W;let⟨I,d,b,w,L,hm,R,X,E,Y,F,ia,h⟩:57:=W
 by_cases Z:i<↑C.items
 .rw[Yc Z] at h
  let⟨ck,h⟩:=h;let⟨go,yl⟩:01:=(I1 I d b V P R.same R.pre X ck).2 i _ (mf Z)
  let M:∀{B j S D},Ext I d b.mu P B j S D->D l=ζ (.lst L)/\B l=η/\¬ Lv j S l/\ah B w L:=λ{B j S D} e=>by
   refine⟨e.keep _ _ E F (λz=>by let⟨ps,q⟩:=aB.tb N.tab z;rw[O] at q;cases q),?_,λz=>?_,ia.same e.same⟩
   .cases q:B l with
    |none=>rfl
    |some u =>
     rcases e.new l u q with z|z|z
     .rw[Y] at z;cases z
     .rw[E] at z;cases z
     .exact absurd z F
   .rcases e.b8 l z with z|z
    .exact F z
    .rw[E] at z;cases z
  refine .inr ⟨go,fun τ2 D=>∃B j A s G,Ext H n c.mu U B j A.mu D/\SR B j A τ2 D/\D l=ζ (.lst G)/\B l=η/\¬ Lv j A.mu l/\ah B s G/\g9 ⟨dO cp c.sl,c.mu⟩ C.eU g t f K (C.items.drop (i+1)) s A,
   fun τ2 D jG=>by let⟨B,j,A,s,G,r⟩:5:=jG;calc⟨m-1,⋯,B,j,A,s,G,⋯,r⟩,λx D y=>?_⟩
  let⟨sm,is⟩:01:=yl x D y;let X2:=Ext.al X sm;calc⟨_,d,b,.p _,_,X.al sm,is,h,fun δ3 h3 F3 Cf σ3 H3 X3 S3=>⟨F3,Cf,δ3,_,S3,h3,λbb δ4 h4 F4 Cg H4 X4 S4=>?_⟩⟩;let T:=(X2.trans X3).trans X4
  cases bb with
  |false =>
   let⟨a1,a2,a3,a4⟩:03:=M T;exact(zI5 F4 _ _ w L ⟨(R.trans T).trim N.b7,S4.trim,a1,a2,λz=>a3 z.take,a4,h4⟩)
  |true =>
   calc⟨F4,Cg,δ4,_,S4,h4,λy δ5 h5 v F5 Vz H5 X5 S5 V5=>?_⟩;let⟨e,δ6,F6,⟨hlen,h6⟩,X6,S6,i6⟩:33:=mB S5 V5 h5;let Ci:=(T.trans X5).trans X6;let⟨a1,a2,a3,a4⟩:03:=M Ci;exact⟨L,a1,lz (by rw[↑a4];symm),F6,_,_,w++[e],L++[v],((R.trans Ci).other O).trim N.b7,(S6.other a2 a3 (aB.put S6.tab a1 (.inl ⟨_,rfl⟩))).trim ,bj,a2,λz=>a3 z.take,a4.snoc i6,h6⟩
 .let ei:i=↑C.items:=by symm
  subst ei;rw[q0w (vr _)] at h;let⟨ck,h⟩:=h;calc .inl ⟨(I1 I d b V P R.same R.pre X ck).1,fin _ _ _ _ _ _ _ h R X E Y F ia⟩
theorem Cj{cp:-(Option Nat)}:∀b H Q,tD (bX w cp g t f) b H Q->pb (g8 w) cp (λ_=>gP g) (λ_=>cq t) (λ_=>tD f) b H Q:=λb H Q ⟨F,m,n,K,S,q,k⟩↦by
 calc⟨F,m,n,_,S,q,λD o p J E r G s i u=>λd l c=>Ce i u c p λv x I y L M z A j B e a h C=>k _ _ A _ _ _ _ (s.trans (j.adopt c a)) (SR.back  i (j.adopt c a) (B.adopt a e h)) (zI2 l z ⟨Y,bj,C.same (b_ a)⟩)⟩
theorem Cm{cp:-(Option Nat)}:∀b H Q,tD (jh w cp g t f) b H Q->pb (g8 w) cp (λ_=>gP g) (λ_=>cq t) (λ_=>tD f) b H Q:=λb H Q ⟨F,o,p,K,S,q,k⟩=>by
 calc⟨F,o,p,_,S,q,λG r s J I u L v j x=>λd l m=>Ce j x m s λa y M z N O A B C c e h i D=>?_⟩;let E:=c.cC (ov:=.lst a) h e i ⟨A,Y,D⟩;let n:=C.cC (ov:=.lst a) m c.b7;calc k _ _ B _ _ _ _ (v.trans n) (SR.back  j n E) ⟨l,?_,Y⟩;rw[<-c.b7,Xi (vr _),YE];rfl
theorem MR(cp:-(Option Nat))(Nb:-π)(a:X.calm=θ)(b:JI X tg iter (g8 w))(c:∀d,JG (bT X scope Nb d) tg (gP g))(e:∀d,JF (bT X scope Nb d) ifs (cq t))(he:∀d,JE (bT X scope Nb d) elt (tD f))
  (h:‹scope.kind=.function›) (i:autoParam (iL X.N X.env.scope scope Nb cp=θ) qz2._auto_1) (j:‹∀x,foldedSetIterable iter X.env x=pure x›) :
  JE X (.ListComp elt [⟨tg,iter,ifs,0⟩] scope pos) (tD (bX w cp g t f)):=(Bp cp Nb a b c e he h i j).weak Cj
theorem MS(cp:-(Option Nat))(Nb:-π)(a:X.calm=θ)(b:JI X tg iter (g8 w))(c:∀d,JG (bT X scope Nb d) tg (gP g))(e:∀d,JF (bT X scope Nb d) ifs (cq t))(he:∀d,JE (bT X scope Nb d) elt (tD f))
  (h:‹scope.kind=.function›) (i:autoParam (iL X.N X.env.scope scope Nb cp=θ) qz2._auto_1) (j:‹∀x,foldedSetIterable iter X.env x=pure x›) :
  JE X (.ListComp elt [⟨tg,iter,ifs,0⟩] scope pos) (tD (jh w cp g t f)):=(Bp cp Nb a b c e he h i j).weak Cm
theorem MT[bV](cp:-(Option Nat))(Nb:-π){i:Nat}{x:π}{a b:Ε}(j:X.N.Nodup)(l:X.N[i]?=ζ x)(m:Loc X.env.scope x)(n:X.calm=θ)(c:JI X tg iter (g8 w))(o:∀d,JG (bT X scope Nb d) tg (gP g))(p:∀d,JF (bT X scope Nb d) ifs (cq t))(he:∀d,JE (bT X scope Nb d) elt (tD f))
  (r:‹scope.kind=.function›) (s:autoParam (iL X.N X.env.scope scope Nb cp=θ) qz2._auto_1) (u:‹∀x,foldedSetIterable iter X.env x=pure x›)
  (e:‹swapsWith (.ListComp elt [⟨tg,iter,ifs,0⟩] scope pos) (ζ (.Name x a)) b.line X.env=pure θ›)
  (h:autoParam (cW X x) qz1._auto_1) :
  JS X (.Assign [.Name x a] (.ListComp elt [⟨tg,iter,ifs,0⟩] scope pos) b) (cB (ar i (bX w cp g t f))) :=
 (Bq cp Nb j l m n c o p he r s u e h).weak λD y H ⟨F,z,A,K,S,q,k⟩↦Cj y H _ ⟨F,z,A,_,S,q,λx B C v L E M G I J=>k.nx _ C _ _ _ _ G (I.set J)⟩
theorem MU[bV](cp:-(Option Nat))(Nb:-π){i:Nat}{x:π}{a b:Ε}(j:X.N.Nodup)(l:X.N[i]?=ζ x)(m:Loc X.env.scope x)(n:X.calm=θ)(c:JI X tg iter (g8 w))(o:∀d,JG (bT X scope Nb d) tg (gP g))(p:∀d,JF (bT X scope Nb d) ifs (cq t))(he:∀d,JE (bT X scope Nb d) elt (tD f))
  (r:‹scope.kind=.function›) (s:autoParam (iL X.N X.env.scope scope Nb cp=θ) qz2._auto_1) (u:‹∀x,foldedSetIterable iter X.env x=pure x›)
  (e:‹swapsWith (.ListComp elt [⟨tg,iter,ifs,0⟩] scope pos) (ζ (.Name x a)) b.line X.env=pure θ›)
  (h:autoParam (cW X x) qz1._auto_1) :
  JS X (.Assign [.Name x a] (.ListComp elt [⟨tg,iter,ifs,0⟩] scope pos) b) (cB (ar i (jh w cp g t f))) :=
 (Bq cp Nb j l m n c o p he r s u e h).weak λD y H ⟨F,z,A,K,S,q,k⟩↦Cm y H _ ⟨F,z,A,_,S,q,λx B C v L E M G I J=>k.nx _ C _ _ _ _ G (I.set J)⟩
end
inductive RV where
 |p (d:D)|n (ds:-D)|a (j:Nat)|t (d:D) (ds:-D)
def mD(F' H H':Hp)(d:D)(ds:-D)(v:V):Prop:=∃a b u c,v=.ref a/\F' a=ζ (.tup [u,.ref b])/\Is F' d u/\H b=η/\H' b=ζ (.lst c)/\F' b=η/\ah F' ds c
abbrev GD:=-DV->-OV->(RV->-OV->Prop)->Prop
structure v_(F:Hp)(ad:-Z)(H:Hp)(r:RV)(ows:-OV)(v:V)(F' H':Hp):Prop where
 sub:ay F' H'
 same:ay F F'
 new:∀a o,F' a=ζ o->F a=ζ o\/H a=η
 keep:∀a o,H a=ζ o->a∉ad->a∉aB.ad->H' a=ζ o
 tab:aB.ok H'
 nt:NT F'
 len:↑ows=↑ad
 own:∀(j:Nat)(ow:OV),ows[j]?=ζ ow->∃a o,ad[j]?=ζ a/\H' a=ζ o/\eT F' a ow o
 off:∀a∈ad,F' a=η
 res:match r with
  |.p d=>Is F' d v
  |.n ds=>∃a vs,v=.ref a/\H a=η/\H' a=ζ (.lst vs)/\F' a=η/\ah F' ds vs
  |.a j=>∃a,ad[j]?=ζ a/\v=.ref a
  |.t d ds=>mD F' H H' d ds v
inductive ji (G:GD) (n:Nat) (vs:-V) (H:Hp) (Q:VK) (q:XK):Prop
 |mk (hl:↑vs=n) (F:Hp) (ad:-Z) (ys:-DV) (aN:-OV) (K:RV->-OV->Prop) (S:SR F ad ⟨ys.map ζ,aN.map ζ⟩ (vs.map ζ) H) (g:G ys aN K) (k:∀r ows,K r ows->∀v F' H',v_ F ad H r ows v F' H'->Q v H')
def gH(n:Nat)(K:RV->-OV->Prop)(x:DV)(e:aH):Prop:=∃b,e.mu.take n=b.map ζ/\↑b=n/\match x with
 |.p d=>K (.p d) b
 |.o k=>if k<n then K (.a k) b else match e.mu[k]? with
  |some (some (.lst c))=>K (.n c) b\/K (.p (.lst c)) b
  |_=>False
 |.w _=>False
 |.u _ _=>False
 |.t d k=>n<=k/\match e.mu[k]? with
  |some (some (.lst c))=>K (.t d c) b
  |_=>False
meta def iw(n:Nat)(K:RV->-OV->Prop):KS where
 nx:=gH n K (.p .non)
 rt:=gH n K
section
variable{F F' H H':Hp}{ad bL:-Z}{σ σ':St}
theorem Co{a:Type}{l:-a}{i:Nat}{x}(h:(l.map ζ)[i]?=ζ (ζ x)):l[i]?=ζ x:=by
 rw[KI] at h;let⟨y,e,q⟩:11:=My.mp h;cases q;calc e
theorem MV{a:Type}{l:-a}{i:Nat}{x}(h:l[i]?=ζ x):(l.map ζ)[i]?=ζ (ζ x):=by
 rw[KI,h];rfl
theorem SR.start{ys:-DV}{mu vs N}(S:SR F ad ⟨ys.map ζ,mu⟩ (vs.map ζ) H):SR F ad ⟨ys.map ζ++Xb (↑N-↑vs) η,mu⟩ (start N vs) H:=by
 let a:↑vs=↑ys:=by
  let:=S.len;rw[kF] at this;rw[this,kF]
 refine⟨S.sub,S.off,S.b7,S.inj,S.mu,λi x e=>?_,?_,S.tab,S.nt⟩
 .let b:i<↑ys:=by
   by_cases c:i<↑ys
   .exact c
   .rw[Xi (by rw[kF];symm),ZG] at e
    split at e
    .cases e
    .cases e
  rw[Xc (by rw[kF];calc b)] at e;let⟨v,d,f⟩:=S.sl i x e;exact⟨v,by unfold L2.start;rw[Xc (by rw[kF,a];calc b)];calc d,f⟩
 .unfold L2.start
  rw[KG,KG,Y0,Y0,kF,kF,a]
theorem nS{g:-OV}{J:aH}{x:DV}{v:V}{K:RV->-OV->Prop}{Q:VK}{sl:-(Option DV)}{τ:St}(S0:SR F ad ⟨sl,g.map ζ⟩ τ H)(E:Ext F ad (g.map ζ) H F' bL J.mu H')(S:SR F' bL J σ' H')(V:dB F' bL x v)
  (h:gH ↑g K x J) (k:∀r s,K r s->∀v F' H',v_ F ad H r s v F' H'->Q v H'):Q v H':=by
 let⟨s,tk,T,h⟩:12:=h;let L:↑ad=↑g:=by let:=S0.b7;rwa [kF] at this
 let Y:∀(j:Nat)(a:ξ),ad[j]?=ζ a->∃W,s[j]?=ζ W/\J.mu[j]?=ζ (ζ W)/\Lv bL J.mu a:=λj a e=>by
  let G:j<↑g:=by rw[<-L];exact(mj.mp e).1
  let X:(J.mu.take ↑g)[j]?=ζ (ζ (s[j]'(by rw[T];calc G))):=by
   rw[tk,KI,mf (by rw[T];calc G)];rfl
  rw[Yf G] at X;exact⟨_,mf (by rw[T];calc G),X,j,_,E.pre j a e,X⟩
 let f:∀a∈ad,F' a=η:=λa M=>by
  let⟨j,e⟩:=Vt.mp M;let⟨_,_,_,l⟩:12:=Y j a e;exact S.off a l
 let m:∀{F2:Hp},ay F' F2->ay F2 H'->(∀a o,F2 a=ζ o->F' a=ζ o\/(H a=η/\¬ a∈ad))->(∀a∈ad,F2 a=η)->NT F2->∀{r},(match r with
   |.p d=>Is F2 d v
   |.n D=>∃a y,v=.ref a/\H a=η/\H' a=ζ (.lst y)/\F2 a=η/\ah F2 D y
   |.a j=>∃a,ad[j]?=ζ a/\v=.ref a
   |.t d D=>mD F2 H H' d D v)->v_ F ad H r s v F2 H':=λ{F2} s1 s2 n2 o2 Z {r} res=>by
  refine⟨s2,E.same.trans s1,λa o e=>?_,λa o e n t=>?_,S.tab,Z,by rw[T,L],λj ow e=>?_,o2,res⟩
  .rcases n2 a o e with e|⟨e,_⟩
   .rcases E.new a o e with z|z|⟨j,ov,z,_⟩
    .exact .inl z
    .exact .inr z
    .rw[f a (Vt.mpr ⟨j,z⟩)] at e;cases e
   .exact .inr e
  .exact E.keep a o e (λz'=>by let⟨j,ov,z,_⟩:21:=z';calc n (Vt.mpr ⟨j,z⟩)) t
  .let G:j<↑ad:=by rw[L,<-T];exact(mj.mp e).1
   let⟨MW,A,N,_⟩:12:=Y j _ (mf G);rw[e] at A;cases A;let⟨a,o,C,e4,h5⟩:22:=S.mu j _ N;rw[E.pre j _ (mf G)] at C;cases C
   exact(zI2 _ o ⟨mf G,e4,h5.same s1⟩)
 let B:∀{i D a},¬ i<↑g->bL[i]?=ζ a->J.mu[i]?=ζ (ζ (.lst D))->∃y,H' a=ζ (.lst y)/\ah F' D y/\a∉ad/\F' a=η/\H a=η:=λ{i D a} c A I=>by
  let⟨a',o,N,C,y,rfl,O⟩:2211:=S.mu i _ I;rw[A] at N;cases N
  let P:a∉ad:=λz=>by
   let⟨j,e⟩:=Vt.mp z;let⟨W,_,e5,_⟩:12:=Y j a e;let:=S.inj i j a _ _ A (E.pre j a e) I e5;subst this;exact c (by rw[<-L];calc(mj.mp e).1)
  calc⟨y,C,O,P,S.off a ⟨i,_,A,I⟩,?_⟩;rcases E.b8 a ⟨i,_,A,I⟩ with⟨j,ov,z,_⟩|z
  .exact absurd (Vt.mpr ⟨j,z⟩) P
  .exact z
 cases x with
 |p d=>exact k _ _ h _ _ _ (m  (λ_ _ e=>e) S.sub (λ_ _ e=>.inl e) f S.nt V)
 |w _=>exact h.elim
 |u _ _=>exact h.elim
 |t d i =>
  let⟨a,b,u,rfl,e0,N,A⟩:33:=V;let⟨c,h⟩:=h;split at h
  .rename_i D I
   let⟨y,C,O,P,R,M⟩:14:=B ⋯ A I;exact k _ _ h _ _ _ (m  (λ_ _ e=>e) S.sub (λ_ _ e=>.inl e) f S.nt (zI4 a b u y ⟨rfl,e0,N,M,C,R,O⟩))
  .exact h.elim
 |o i =>
  dsimp only at h;let⟨a,A,rfl⟩:=V
  by_cases c:i<↑g
  .rw[W_ c] at h
   let ei:ad[i]?=ζ a:=by
    let:=E.pre i _ (mf (by rw[L];calc c));rw[A] at this;rw[mf (by rw[L];calc c)];exact this.symm
   exact k _ _ h _ _ _ (m  (λ_ _ e=>e) S.sub (λ_ _ e=>.inl e) f S.nt ⟨a,ei,rfl⟩)
  .rw[Vq c] at h
   split at h
   .rename_i D I
    let⟨y,C,O,P,R,M⟩:14:=B c A I;rcases h with h|h
    .exact k _ _ h _ _ _ (m  (λ_ _ e=>e) S.sub (λ_ _ e=>.inl e) f S.nt (zI2 a y ⟨rfl,M,C,R,O⟩))
    .refine k _ _ h _ _ _ (m (F2:=upd F' a (.lst y)) (b_ R) (λb o e=>?_) (λb o e=>?_) (λb U=>?_) (S.nt.up (b_ R) λb U=>?_) ?_)
     .by_cases z:b=a
      .subst z;rw[bj] at e;cases e;exact C
      .rw[aG z] at e;exact S.sub b o e
     .by_cases z:b=a
      .subst z;exact .inr ⟨M,P⟩
      .rw[aG z] at e;exact .inl e
     .rw[aG λz=>P (by subst z;calc U)];exact f b U
     .let⟨ps,q⟩:=aB.tb S.tab U
      rw[aG λz=>by subst z;rw[C] at q;cases q];exact S.nt b U
     .exact (zI2 a y ⟨rfl,bj,O.same (b_ R)⟩)
   .calc h.elim
end
theorem fM.MX{P w K u e x c st f z N ps k G}(F:fM K x c st f z)(S:jW N ps (cn st))
  (i:∀d A a s H E,aV k (A.deeper (envOfC c (cn st) ⇑s f d)) →
   ∃B:WS,b3 (bC eS P w K u e N c (cn st) f d A a s H E).jy (dA st) (cB B)/\∀ys b l,↑ys=↑ps->G ys b l->B (iw ↑b l) ⟨ys.map ζ++Xb (↑N-↑ps) η,b.map ζ⟩) :
  bP P w K u e eS (k+1) f z ps (ji G ↑ps) :=
 F.o_ S (λI H Q E h=>h.1) λd A a s H I Q E J h=>by
  let⟨C,L,M,n,b,l,m,g,D⟩:=h;let⟨B,O,R⟩:=i d A a s H E J
  let T:↑n=↑ps:=by
   let:=m.len;rw[kF] at this;rw[<-C,this,kF]
  refine⟨_,O,L,M,⟨n.map ζ++Xb (↑N-↑ps) η,b.map ζ⟩,iw ↑b l,by rw[<-C];calc m.start,R n b l T g,⟨λj h U o q W r t=>?_,λj h=>h.elim,λj h=>h.elim,λy j h v U o q W r t V=>?_,trivial⟩⟩
  .exact nS  m r t (x:=.p .non)  Y h D
  .calc nS  m r t V h D
meta def passes(mu:-(Option OV)):-DV->Nat->Option (-DV×-(Nat×OV))
 |[],_=>ζ ([],[])
 |.p d::b,j=>match passes mu b j with
  |some r=>ζ (.p d::r.1,r.2)
  |none=>η
 |.o k::b,j=>match mu[k]? with
  |some (some c)=>match passes mu b (j+1) with
   |some r=>ζ (.o j::r.1,(k,c)::r.2)
   |none=>η
  |_=>η
 |.w a::b,j=>match passes mu b j with
  |some r=>ζ (.w a::r.1,r.2)
  |none=>η
 |.u _ _::_,_=>η
 |.t _ _::_,_=>η
meta def eK(mu:-(Option OV)):-(Nat×OV)->-OV->-(Option OV)
 |(k,_)::r,b::a=>eK (mu.set k (ζ b)) r a
 |_,_=>mu
meta def iR:-(Nat×OV)->Bool
 |[]=>θ
 |(k,_)::r => !(r.any λe=>e.1==k)&&iR r
def kN(e:aH)(b:-(Nat×OV))(K:DV->aH->Prop)(r:RV)(c:-OV):Prop:=match r with
 |.p d=>K (.p d) ⟨e.sl,eK e.mu b c⟩
 |.n f=>K (.p (.lst f)) ⟨e.sl,eK e.mu b c⟩
 |.t d f=>K (.p (.tup [d,.lst f])) ⟨e.sl,eK e.mu b c⟩
 |.a j=>match b[j]? with
  |some g=>K (.o g.1) ⟨e.sl,eK e.mu b c⟩
  |none=>False
def pH(c:aH)(a:-(Nat×OV))(K:DV->aH->Prop)(r:RV)(b:-OV):Prop:=match r with
 |.n d=>K (.o ↑(eK c.mu a b)) ⟨c.sl,eK c.mu a b++[ζ (.lst d)]⟩
 |_=>False
def bp(c:aH)(a:-(Nat×OV))(K:DV->aH->Prop)(r:RV)(b:-OV):Prop:=match r with
 |.t d e=>K (.t d ↑(eK c.mu a b)) ⟨c.sl,eK c.mu a b++[ζ (.lst e)]⟩
 |.p d=>K (.p d) ⟨c.sl,eK c.mu a b⟩
 |_=>False
def cy(n:Nat)(G:GD)(b:WA):WE:=λc K=>b c λd a=>match passes a.mu d 0 with
 |some r=>(iR r.2=θ/\↑r.1=n)/\G r.1 (r.2.map (·.2)) (bp a r.2 K)
 |none=>False
def aj(n:Nat)(G:GD)(b:WA):WE:=λc K=>b c λd a=>match passes a.mu d 0 with
 |some r=>(iR r.2=θ/\↑r.1=n)/\G r.1 (r.2.map (·.2)) (kN a r.2 K)
 |none=>False
def nT(n:Nat)(G:GD)(b:WA):WE:=λc K=>b c λd a=>match passes a.mu d 0 with
 |some r=>(iR r.2=θ/\↑r.1=n)/\G r.1 (r.2.map (·.2)) (pH a r.2 K)
 |none=>False
section
variable{F F' H H':Hp}{ad bL:-Z}{δ:aH}{σ σ':St}
theorem pJ{mu:-(Option OV)}(A:∀(k:Nat) (ov:OV),mu[k]?=ζ (ζ ov)->∃a o,ad[k]?=ζ a/\H a=ζ o/\eT F a ov o):∀{xs:-DV}{vs:-V}{j:Nat}{r:-DV×-(Nat×OV)},passes mu xs j=ζ r->cZ F ad xs vs →
  ∃as:-Z,↑as=↑r.2/\(∀(i:Nat)(m:Nat×OV),r.2[i]?=ζ m->mu[m.1]?=ζ (ζ m.2)/\∃a o,as[i]?=ζ a/\ad[m.1]?=ζ a/\H a=ζ o/\eT F a m.2 o) ∧
   ∀(f:-Z),↑f=j->∃_u:Unit,↑vs=↑r.1/\∀(i:Nat)(y:DV),r.1[i]?=ζ y->∃v,vs[i]?=ζ v/\dB F (f++as) y v
 |[],K,j,r,h,L=>by
  cases h
  let:K=[]:=L;subst this;exact⟨[],Y,λi m e=>by simp at e,λf _=>⟨(),Y,λi y e=>by simp at e⟩⟩
 |.p d::B,_,j,r,h,⟨v,t,e,q,s⟩=>by
  subst e;unfold passes at h;split at h
  .rename_i C u
   cases h
   let⟨n,l,b,c⟩:=pJ A u s;refine⟨n,l,b,λf g=>⟨(),?_,λi y e=>?_⟩⟩
   .let⟨_,x,_⟩:=c f g
    rw[rC,rC,x]
   .let⟨_,_,z⟩:=c f g
    cases i with
    |zero=>cases e⁻¹;exact⟨v,Y,q⟩
    |succ i=>simpa using z i y e⁻¹
  .cases h
 |.w d::B,_,j,r,h,⟨v,t,e,q,s⟩=>by
  subst e;unfold passes at h;split at h
  .rename_i C u
   cases h
   let⟨n,l,b,c⟩:=pJ A u s;refine⟨n,l,b,λf g=>⟨(),?_,λi y e=>?_⟩⟩
   .let⟨_,x,_⟩:=c f g
    rw[rC,rC,x]
   .let⟨_,_,z⟩:=c f g
    cases i with
    |zero=>cases e⁻¹;exact⟨v,Y,q⟩
    |succ i=>simpa using z i y e⁻¹
  .cases h
 |.o k::B,_,j,r,h,⟨v,t,e,q,s⟩=>by
  subst e;unfold passes at h;split at h
  .rename_i J D
   split at h
   .rename_i C u
    cases h
    let⟨n,l,b,c⟩:12:=pJ A u s;let⟨a,E,rfl⟩:11:=q;let⟨a',o,G,M,N⟩:22:=A k J D;rw[E] at G;cases G;refine⟨a::n,by rw[rC,rC,l],λi m e=>?_,λf g=>⟨(),?_,λi y e=>?_⟩⟩
    .cases i with
     |zero=>cases e⁻¹;exact⟨D,a,o,Y,E,M,N⟩
     |succ i=>simpa using b i m e⁻¹
    .let⟨_,x,_⟩:=c (f++[a]) (by rw[KG,g];rfl)
     rw[rC,rC,x]
    .let⟨_,_,z⟩:11:=c (f++[a]) (by rw[KG,g];rfl)
     cases i with
     |zero =>
      cases e⁻¹
      calc⟨_,Y,a,?_,Y⟩;rw[Xi ⋯,g,YE];rfl
     |succ i =>
      let⟨O,P,I⟩:=z i y e⁻¹;exact⟨O,by simpa using P,by rw[YV] at I;calc I⟩
   .cases h
  .cases h
theorem Cp:∀{d},iR d=θ->∀(i j:Nat) k a b,d[i]?=ζ (k,a)->d[j]?=ζ (k,b)->i=j
 |[],_,i,j,k,a,b,e,_=>by simp at e
 |(k',ov)::r,h,i,j,k,a,b,f,g=>by
  unfold iR at h;erw[Xs,q0x] at h
  let l:∀m c,r[m]?=ζ (k',c)->False:=λm c e=>by
   let:=Y8.mp h.1 _ (Vt.mpr ⟨m,e⟩);exact this (by simp)
  cases i with
  |zero =>
   cases(show ζ (k',ov)=ζ (k,a) by simpa using f)
   cases j with
   |zero=>rfl
   |succ j=>exact(l j b g⁻¹).elim
  |succ i =>
   cases j with
   |zero=>cases(show ζ (k',ov)=ζ (k,b) by simpa using g);exact(l i a f⁻¹).elim
   |succ j=>rw[Cp h.2 i j k a b f⁻¹ g⁻¹]
theorem Cq:∀b a mu,↑(eK mu b a)=↑mu
 |(k,_)::r,d::a,c=>by rw[eK,Cq r a,Yr]
 |[],_,_=>Y
 |_::_,[],_=>Y
theorem rW:∀(b:-(Nat×OV))(a:-OV)(mu:-(Option OV))(l:Nat),(∀c∈b,c.1≠l)->(eK mu b a)[l]?=mu[l]?
 |(k,_)::r,f::a,e,l,h=>by
  rw[eK,rW r a _ l λc d=>h c (Bi _ d),XM (h _ Vr)]
 |[],_,_,_,_=>Y
 |_::_,[],_,_,_=>Y
theorem Cr:∀{b:-(Nat×OV)}{a:-OV}{mu:-(Option OV)}{i:Nat}{c:Nat×OV}{f:OV},iR b=θ->b[i]?=ζ c->a[i]?=ζ f->c.1<↑mu->(eK mu b a)[c.1]?=ζ (ζ f)
 |(k,l)::r,MW::a,j,0,c,ow,h,d,e,g=>by
  cases d⁻¹
  cases e⁻¹
  unfold iR at h;erw[Xs,q0x] at h;rw[eK,rW r a _ k λc m z=>absurd z⁻¹ (Y8.mp h.1 c m),XD g]
 |(k,l)::r,n::a,j,i+1,c,f,h,d,e,g=>by
  unfold iR at h;erw[Xs,q0x] at h;rw[eK];exact Cr h.2 d⁻¹ e⁻¹ (by rw[Yr];calc g)
 |[],_,_,i,_,_,_,d,_,_=>by simp at d
 |_::_,[],_,i,_,_,_,_,e,_=>by simp at e
theorem wa{xs:-DV}{vs:-V}{r:-DV×-(Nat×OV)}{G:GD}{n:Nat}{Q:VK}{E:XK}{K:RV->-OV->Prop}(S:SR F ad δ σ H)(V:cZ F ad xs vs)(hn:↑vs=n)(hp:passes δ.mu xs 0=ζ r)(nd:iR r.2=θ)(g:G r.1 (r.2.map (·.2)) K)
  (fin:∀J x v F' H',K J x->Ext F ad δ.mu H F' ad (eK δ.mu r.2 x) H'->SR F' ad ⟨δ.sl,eK δ.mu r.2 x⟩ σ H'->(match J with
   |.p d=>Is F' d v
   |.n ds=>∃a vs,v=.ref a/\H a=η/\H' a=ζ (.lst vs)/\F' a=η/\ah F' ds vs
   |.a j=>∃f a,r.2[j]?=ζ f/\ad[f.1]?=ζ a/\v=.ref a
   |.t d ds=>mD F' H H' d ds v)->Q v H'):ji G n vs H Q E:=by
 let⟨R,al,b,c⟩:12:=pJ S.mu hp V;let⟨_,c1,c2⟩:=c [] rfl
 let I:∀(i:Nat)(a:ξ),R[i]?=ζ a->Lv ad δ.mu a/\∃f,r.2[i]?=ζ f/\ad[f.1]?=ζ a/\δ.mu[f.1]?=ζ (ζ f.2):=λi a e=>by
  let B:i<↑r.2:=by rw[<-al];exact(mj.mp e).1
  let⟨m1,a',o,m,s,_,_⟩:0123:=b i _ (mf B);rw[e] at m;cases m;exact⟨(zI2 _ _ ⟨s,m1⟩),_,mf B,s,m1⟩
 refine⟨hn,F,R,r.1,r.2.map (·.2),K,⟨S.sub,λa C=>by let⟨i,O,m,s⟩:21:=C;calc S.off a (I i a m).1,by rw[al];rw[kF,kF],λi j a O A m s _ _=>?_,λi O e=>?_,λi y e=>?_,?_,S.tab,S.nt⟩,g,λJ x T v F' H' P=>?_⟩
 .let⟨_,f,U,W,k3⟩:0112:=I i a m
  let⟨_,kp,p1,p2,p3⟩:0112:=I j a s;let:f.1=kp.1:=S.inj _ _ a _ _ W p2 k3 p3;exact Cp nd i j f.1 f.2 kp.2 U (by rw[this];calc p1)
 .let e:=Co e
  rw[KI] at e;let⟨f,m,rfl⟩:=My.mp e;let⟨_,a,o,s,_,N,e5⟩:0123:=b i f m;exact(zI2 a o ⟨s,N,e5⟩)
 .let⟨v,m,s⟩:=c2 i y (Co e)
  exact⟨v,MV m,by simpa using s⟩
 .rw[kF,kF,c1]
 .let ol:↑x=↑r.2:=by rw[P.len,al]
  let M:∀l A,(eK δ.mu r.2 x)[l]?=ζ (ζ A)->(∃(i:Nat)(f:Nat×OV),r.2[i]?=ζ f/\f.1=l/\x[i]?=ζ A)\/((∀f∈r.2,f.1≠l)/\δ.mu[l]?=ζ (ζ A)):=λl A e=>by
   by_cases z:∃f∈r.2,f.1=l
   .let⟨f,T,rfl⟩:=z
    let⟨i,B⟩:=Vt.mp T;let X:i<↑x:=by rw[ol];exact(mj.mp B).1
    let:=Cr  nd B (mf X) (mj.mp (b i f B).1).1;rw[e] at this;cases this
    exact .inl (zI2 i f ⟨B,rfl,mf X⟩)
   .let z':=λf T q=>z ⟨f,T,q⟩
    rw[rW _ _ _ _ z'] at e;exact .inr ⟨z',e⟩
  let Y:∀l A a,ad[l]?=ζ a->(eK δ.mu r.2 x)[l]?=ζ (ζ A)->Lv ad δ.mu a:=λl A a m s=>by
   rcases M l A s with⟨i,f,B,rfl,_⟩|⟨_,q⟩
   .exact⟨_,_,m,(b i f B).1⟩
   .exact⟨_,_,m,q⟩
  let MY:∀a,a∈R->Lv ad δ.mu a:=λa ha=>by
   let⟨i,e⟩:=Vt.mp ha;exact(I i a e).1
  let ex:Ext F ad δ.mu H F' ad (eK δ.mu r.2 x) H':=by
   refine⟨P.same,λa o e=>?_,λa o e n t=>P.keep a o e (λz=>n (MY a z)) t,λ_ _ e=>e,λa C=>by let⟨l,A,m,s⟩:21:=C;calc .inl (Y l A a m s),λa o e=>?_⟩
   .rcases P.new a o e with z|z
    .exact .inl z
    .exact .inr (.inl z)
   .by_cases z:a∈R
    .let⟨i,m⟩:=Vt.mp z
     let B:i<↑x:=by rw[P.len];exact(mj.mp m).1
     let⟨a',o',s,L,_⟩:22:=P.own i _ (mf B);rw[m] at s;cases s;exact⟨o',L⟩
    .by_cases t:a∈aB.ad
     .let⟨ps,q⟩:=aB.tb P.tab t
      exact⟨_,q⟩
     .exact⟨o,P.keep a o e z t⟩
  let Z:=λa l=>by
   by_cases z:a∈R
   .exact P.off a z
   .cases q:F' a with
    |none=>rfl
    |some u =>
     rcases P.new a u q with y|y
     .rw[S.off a l] at y;cases y
     .let⟨k,O,m,s⟩:21:=l
      let⟨a',o,L,N,_⟩:22:=S.mu k O s;rw[m] at L;cases L;rw[y] at N;cases N
  let sr:SR F' ad ⟨δ.sl,eK δ.mu r.2 x⟩ σ H':=by
   refine⟨P.sub,λa C=>by let⟨l,A,m,s⟩:21:=C;calc Z a (Y l A a m s),by rw[S.b7];calc(Cq _ _ _).symm,λk l a O A m s L N=>?_,λl A e=>?_,λi y e=>?_,S.len,P.tab,P.nt⟩
   .let h3:∃w,δ.mu[k]?=ζ (ζ w):=by
     rcases M k O L with⟨i,f,B,rfl,_⟩|⟨_,q⟩
     .exact⟨_,(b i f B).1⟩
     .exact⟨_,q⟩
    let h4:∃w,δ.mu[l]?=ζ (ζ w):=by
     rcases M l A N with⟨i,f,B,rfl,_⟩|⟨_,q⟩
     .exact⟨_,(b i f B).1⟩
     .exact⟨_,q⟩
    let⟨_,h3⟩:=h3;let⟨_,h4⟩:=h4;exact S.inj k l a _ _ m s h3 h4
   .rcases M l A e with⟨i,f,B,rfl,ho⟩|⟨z,q⟩
    .let⟨_,a,o,m,s,_,_⟩:=b i f B
     let⟨a',o',L,N,h5⟩:=P.own i A ho;rw[m] at L;cases L;exact⟨a,o',s,N,h5⟩
    .let⟨a,o,m,s,h⟩:=S.mu l A q
     refine⟨a,o,m,P.keep a o s (λy=>?_) (λt=>?_),h.same P.same⟩
     .let⟨i,L⟩:=Vt.mp y
      let⟨_,f,U,W,k3⟩:=I i a L;exact z f (Vt.mpr ⟨i,U⟩) (S.inj _ _ a _ _ W m k3 q)
     .let⟨ps,q2⟩:=aB.tb S.tab t
      rw[s] at q2;cases q2
      exact h.kind ps rfl
   .let⟨v,m,h⟩:=S.sl i y e
    exact⟨v,m,h.ext ex⟩
  calc fin J x v F' H' T ex sr ?_;let D:=P.res
  cases J with
  |p d=>exact D
  |n ds=>exact D
  |t d ds=>exact D
  |a j =>
   let⟨a,m,s⟩:=D;let⟨_,f,U,W,_⟩:=I j a m;calc⟨f,a,U,W,s⟩
end
section
variable{X:Cx}{fa:WA}{G:GD}{pos:Ε}
theorem rX{l F2 m H2:Hp}{e:-Z}{d:aH}{v:St}{xs:-DV}{vs:-V}{r:-DV×-(Nat×OV)}{h:-OV}{a:Z}(n:SR l e d v m)(w:cZ l e xs vs)(x:passes d.mu xs 0=ζ r)(z:m a=η):¬ Lv e (eK d.mu r.2 h) a:=λ⟨k,p,A,s⟩↦by
 let c:∃p,d.mu[k]?=ζ (ζ p):=by
  by_cases y:∃g∈r.2,g.1=k
  .let⟨g,f,rfl⟩:=y
   let⟨C,_,b,_⟩:12:=pJ n.mu x w;let⟨i,B⟩:=Vt.mp f;exact⟨_,(b i g B).1⟩
  .rw[rW _ _ _ _ λg f q=>y ⟨g,f,q⟩] at s
   exact⟨_,s⟩
 let⟨j,c⟩:=c;let⟨a',o,t,u,_⟩:22:=n.mu k j c;rw[A] at t;cases t;rw[z] at u;cases u
theorem cZ.length{F:Hp}{a:-Z}:∀{xs:-DV}{vs:-V},cZ F a xs vs->↑vs=↑xs
 |[],b,h=>by rw[h];rfl
 |x::d,b,⟨v,r,e,_,c⟩=>by rw[e,rC,rC,cZ.length c]
theorem nU{mu}:∀{xs j}{r:-DV×-(Nat×OV)},passes mu xs j=ζ r->↑r.1=↑xs
 |[],j,r,h=>by cases h;rfl
 |.p d::b,j,r,h=>by
  unfold passes at h;split at h
  .rename_i c a;cases h;rw[rC,rC,nU a]
  .cases h
 |.w d::b,j,r,h=>by
  unfold passes at h;split at h
  .rename_i c a;cases h;rw[rC,rC,nU a]
  .cases h
 |.o k::b,j,r,h=>by
  unfold passes at h;split at h
  .split at h
   .rename_i c a;cases h;rw[rC,rC,nU a]
   .cases h
  .cases h
section
variable{k:Nat}{f:Z}{fd:FuncData}{ps:-π}{x:π}{p:Ε}{e:υ}{es:-υ}{n:Nat}
theorem Cu{E:XK}{F A H B:Hp}{M f:-ξ}{N e:aH}{O:St}{K:DV->aH->Prop}{Q:VK}{xs:-DV}{vs:-V}(kk:∀x g,K x g->∀v F' h H',Ext F M N.mu H F' h g.mu H'->SR F' h g O H'->dB F' h x v->Q v H')(i:match passes e.mu xs 0 with
 |some r=>(iR r.2=θ/\↑r.1=n)/\G r.1 (r.2.map (·.2)) (kN e r.2 K)
 |none=>False)(o:Ext F M N.mu H A f e.mu B)(C:SR A f e O B)(q:cZ A f xs vs):ji G n (vs++[]) B Q E:=by
 split at i
 .rename_i r s
  let⟨⟨P,R⟩,i⟩:=i;rw[Yx];calc wa C q (by rw[↑q,<-nU s,R]) s P i λD S v F2 H2 k w y c=>?_;unfold kN at k
  cases D with
  |p d=>exact kk _ _ k _ _ _ _ (o.trans w) y c
  |n T =>
   let⟨a,z,rfl,m,I,l,J⟩:24:=c;exact kk _ _ k _ _ _ _ (o.trans (w.adopt  m l)) (y.adopt l I (rX (F2:=F2) (H2:=H2) C q s m)) (zI2 a z ⟨rfl,bj,J.same (b_ l)⟩)
  |t d T =>
   let⟨a,b,u,z,rfl,U,W,m,I,l,J⟩:46:=c;calc kk _ _ k _ _ _ _ (o.trans (w.adopt  m l)) (y.adopt l I (rX (F2:=F2) (H2:=H2) C q s m)) ?_;let L:ay F2 (upd F2 b (.lst z)):=b_ l;exact(zI2 a _ ⟨rfl,L _ _ U,u,_,rfl,W.same L,.ref b,_,rfl,(zI2 b z ⟨rfl,bj,J.same L⟩),rfl⟩)
  |a j =>
   let⟨Z,a,i,X,Y⟩:22:=c;dsimp only at k;rw[i] at k;exact kk _ _ k _ _ _ _ (o.trans w) y ⟨a,X,Y⟩
 .calc i.elim
theorem MZ{E:XK}:∀a H Q,tD (aj n G fa) a H Q->nC (ji G n) [] E (bM fa) a H Q:=λa H Q ⟨F,b,c,K,S,q,d⟩ ↦
 ⟨F,b,c,_,S,q,λk e f l m g o h i j=>Cu d f h i j⟩
theorem M0{E:XK}:∀f H Q,tD (nT n G fa) f H Q->nC (ji G n) [] E (bM fa) f H Q:=λf H Q ⟨F,w,x,K,S,q,y⟩=>by
 calc⟨F,w,x,_,S,q,λP z b R T A U B l g=>?_⟩;split at b
 .rename_i r h
  let⟨⟨C,D⟩,b⟩:=b;rw[Yx];refine wa l g (by rw[↑g,<-nU h,D]) h C b λi I v F2 H2 e J k c=>?_
  cases i with
  |p d=>exact e.elim
  |n m =>
   let⟨a,o,rfl,s,L,M,N⟩:24:=c;let O:∀{u},eT F2 u (.lst m) (.lst o):=λ{u}=>⟨o,Y,N⟩;calc y _ _ e _ _ _ _ (B.trans (J.cC  s k.b7)) (k.cC M L (rX (F2:=F2) (H2:=H2) l g h s) O) ⟨a,?_,Y⟩;let:=k.b7;rw[<-this,Xi (vr _),YE];rfl
  |a j=>exact e.elim
  |t d m=>exact e.elim
 .calc b.elim
theorem Cv{E:XK}{F m H o:Hp}{y f:-Z}{z c:aH}{A:St}{K:DV->aH->Prop}{Q:VK}{xs:-DV}{vs:-V}(kk:∀x g,K x g->∀v F' h H',Ext F y z.mu H F' h g.mu H'->SR F' h g A H'->dB F' h x v->Q v H')(i:match passes c.mu xs 0 with
 |some r=>(iR r.2=θ/\↑r.1=n)/\G r.1 (r.2.map (·.2)) (bp c r.2 K)
 |none=>False)(B:Ext F y z.mu H m f c.mu o)(C:SR m f c A o)(q:cZ m f xs vs):ji G n (vs++[]) o Q E:=by
 split at i
 .rename_i r s
  let⟨⟨N,O⟩,i⟩:=i;rw[Yx];refine wa C q (by rw[↑q,<-nU s,O]) s N i λw P v F2 H2 k D l e=>?_
  cases w with
  |p d=>exact kk _ _ k _ _ _ _ (B.trans D) l e
  |n I=>exact k.elim
  |a j=>exact k.elim
  |t d I =>
   let⟨a,b,u,J,rfl,R,S,L,T,U,W⟩:46:=e;let X:∀{M},eT F2 M (.lst I) (.lst J):=λ{M}=>⟨J,Y,W⟩;calc kk _ _ k _ _ _ _ (B.trans (D.cC  L l.b7)) (l.cC U T (rX (F2:=F2) (H2:=H2) C q s L) X) (zI3 a b u ⟨Y,R,S,?_⟩);let:=l.b7;rw[<-this,Xi (vr _),YE];rfl
 .calc i.elim
theorem M1(c:bP X.prog X.w X.K X.mg X.base eS k f fd ps (ji G n))(d:aV k X.A)(g:Gl X x)(h:X.mg x=ζ (.ref f))(i:Ym X.K (.ref f)=θ)(j:Binds X.K fd ps [])
  (l:JA X (e::es) (bM fa)) (a: ~~~(bB x)) (he:‹cI X e es›) (b:‹cX X pos es›) :
  JE X (.Call (.Name x p) (e::es) [] pos) (tD (cy n G fa)):=(l6 c d g h i j .nil nG l a he b).weak λB H Q ⟨F,m,o,K,S,q,r⟩↦⟨F,m,o,_,S,q,λC s t D E u I v y z=>Cv r t v y z⟩
theorem M3(c:bP X.prog X.w X.K X.mg X.base eS k f fd ps (ji G n))(d:aV k X.A)(g:Gl X x)(h:X.mg x=ζ (.ref f))(i:Ym X.K (.ref f)=θ)(j:Binds X.K fd ps [])
  (l:JA X (e::es) (bM fa)) (a: ~~~(bB x)) (he:‹cI X e es›) (b:‹cX X pos es›) :
  JE X (.Call (.Name x p) (e::es) [] pos) (tD (aj n G fa)):=(l6 c d g h i j .nil nG l a he b).weak MZ
theorem M4(c:bP X.prog X.w X.K X.mg X.base eS k f fd ps (ji G n))(d:aV k X.A)(g:Gl X x)(h:X.mg x=ζ (.ref f))(i:Ym X.K (.ref f)=θ)(j:Binds X.K fd ps [])
  (l:JA X (e::es) (bM fa)) (a: ~~~(bB x)) (he:‹cI X e es›) (b:‹cX X pos es›) :
  JE X (.Call (.Name x p) (e::es) [] pos) (tD (nT n G fa)):=(l6 c d g h i j .nil nG l a he b).weak M0
end
end
end L2
namespace PySem
open Sem (wp)
open AutoSeq1 (wpAny_loadPart')
theorem M5(l:Z)(items:Array ν)(n:Nat)(b:Option Z)(j:Array (Option ν)):
  Meets (Builtin.«enumerate.__new__» ⟨[.type "enumerate",.ref l],[]⟩) (λ_ R s=>s.heap.get? l=ζ {cls:=.type "tuple",dict:=b,data:=.seq items n,slots:=j} ∧
   R (.ok (.ret (.ref (s.heap.push {cls:=.type "tuple_iterator",data:=.fields #[.ref l,.int 0 0]}).objs.size)))
    {s with heap:=(s.heap.push {cls:=.type "tuple_iterator",data:=.fields #[.ref l,.int 0 0]}).push {cls:=.type "enumerate",data:=.fields #[.none,.bool ι,.ref ⇑s,rawInt 0,.none,.none]}}) :=
 .of_wp λf w A R s h=>by
  let⟨k,g,d,m,o⟩:=s;let⟨a,h⟩:=h;let i:=sub_enumerate;let e:Heap.IsTuple (Shared.heap ⟨k,g,d,m,o⟩) l items:=⟨_,a,Y,n,Y⟩
  wp_walk using X_ a
  calc wpAny_stack_any λp=>nF ?_;split
  .rename_i c _ _ _ _ _
   cases(c==Zb "enumerate")
   .wp_walk using X_ a,q0m e
    exact⟨_,Y,h⟩
   .wp_walk using X_ a,q0m e
    exact⟨_,Y,h⟩
  .wp_walk using X_ a,q0m e
   calc⟨_,Y,h⟩
section
variable{prog:ψ}{w:ω}{A:Β}{E:aJ}{s:ο}
theorem M6{l:Z}{items:Array ν}{Q:aJ}(g:s.heap.IsTuple l items)
  (h:∀h',IsEnum h' (⇑s+1) ⇑s 0 .none->h'.IsTupleIter ⇑s l 0->h'.objs.size=⇑s+2 →
   (∀b o,s.heap.get? b=ζ o->h'.get? b=ζ o)->Q (.ref (⇑s+1)) {s with heap:=h'}) :
  ρ (ς prog w) A (call (.type "enumerate") [.ref l]) Q E s:=by
 let⟨⟨c,a,p,i⟩,j,k,n,m⟩:121:=g;subst k m
 refine callType_new F.called_enumerate (by decide) (F.typeCall_enumerate_1 _) (F.newCall_enumerate_1 _) (λd=>F.args_object_init_2 d _) F.entry_enumerate_new
  (M5 l items n a i) ⟨j,?_⟩
 let e:(s.heap.push {cls:=.type "tuple_iterator",data:=.fields #[.ref l,.int 0 0]}).objs.size=⇑s+1:=Y5 ..;rw[e]
 let f:=by
  let:=Vs (s.heap.push {cls:=.type "tuple_iterator",data:=.fields #[.ref l,.int 0 0]})
   (o:={cls:=.type "enumerate",data:=.fields #[.none,.bool ι,.ref ⇑s,rawInt 0,.none,.none]}) Y
  rw[e] at this;exact this
 calc⟨⟨_,f,Y⟩,h _ f ⟨_,mi _ (Vs _ Y),Y,Y⟩ (by rw[Y5,e]) λb o x=>mi _ (mi _ x)⟩
theorem M7{b l:Z}{i:Nat}{items:Array ν}{x:ν}{Q:aJ}(a:s.heap.IsTupleIter b l i)(g:s.heap.IsTuple l items)(h:items[i]?=ζ x)
  (j:∀h',h'.IsTupleIter b l (i+1)->Z3 b s.heap h'->Q x {s with heap:=h'}):ρ (ς prog w) A (q1k (.ref b)) Q E s:=by
 let⟨o,d,k,c⟩:12:=id a;let⟨m,e,_,n,f⟩:121:=g;calc dV (YN  a.typeIs Zl (YC Zl a.typeIs q0Z ?_ (q0S _)));show ρ _ _ (field (.ref b) 0 >>= _) _ _ s;calc dV (ZL d c  Y (dV (ZL d c  Y (dV (ZD e f ?_)))));erw[Xn,h];calc dV (ZF d c (by simp) (nF ⟨x,Y,nF (j _ ⟨_,XC _ d (Zm (Yw c _)),(q1o ..).trans k,?_⟩ (XE ..))⟩));rw[Yw c];simp[rawInt]
theorem M8{b l:Z}{i:Nat}{items:Array ν}{Q:aJ}(hh:A.handled=η)(a:s.heap.IsTupleIter b l i)(h:s.heap.IsTuple l items)(j:items[i]?=η)
  (k:∀h' e,Heap.ExtBut b s.heap h'->(∃o,h'.get? e=ζ o/\o.cls=.type "StopIteration")->E (.ref e) {s with heap:=h'}):ρ (ς prog w) A (q1k (.ref b)) Q E s:=by
 let⟨o,c,n,d⟩:12:=id a;let⟨p,f,_,q,g⟩:121:=h;calc dV (YN  a.typeIs Zl (YC Zl a.typeIs q0Z ?_ (q0S _)));show ρ _ _ (field (.ref b) 0 >>= _) _ _ s;calc dV (ZL c d  Y (dV (ZL c d  Y (dV (ZD f g ?_)))));erw[Xn,j];refine dV (q07 (dV (ZF c d (by simp) (dV (dV (m:=firstArgMember _ _) (q1n  (by first|rfl|(erw[firstArgMember])) (Y7 (dV (q4I ?_)) (by size_fits))))))))
 first|rw[hh]|rw[hh]
 calc dV (nF (wpAny_throw (k _ _ (((XE ..).extBut.push _).push _) ⟨_,Vs _ Y,Y⟩)))
theorem Cw(k:A.handled=η)(b l:Z)(f:l≠b)(items:Array ν):Draws prog w A b [b,l] items.size (λi v=>items[i]?=ζ v) (λi h=>h.IsTupleIter b l i/\h.IsTuple l items) where
 live:=λ_ _ a=>let⟨o,m,_⟩:=a.1;⟨o,m⟩
 frame:=λ_ _ _ a g=>⟨a.1.at λo e=>g b (by simp) o e,a.2.at λo e=>g l (by simp) o e⟩
 item:=λi s Q E j a n=>M7 a.1 a.2 (x:=items[i]) (by simp[j]) λp c d=>n _ p s.toks (by simp[j]) ⟨c,a.2.extBut d.extBut f⟩ d
 done:=λs Q E a q=>M8 k a.1 a.2 (by simp) q
end
end PySem
namespace L2
open PySem PySem.Spec PyProof.Rows
meta def pK(K:KH)(a:Z):It :=
 ⟨λi H=>∃b x,bE K H a b/\b[i]?=ζ x,λi H x c=>∃T v,x=.ref T/\H T=η/\c=upd H T (.tup [.int (i:Nat),v])/\∀b,bE K H a b->b[i]?=ζ v,λi H=>∃b,bE K H a b/\↑b=i⟩
theorem M9{P:ψ}{w:ω}{K:KH}{t:-υ}{x1}{tp:Ε}(a e g:ξ)(n:e≠g)(N:a≠e)(B:a≠g):
  Turn P w K (.Tuple t x1 tp) (pK K a) [e,g] e (λi h=>(∃c,IsEnum h e g (i:Nat) c)/\h.IsTupleIter g a i) where
 mem:=by simp
 obj:=λi h j b d=>by
  let⟨⟨c,f⟩,o,l,G,hd⟩:0112:=j;rcases KN.mp d with rfl|d
  .exact⟨_,f,λv z=>by cases z⟩
  .let z:=by simpa using d
   subst z;exact⟨o,l,λv z=>by rw[hd] at z;cases z⟩
 keep:=λi h h' j k=>by
  let⟨⟨c,f⟩,l⟩:=j;exact⟨⟨c,k e (by simp) _ f⟩,l.at λo q=>k g (by simp) o q⟩
 item:=by
  ext X O R S G i C s σ H E I J j T;subst O R S;let⟨⟨c,f⟩,l⟩:=j;let⟨xs,x,L,M⟩:21:=T;let⟨m,U,p,hz⟩:12:=I.tuple L;let⟨u,hu,ru⟩:11:=U.get M;let D:=Cw (prog:=X.prog) (w:=X.w) (A:=X.A.in1) (I.ok.hd G) g a B m.toArray;refine wpAny_pyNext_enum_itemD D f ⟨l,p⟩ ((mj.mp hu).1) n (by simp[n,YD N]) λy h1 tk py V Y Z hsz hk=>⟨_,rfl,?_⟩
  let ey:y=u:=by
   rw[Zn,hu] at py;cases py;rfl
  subst ey;refine q1e V λh2 M_ r=>?_
  let k2:∀b o,b∉[e,g]->s.heap.get? b=ζ o->h2.get? b=ζ o:=λb o d q=>by
   let F:b≠e:=λz=>d (by simp[z]);exact(r.2 _ F).trans (hk b o F (λz=>d (by simp[z])) q)
  refine(zI2 (.ref ⇑s) (upd H ⇑s (.tup [.int i,x])) ⟨I.gC   J k2 (vr _) ?_,rfl,(zI2 _ x ⟨rfl,(I.aM.fresh (vr _)),rfl,λys hy=>by rw[I.fL hy L];calc M⟩),⟨⟨y,?_⟩,?_⟩,λb d=>?_⟩)
  .exact⟨by show 2<=sizeLine;decide,[.int i tk,y],.cons ⟨_,rfl⟩ (.cons ru .nil),_,((r.2 _ (Zd (Vo f))).trans Z),rfl,_,rfl⟩
  .exact M_
  .exact Y.1.at λo q=>(r.2 _ (YD n)).trans q
  .let:b<⇑s:=by
    let⟨o,q,_⟩:=l;rcases KN.mp d with rfl|d
    .exact Vo f
    .let z:=by simpa using d
     subst z;exact Vo q
   rw[aG (W8 this)];exact(J b d).1
 done:=by
  ext X O R S G i C s σ H E I J j T;subst O R S;let⟨⟨c,f⟩,l⟩:=j;let⟨xs,L,M⟩:11:=T;let⟨m,U,p,hz⟩:12:=I.tuple L;let D:=Cw (prog:=X.prog) (w:=X.w) (A:=X.A.in1) (I.ok.hd G) g a B m.toArray;let Cy:m.toArray.size=i:=by rw[KJ,<-↑U];exact M
  calc wpAny_pyNext_enum_endD D f (by rw[Cy];calc⟨l,p⟩) λh1 eb=>⟨rfl,?_⟩;let⟨f0,f1,f2,f3,f4,f5⟩:05:=J g (by simp);exact I.turned  (λb o d q=>eb b o d q) f0 f1 f3 f4 f5
 self:=λA i s Q E j h=>by
  let⟨⟨c,f⟩,l⟩:=j;calc Y_ f h
section
variable{X:Cx}{elts:-υ}{x1:Nat}{tp:Ε}{tg:υ}
def Na(K:KH)(ta:TA):TI:=λd H R=>ta d H λe b=>∃a,e=[.ref a]/\(((∃c,bf K b a c)/\R (nJ K a) b)\/((∃c,bE K b a c)/\R (pK K a) b))
theorem Nc{a:υ}{ta:TA}{p pos:Ε}(C:Gl X "enumerate")(D:X.mg "enumerate" = η)(E:JA X [a] ta)(F:‹starEach [a] X.env=[(ι,eval a X.env)]›):
  JI X (.Tuple elts x1 tp) (.Call (.Name "enumerate" p) [a] [] pos) (Na X.K ta):=by
 calc⟨λc s m H R I h=>Call_ (lh I C D Bs (YP (aX (E pos c s m H _ I h) λP d ⟨Q,g,f,G,J⟩=>?_) F Y))⟩;let⟨l,e,q⟩:=J;subst e;let⟨u,rfl,L⟩:=vals1 G;cases L
 let B:∀b∈[⇑d+1,⇑d],bx X c g b:=λb n=>by
  let i:⇑d<=b:=by
   rcases KN.mp n with rfl|n
   .exact q0N _
   .let z:=by simpa using n
    symm
  exact f.fz i (f.aM.fresh i)
 rcases q with⟨⟨M,r⟩,q⟩|⟨⟨M,r⟩,q⟩
 .let⟨t,N,p,O⟩:=f.list r
  calc q2G p.isList λv j w x y=>?_;let A:Inv X c m g {d with heap:=v}:=f.kept  y;exact Y_ j ((zI5 _ _ _ _ g ⟨Y,A,Br l (⇑d+1) ⇑d (q1I _),⟨⟨_,j⟩,w⟩,B,q⟩))
 .let⟨t,N,p,O⟩:12:=f.tuple r
  let k:l<⇑d:=by let⟨o,e,_⟩:=p;exact Vo e
  calc M6 p λv j w x y=>?_;let A:Inv X c m g {d with heap:=v}:=f.kept  y;calc Y_ j ((zI5 _ _ _ _ g ⟨Y,A,M9 l (⇑d+1) ⇑d (q1I _) (W8 (X8 k)) (W8 k),⟨⟨_,j⟩,w⟩,B,q⟩))
def wb(K:KH)(d:TE):TI:=λe H R=>d e H λx b=>∃a,x=.ref a/\(((∃c,bf K b a c)/\R (Aw K a) b)\/((∃c,bE K b a c)/\R (Ax K a) b))
theorem Nd{l:υ}{k:TE}(n:JE X l k):JI X tg l (wb X.K k):=by
 calc⟨λc s r H R I h=>aX (n c s r H _ I h) ?_⟩;ext v f ⟨x,g,d,t,u⟩;let⟨a,e,q⟩:=u;subst e;cases t
 let m:∀b∈[⇑f],bx X c g b:=λb w=>by
  let e:=by simpa using w
  subst e;exact d.fz (vr _) (d.aM.fresh (vr _))
 rcases q with⟨⟨y,i⟩,q⟩|⟨⟨y,i⟩,q⟩
 .let⟨j,z,p,A⟩:=d.list i
  exact YW p.isList (zI5 ⇑f [⇑f] _ _ g ⟨Y,d.kept  λb o e=>mi _ e,Jh a _,⟨_,Vs _ Y,Y,Y⟩,m,q⟩)
 .let⟨j,z,p,A⟩:=d.tuple i
  calc q0m (p) (zI5 ⇑f [⇑f] _ _ g ⟨Y,d.kept  λb o e=>mi _ e,Ji a _,⟨_,Vs _ Y,Y,Y⟩,m,q⟩)
end
variable[zt:aB]
meta def cb(a:Int)(n:Nat):-D:=(Xz n).map λi:Nat=>D.int (a+i)
meta def jY:Nat->-D->-D
 |_,[]=>[]
 |i,d::r=>.tup [.int i,d]::jY (i+1) r
meta def wc:-D->-D->-D
 |a::r,b::s=>.tup [a,b]::wc r s
 |_,_=>[]
def nW(x:DV)(d:aH)(K:pF->Prop):Prop:=match x with
 |.p (.lst b)=>K ⟨b,λ_=>True⟩
 |.p (.tup b)=>K ⟨b,λ_=>True⟩
 |.o k=>match d.mu[k]? with
  |some (some (.lst b))=>K ⟨b,λc=>c.mu[k]?=ζ (ζ (.lst b))⟩
  |some (some (.al a b))=>K ⟨b,λc=>c.mu[k]?=ζ (ζ (.al a b))⟩
  |_=>False
 |_=>False
def aY(f:WE):WI:=λb K=>f b λx a=>nW x a λc=>K c a
def g_(b:WA):WI:=λc K=>b c λd a=>match d with
 |[.p (.int j)]=>(-(2 ^ 62)<=j/\j<2 ^ 62)/\K ⟨cb 0 j.toNat,λ_=>True⟩ a
 |_=>False
def we(b:WA):WI:=λc K=>b c λd a=>match d with
 |[.p (.int i),.p (.int j)]=>(-(2 ^ 62)<=i/\i<2 ^ 62 /\ -(2 ^ 62)<=j/\j<2 ^ 62)/\K ⟨cb i (j-i).toNat,λ_=>True⟩ a
 |_=>False
def iS(c:WA):WI:=λd K=>c d λe a=>match e with
 |[x]=>nW x a λb=>K ⟨jY 0 b.items,b.eU⟩ a
 |_=>False
def wg(x:DV)(d:aH)(K:pF->Prop):Prop:=match x with
 |.p (.lst b)=>K ⟨b,λ_=>True⟩
 |.o k=>match d.mu[k]? with
  |some (some (.lst b))=>K ⟨b,λc=>c.mu[k]?=ζ (ζ (.lst b))⟩
  |some (some (.al a b))=>K ⟨b,λc=>c.mu[k]?=ζ (ζ (.al a b))⟩
  |_=>False
 |_=>False
theorem iT{b n i d}(h:(cb b n)[i]?=ζ d):i<n/\d=.int (b+i):=by
 unfold cb at h;rw[KI] at h;let⟨j,e,rfl⟩:=My.mp h;let a:=(mj.mp e).1;rw[Ye] at a;rw[YG a] at e;cases e
 calc⟨a,Y⟩
theorem iU a n:↑(cb a n)=n:=by unfold cb;rw[kF,Ye]
theorem mE:∀ds i,↑(jY i ds)=↑ds
 |[],_=>Y
 |d::r,i=>by rw[jY,rC,rC,mE r]
theorem mF:∀{ds}{k i:Nat}{d},(jY k ds)[i]?=ζ d->∃e,ds[i]?=ζ e/\d=.tup [.int ((k+i:Nat):Int),e]
 |[],k,i,d,h=>by simp[jY] at h
 |e::r,k,0,d,h=>by
  cases(by simpa[jY] using h)
  exact⟨e,Y,Y⟩
 |e::r,k,i+1,d,h=>by
  let⟨a,b,c⟩:=mF     (by simpa[jY] using h);calc⟨a,by simpa using b,by rw[c];congr 4;symm⟩
section
variable{X:Cx}{tg l a b:υ}{f:WE}{fa:WA}{F H:Hp}{ad:-Z}{δ:aH}{σ:St}
theorem JI.weak{a w d}(h:JI X tg a w)(k:∀b H R,d b H R->w b H R):JI X tg a d:=⟨λc s b H R I q=>h c s b H R I (k b H R q)⟩
theorem nX{ds vs}(h:ah F ds vs){i:Nat}{d}(e:ds[i]?=ζ d):∃v,vs[i]?=ζ v/\Is F d v:=by
 let a:i<↑vs:=by rw[↑h];exact(mj.mp e).1
 let⟨d',b,c⟩:=h.get (mf a);rw[e] at b;cases b;calc⟨_,mf a,c⟩
theorem Cz{x v K}(S:SR F ad δ σ H)(p:dB F ad x v)(h:wg x δ K):∃a q,v=.ref a/\K q/\(∃vs,H a=ζ (.lst vs)) ∧
  ∀F' c d f H',ay F F'->(∀(k:Nat) a,ad[k]?=ζ a->c[k]?=ζ a)->SR F' c d f H'->q.eU d->∃vs,H' a=ζ (.lst vs)/\ah F' q.items vs:=by
 unfold wg at h;split at h
 .let⟨a,i,rfl,C,D⟩:22:=p
  exact(zI2 a _ ⟨Y,h,⟨i,S.sub _ _ C⟩,λA c d f B s _ j _=>⟨i,j.sub _ _ (s _ _ C),D.same s⟩⟩)
 .rename_i k
  split at h
  .rename_i E e
   let⟨a,l,rfl⟩:11:=p;let⟨a',o,m,r,i,rfl,G⟩:2211:=S.mu k _ e;rw[l] at m;cases m;calc(zI2 a _ ⟨Y,h,⟨i,r⟩,λA c d f B _ g j t=>?_⟩);let⟨Nf,o,n,u,w,rfl,y⟩:2211:=j.mu k _ t;rw[g k a l] at n;cases n;exact⟨w,u,y⟩
  .rename_i b E e
   let⟨a,l,rfl⟩:=p;let⟨a',o,m,r,z,i,rfl,G⟩:2311:=S.mu k _ e;rw[l] at m;cases m;calc(zI2 a _ ⟨Y,h,⟨i,r⟩,λA c d f B _ g j t=>?_⟩);let⟨Nf,o,n,u,_,w,rfl,y⟩:2311:=j.mu k _ t;rw[g k a l] at n;cases n;exact⟨w,u,y⟩
  .exact h.elim
 .calc h.elim
theorem CA{x v K}(S:SR F ad δ σ H)(g:dB F ad x v)(h:nW x δ K):∃a d,v=.ref a/\K d ∧
  (((∃vs,H a=ζ (.lst vs))/\∀F' b c f H',ay F F'->(∀(k:Nat) a,ad[k]?=ζ a->b[k]?=ζ a)->SR F' b c f H'->d.eU c->∃vs,H' a=ζ (.lst vs)/\ah F' d.items vs) ∨
  ((∃vs,H a=ζ (.tup vs))/\∀F' b c f H',ay F F'->(∀(k:Nat) a,ad[k]?=ζ a->b[k]?=ζ a)->SR F' b c f H'->d.eU c->∃vs,H' a=ζ (.tup vs)/\ah F' d.items vs)):=by
 unfold nW at h;split at h
 .let⟨a,d,e,k,r⟩:=Cz  S g h
  exact⟨a,d,e,k,.inl r⟩
 .let⟨a,i,rfl,j,l⟩:=g
  exact⟨a,_,Y,h,.inr ⟨⟨i,S.sub _ _ j⟩,λn b c f o s _ m _=>⟨i,m.sub _ _ (s _ _ j),l.same s⟩⟩⟩
 .let⟨a,d,e,k,r⟩:=Cz  S g h
  exact⟨a,d,e,k,.inl r⟩
 .calc h.elim
theorem Ng(M:JE X l (tD f)):JI X tg l (g8 (aY f)):=(Nd M).weak λV H R ⟨F,N,O,K,S,q,k⟩=>⟨F,N,O,_,S,q,λx P Q v W T Y J t U=>by
 let⟨a,Z,rfl,L,r⟩:22:=CA t U Q;calc⟨a,rfl,?_⟩;rcases r with⟨⟨u,e⟩,r⟩|⟨⟨u,e⟩,r⟩
 .refine .inl ⟨⟨u,bf.of e⟩,k _ _ L _ _ _ _ J t λz b c g A s h n B=>?_⟩
  let⟨j,m,o⟩:=r z b c g A s h n B;calc⟨⟨j,bf.of m,by rw[↑o];calc vr _⟩,λi d C=>?_⟩;let⟨w,p,D⟩:=nX o C;calc⟨⟨j,w,bf.of m,p⟩,?_⟩;ext y E ⟨G,I⟩;subst G;calc⟨λ_ _ e=>e,?_⟩;let:=I j (bf.of m);rw[p] at this;cases this;rw[Nw.refl n.sub];exact D
 .refine .inr ⟨⟨u,bE.of e⟩,k _ _ L _ _ _ _ J t λz b c g A s h n B=>?_⟩
  let⟨j,m,o⟩:=r z b c g A s h n B;calc⟨⟨j,bE.of m,by rw[↑o];calc vr _⟩,λi d C=>?_⟩;let⟨w,p,D⟩:=nX o C;calc⟨⟨j,w,bE.of m,p⟩,?_⟩;ext y E ⟨G,I⟩;subst G;calc⟨λ_ _ e=>e,?_⟩;let:=I j (bE.of m);rw[p] at this;cases this
  rw[Nw.refl n.sub];calc D⟩
theorem CB{F H T d e x y}(s:ay F H)(a:H T=η)(c:Is F d x)(f:Is F e y):Is (Nw F H (upd H T (.tup [x,y]))) (.tup [d,e]) (.ref T):=by
 rw[Nw.upd s a]
 let g:F T=η:=by
  cases q:F T with
  |none=>rfl
  |some u=>rw[s T u q] at a;cases a
 let b:ay F (upd F T (.tup [x,y])):=b_ g;calc(zI2 T _ ⟨Y,bj,.cons (c.same b) (.cons (f.same b) .nil)⟩)
theorem Nh{m:-υ}{Q:Nat}{U p pos:Ε}(V:Gl X "enumerate")(W:X.mg "enumerate" = η)(Y:JA X [a] (bM fa))(Z:‹starEach [a] X.env=[(ι,eval a X.env)]›):
  JI X (.Tuple m Q U) (.Call (.Name "enumerate" p) [a] [] pos) (g8 (iS fa)):=(Nc V W Y Z).weak fun σ H R ⟨F,ad,δ,K,S,q,k⟩=>⟨F,ad,δ,_,S,q,λxs δ1 n A F1 Ni H1 O B V1=>by
 match xs,n,V1 with
 |[x],g1,⟨v,r,e,W1,W2⟩ =>
  subst e W2;let⟨a,it,rfl,P,r⟩:22:=CA B W1 g1;calc⟨a,rfl,?_⟩;rcases r with⟨⟨A,e⟩,r⟩|⟨⟨A,e⟩,r⟩
  .refine .inl ⟨⟨A,bf.of e⟩,k _ _ P _ _ _ _ O B λC b c f D s g o E=>?_⟩
   let⟨h,j,t⟩:=r C b c f D s g o E;calc⟨⟨h,bf.of j,by rw[↑t,mE];calc vr _⟩,λi d G=>?_⟩;let⟨d',l,rfl⟩:=mF G;let⟨w,u,I⟩:=nX t l;calc⟨⟨h,w,bf.of j,u⟩,?_⟩;ext y J ⟨T,v,L,z,M,N⟩;subst M L;let:=N h (bf.of j);rw[u] at this;cases this;calc⟨b_ z,?_⟩;rw[Yd];exact CB o.sub z rfl I
  .refine .inr ⟨⟨A,bE.of e⟩,k _ _ P _ _ _ _ O B λC b c f D s g o E=>?_⟩
   let⟨h,j,t⟩:=r C b c f D s g o E;calc⟨⟨h,bE.of j,by rw[↑t,mE]⟩,λi d G=>?_⟩;let⟨d',l,rfl⟩:=mF G;let⟨w,u,I⟩:=nX t l;calc⟨⟨h,w,bE.of j,u⟩,?_⟩;ext y J ⟨T,v,L,z,M,N⟩;subst M L;let:=N h (bE.of j);rw[u] at this;cases this;calc⟨b_ z,?_⟩;rw[Yd];exact CB o.sub z rfl I
 |[],n,_=>exact n.elim
 |_::_::_,n,_=>calc n.elim⟩
theorem CD{c:Hp}{a:-Z}{b:Int}{n:Nat}:mC c a ⟨cb b n,λ_=>True⟩ (oQ b n):=λq f g h r s j t _=>by
 calc⟨by rw[iU];calc vr _,λi d k=>?_⟩;let⟨l,rfl⟩:01:=iT k;calc⟨l,?_⟩;ext x m ⟨o,p⟩;subst o p;calc⟨λ_ _ e=>e,Y⟩
theorem Nj{p pos:Ε}(d:Gl X "range")(f:X.mg "range" = η)(g:JA X [a] (bM fa))(h:‹starEach [a] X.env=[(ι,eval a X.env)]›):JI X tg (.Call (.Name "range" p) [a] [] pos) (g8 (g_ fa)) :=
 (Jo d f g h).weak λu H R ⟨F,i,l,K,S,q,k⟩↦⟨F,i,l,_,S,q,λw m b x y n z o s c=>by
  split at b
  .rename_i j
   let⟨v,r,e,c,t⟩:22:=c;subst t c e;exact⟨j,Y,b.1.1,b.1.2,k _ _ b.2 _ _ _ _ o s CD⟩
  .calc b.elim⟩
theorem Nk{p pos:Ε}(g:Gl X "range")(h:X.mg "range" = η)(l:JA X [a,b] (bM fa))(m:‹starEach [a,b] X.env=[(ι,eval a X.env),(ι,eval b X.env)]›)(d:‹starEach [b] X.env=[(ι,eval b X.env)]›):
  JI X tg (.Call (.Name "range" p) [a,b] [] pos) (g8 (we fa)) :=
 (Jp g h l m d).weak λB H R ⟨F,n,o,K,S,q,k⟩↦⟨F,n,o,_,S,q,λC s c D E t G u x f=>by
  split at c
  .rename_i i j
   let⟨v,r,e,f,w,I,y,z,A⟩:2222:=f;subst A f z y e;exact(zI2 i j ⟨Y,c.1,k _ _ c.2 _ _ _ _ u x CD⟩)
  .calc c.elim⟩
end
end L2
namespace L2
open PySem PySem.Spec PyProof.Rows
mutual
noncomputable def aD (d e:D):Bool:=match d with
 |.non=>(match e with|.non=>θ|_=>ι)
 |.bl a=>(match e with|.bl b=>a==b|.int b=>(if a then 1 else 0)==b|_=>ι)
 |.int a=>(match e with|.bl b=>a==(if b then 1 else 0)|.int b=>a==b|_=>ι)
 |.str a=>(match e with|.str b=>a==b|_=>ι)
 |.tup a=>(match e with|.tup b=>bw a b|_=>ι)
 |.lst a=>(match e with|.lst b=>bw a b|_=>ι)
noncomputable def bw:-D->-D->Bool
 |[],[]=>θ
 |a::r,b::s=>aD a b&&bw r s
 |_,_=>ι
end
mutual
theorem iV:∀d:D,aD d d=θ
 |.non=>by simp[aD]
 |.bl a=>by simp[aD]
 |.int a=>by simp[aD]
 |.str a=>by simp[aD]
 |.tup a=>by erw[aD];exact wh a
 |.lst a=>by erw[aD];calc wh a
theorem wh:∀ds:-D,bw ds ds=θ
 |[]=>by simp[bw]
 |d::r=>by erw[bw,iV d,wh r,q4W]
end
mutual
theorem Is.inj {H:Hp}:∀{d e:D}{v:V},Is H d v->Is H e v->d=e
 |.non,e,v,h,q=>by cases e<;>erw[Is] at h q<;>first|rfl|(subst h;first|(let⟨_,_,z,_⟩:=q;cases z;done)|(cases q;done)|(cases q;rfl))
 |.bl a,e,v,h,q=>by cases e<;>erw[Is] at h q<;>(subst h;first|(let⟨_,_,z,_⟩:=q;cases z;done)|(cases q;done)|(cases q;rfl))
 |.int a,e,v,h,q=>by cases e<;>erw[Is] at h q<;>(subst h;first|(let⟨_,_,z,_⟩:=q;cases z;done)|(cases q;done)|(cases q;rfl))
 |.str a,e,v,h,q=>by cases e<;>erw[Is] at h q<;>(subst h;first|(let⟨_,_,z,_⟩:=q;cases z;done)|(cases q;done)|(cases q;rfl))
 |.tup a,e,v,h,q=>by
  erw[Is] at h;let⟨p,vs,rfl,f,i⟩:=h
  cases e with
  |tup b =>
   erw[Is] at q;let⟨p',ws,z,c,g⟩:=q;cases z
   rw[f] at c;cases c;rw[ah.inj i g]
  |lst b =>
   erw[Is] at q;let⟨p',ws,z,c,g⟩:=q;cases z
   rw[f] at c;cases c
  |non=>erw[Is] at q;cases q
  |bl _=>erw[Is] at q;cases q
  |int _=>erw[Is] at q;cases q
  |str _=>erw[Is] at q;cases q
 |.lst a,e,v,h,q=>by
  erw[Is] at h;let⟨p,vs,rfl,f,i⟩:=h
  cases e with
  |lst b =>
   erw[Is] at q;let⟨p',ws,z,c,g⟩:=q;cases z
   rw[f] at c;cases c;rw[ah.inj i g]
  |tup b =>
   erw[Is] at q;let⟨p',ws,z,c,g⟩:=q;cases z
   rw[f] at c;cases c
  |non=>erw[Is] at q;cases q
  |bl _=>erw[Is] at q;cases q
  |int _=>erw[Is] at q;cases q
  |str _=>erw[Is] at q;cases q
theorem ah.inj {H:Hp}:∀{ds es:-D}{vs:-V},ah H ds vs->ah H es vs->ds=es
 |[],es,vs,h,q=>by
  erw[ah] at h;subst h
  cases es with
  |nil=>rfl
  |cons _ _=>erw[ah] at q;let⟨_,_,z,_⟩:=q;cases z
 |d::ds,es,vs,h,q=>by
  erw[ah] at h;let⟨v,r,rfl,f,i⟩:=h
  cases es with
  |nil=>erw[ah] at q;cases q
  |cons e es =>
   erw[ah] at q;let⟨v',r',z,c,g⟩:=q;cases z
   rw[Is.inj f c,ah.inj i g]
end
theorem pL:∀{ds es},↑ds≠↑es->bw ds es=ι
 |[],[],h=>absurd Y h
 |[],_::_,_=>by simp[bw]
 |_::_,[],_=>by simp[bw]
 |d::r,e::s,h=>by erw[bw];rw[pL (λz=>h (by rw[rC,rC,z])),q1d]
meta def mG(ds es:-D)(j:Nat):Bool:=match ds[j]?,es[j]? with
 |some a,some b=>aD a b
 |_,_=>θ
theorem pM:∀{ds es},↑ds=↑es->(Xz ↑ds).all (mG ds es)=bw ds es
 |[],[],_=>by simp[bw]
 |[],_::_,h=>by simp at h
 |_::_,[],h=>by simp at h
 |d::r,e::s,h=>by
  rw[rC,List.range_succ_eq_map,ZU,List.all_map];erw[bw];rw[<-(pM   h⁻¹)];rfl
section
variable{X:Cx}{pins:ax}{σ:St}{H:Hp}{s:ο}
theorem pN{vs a}(r:Vals vs a){j:Nat} h:∃v,vs[j]?=ζ v/\RelV v a.toArray[j]:=by
 let c:=by simpa using h
 let b:j<↑vs:=by rw[↑r];exact c
 let⟨u,e,d⟩:=r.get (mf b)
 let:a.toArray[j]=u:=by
  let:=(mj.mp e).2;simpa using this
 rw[this];calc⟨_,mf b,d⟩
theorem c_(I:Inv X pins σ H s){a vs}(h:H a=ζ (.lst vs)):∃b:-ν,Vals vs b/\s.heap.IsList a b.toArray:=by
 let⟨b,r,p,_⟩:12:=I.list (bf.of h);calc⟨b,r,p.isList⟩
theorem dc(I:Inv X pins σ H s){a vs}(h:H a=ζ (.tup vs)):∃b:-ν,Vals vs b/\s.heap.IsTuple a b.toArray:=by
 let⟨b,r,p,_⟩:12:=I.tuple (bE.of h);calc⟨b,r,p⟩
theorem in1_units(A:Β):A.in1.units=A.units+1:=rfl
theorem rY(I:Inv X pins σ H s):∀(n:Nat){A:Β}{d e:D}{v u:V}{x y:ν},dep d<=n->A.units+n<cLine->Is H d v->Is H e u->RelV v x->RelV u y->q0j A s x y (aD d e)/\q4v A s x y (aD d e):=by
 ext n
 induction n with
 |zero =>
  ext A d e v u x y P Y r h z f;let g:A.units<cLine:=by symm
  cases d with
  |tup o=>simp[dep] at P
  |lst o=>simp[dep] at P
  |non =>
   cases(show v=.non from r);cases z
   cases e with
   |non=>cases(show u=.non from h);cases f;erw[aD];exact⟨q0R _,SeqAt.RcAt.none_none⟩
   |bl b=>cases(show u=.bl b from h);cases f;erw[aD];exact⟨q2o _,SeqAt.RcAt.none_bool _⟩
   |int b=>cases(show u=.int b from h);let⟨t,rfl⟩:=f;erw[aD];exact⟨q2y _ _,SeqAt.RcAt.none_int _ _⟩
   |str b=>cases(show u=.str b from h);let⟨t,rfl⟩:=f;erw[aD];exact⟨q2z _ _,SeqAt.RcAt.none_str _ _⟩
   |tup k=>erw[Is] at h;let⟨a,w,rfl,m,_⟩:=h;cases f;let⟨_,_,p⟩:=dc I m;erw[aD];exact⟨SeqAt.EqAt.none_tuple p g,SeqAt.RcAt.none_tuple p g⟩
   |lst k=>erw[Is] at h;let⟨a,w,rfl,m,_⟩:=h;cases f;let⟨_,_,p⟩:=c_ I m;erw[aD];exact⟨SeqAt.EqAt.none_list p g,SeqAt.RcAt.none_list p g⟩
  |bl G =>
   cases(show v=.bl G from r);cases z
   cases e with
   |non=>cases(show u=.non from h);cases f;erw[aD];exact⟨q2p _,SeqAt.RcAt.bool_none _⟩
   |bl b=>cases(show u=.bl b from h);cases f;erw[aD];exact⟨q2q _ _,SeqAt.RcAt.bool_bool _ _⟩
   |int b=>cases(show u=.int b from h);let⟨t,rfl⟩:=f;erw[aD];exact⟨q2A _ _ _,SeqAt.RcAt.bool_int _ _ _⟩
   |str b=>cases(show u=.str b from h);let⟨t,rfl⟩:=f;erw[aD];exact⟨q2B _ _ _,SeqAt.RcAt.bool_str _ _ _⟩
   |tup k=>erw[Is] at h;let⟨a,w,rfl,m,_⟩:=h;cases f;let⟨_,_,p⟩:=dc I m;erw[aD];exact⟨SeqAt.EqAt.bool_tuple _ p g,SeqAt.RcAt.bool_tuple _ p g⟩
   |lst k=>erw[Is] at h;let⟨a,w,rfl,m,_⟩:=h;cases f;let⟨_,_,p⟩:=c_ I m;erw[aD];exact⟨SeqAt.EqAt.bool_list _ p g,SeqAt.RcAt.bool_list _ p g⟩
  |int G =>
   cases(show v=.int G from r);let⟨Z,rfl⟩:=z
   cases e with
   |non=>cases(show u=.non from h);cases f;erw[aD];exact⟨q2C _ _,SeqAt.RcAt.int_none _ _⟩
   |bl b=>cases(show u=.bl b from h);cases f;erw[aD];exact⟨q2D _ _ _,SeqAt.RcAt.int_bool _ _ _⟩
   |int b=>cases(show u=.int b from h);let⟨t,rfl⟩:=f;erw[aD];exact⟨q1b _ _ _ _,SeqAt.RcAt.int_int _ _ _ _⟩
   |str b=>cases(show u=.str b from h);let⟨t,rfl⟩:=f;erw[aD];exact⟨q08 _ _ _ _,SeqAt.RcAt.int_str _ _ _ _⟩
   |tup k=>erw[Is] at h;let⟨a,w,rfl,m,_⟩:=h;cases f;let⟨_,_,p⟩:=dc I m;erw[aD];exact⟨SeqAt.EqAt.int_tuple _ _ p g,SeqAt.RcAt.int_tuple _ _ p g⟩
   |lst k=>erw[Is] at h;let⟨a,w,rfl,m,_⟩:=h;cases f;let⟨_,_,p⟩:=c_ I m;erw[aD];exact⟨SeqAt.EqAt.int_list _ _ p g,SeqAt.RcAt.int_list _ _ p g⟩
  |str G =>
   cases(show v=.str G from r);let⟨Z,rfl⟩:=z
   cases e with
   |non=>cases(show u=.non from h);cases f;erw[aD];exact⟨q2E _ _,SeqAt.RcAt.str_none _ _⟩
   |bl b=>cases(show u=.bl b from h);cases f;erw[aD];exact⟨q2F _ _ _,SeqAt.RcAt.str_bool _ _ _⟩
   |int b=>cases(show u=.int b from h);let⟨t,rfl⟩:=f;erw[aD];exact⟨q09 _ _ _ _,SeqAt.RcAt.str_int _ _ _ _⟩
   |str b=>cases(show u=.str b from h);let⟨t,rfl⟩:=f;erw[aD];exact⟨q21 _ _ _ _,SeqAt.RcAt.str_str _ _ _ _⟩
   |tup k=>erw[Is] at h;let⟨a,w,rfl,m,_⟩:=h;cases f;let⟨_,_,p⟩:=dc I m;erw[aD];exact⟨SeqAt.EqAt.str_tuple _ _ p g,SeqAt.RcAt.str_tuple _ _ p g⟩
   |lst k=>erw[Is] at h;let⟨a,w,rfl,m,_⟩:=h;cases f;let⟨_,_,p⟩:=c_ I m;erw[aD];exact⟨SeqAt.EqAt.str_list _ _ p g,SeqAt.RcAt.str_list _ _ p g⟩
 |succ n Q =>
  ext A d e v u x y P Y r hw z f;let g:A.units<cLine:=by symm
  let K:∀{o k:-D}{w L:-V}{q i:-ν}(J:Vals w q)(B:Vals L i),bD o<=n->ah H o w->ah H k L →
    ∀(j:Nat)(m:j<q.toArray.size)(C:j<i.toArray.size),q0j A.in1 s q.toArray[j] i.toArray[j] (mG o k j):=λ{o k w L q i} J B R M F j m C=>by
   let⟨v1,e1,q1⟩:11:=pN J m;let⟨v2,e2,q2⟩:=pN B C;let⟨d1,W,g1⟩:=M.get e1;let⟨d2,f2,g2⟩:=F.get e2;unfold mG;rw[W,f2];exact(Q (XQ (vH W) R) (by rw[in1_units];symm) g1 g2 q1 q2).1
  cases d with
  |tup o =>
   let R:bD o<=n:=by erw[dep] at P;symm
   let N:=r;erw[Is] at r;let⟨a,w,rfl,m,M⟩:=r;cases z
   let⟨q,J,l⟩:=dc I m
   cases e with
   |tup k =>
    let O:=hw;erw[Is] at hw;let⟨b,L,rfl,C,F⟩:=hw;cases f
    let⟨i,B,E⟩:=dc I C
    let S:q4v A s (.ref a) (.ref b) (aD (.tup o) (.tup k)):=by
     let:=SeqAt.RcAt.tuples l E g (K J B R M F);let T:q.toArray.size=↑o:=by rw[KJ,<-↑J,↑M]
     let U:i.toArray.size=k.length:=by rw[KJ,<-↑B,↑F]
     rw[T,U] at this
     let eb:((Xz (min ↑o k.length)).all (mG o k)&&↑o==k.length)=aD (.tup o) (.tup k):=by
      erw[aD]
      by_cases c:↑o=k.length
      .rw[<-c,q3v,pM c];simp
      .rw[pL c];simp[c]
     rw[eb] at this;exact this
    refine⟨?_,S⟩
    by_cases c:a=b
    .subst c
     let:=Is.inj N O;rw[this,iV];exact q0R _
    .exact q23 c S
   |lst k =>
    erw[Is] at hw;let⟨b,L,rfl,C,F⟩:=hw;cases f
    let⟨i,B,E⟩:=c_ I C;erw[aD];exact⟨SeqAt.EqAt.tuple_list l E g,SeqAt.RcAt.tuple_list l E g⟩
   |non=>cases(show u=.non from hw);cases f;erw[aD];exact⟨SeqAt.EqAt.tuple_none l g,SeqAt.RcAt.tuple_none l g⟩
   |bl b=>cases(show u=.bl b from hw);cases f;erw[aD];exact⟨SeqAt.EqAt.tuple_bool _ l g,SeqAt.RcAt.tuple_bool _ l g⟩
   |int b=>cases(show u=.int b from hw);let⟨t,rfl⟩:=f;erw[aD];exact⟨SeqAt.EqAt.tuple_int _ _ l g,SeqAt.RcAt.tuple_int _ _ l g⟩
   |str b=>cases(show u=.str b from hw);let⟨t,rfl⟩:=f;erw[aD];exact⟨SeqAt.EqAt.tuple_str _ _ l g,SeqAt.RcAt.tuple_str _ _ l g⟩
  |lst o =>
   let R:bD o<=n:=by erw[dep] at P;symm
   let N:=r;erw[Is] at r;let⟨a,w,rfl,m,M⟩:=r;cases z
   let⟨q,J,l⟩:=c_ I m
   cases e with
   |lst k =>
    let O:=hw;erw[Is] at hw;let⟨b,L,rfl,C,F⟩:=hw;cases f
    let⟨i,B,E⟩:=c_ I C;let T:q.toArray.size=↑o:=by rw[KJ,<-↑J,↑M]
    let U:i.toArray.size=k.length:=by rw[KJ,<-↑B,↑F]
    let S:q4v A s (.ref a) (.ref b) (aD (.lst o) (.lst k)):=by
     by_cases c:↑o=k.length
     .let:=SeqAt.RcAt.lists l E (by rw[T,U];calc c) g (K J B R M F)
      rw[T,pM c] at this;erw[aD];exact this
     .erw[aD];rw[pL c]
      exact SeqAt.RcAt.lists_lengths l E (by rw[T,U];simpa using c) g
    refine⟨?_,S⟩
    by_cases c:a=b
    .subst c
     let:=Is.inj N O;rw[this,iV];exact q0R _
    .exact q23 c S
   |tup k =>
    erw[Is] at hw;let⟨b,L,rfl,C,F⟩:=hw;cases f
    let⟨i,B,E⟩:=dc I C;erw[aD];exact⟨SeqAt.EqAt.list_tuple l E g,SeqAt.RcAt.list_tuple l E g⟩
   |non=>cases(show u=.non from hw);cases f;erw[aD];exact⟨SeqAt.EqAt.list_none l g,SeqAt.RcAt.list_none l g⟩
   |bl b=>cases(show u=.bl b from hw);cases f;erw[aD];exact⟨SeqAt.EqAt.list_bool _ l g,SeqAt.RcAt.list_bool _ l g⟩
   |int b=>cases(show u=.int b from hw);let⟨t,rfl⟩:=f;exact⟨SeqAt.EqAt.list_int _ _ l g,SeqAt.RcAt.list_int _ _ l g⟩
   |str b=>cases(hw);let⟨t,rfl⟩:=f;exact⟨SeqAt.EqAt.list_str _ _ l g,SeqAt.RcAt.list_str _ _ l g⟩
  |non=>exact Q (by simp[dep]) ⋯ r hw z f
  |bl G=>exact Q (by simp[dep]) ⋯ r hw z f
  |int G=>exact Q (by simp[dep]) ⋯ r hw z f
  |str G=>calc Q (by simp[dep]) ⋯ r hw z f
theorem Nl(I:Inv X pins σ H s){A:Β}{d e:D}{v u:V}{x y:ν}(hd:dep d<=60)(hu:A.units+61<cLine)(z:Is H d v)(hw:Is H e u)(J:RelV v x)(f:RelV u y):SeqAt.RcNeAt A s x y (!aD d e):=by
 let k:A.units<cLine:=by symm
 let C:∀{m h:-D}{o F:-V}{l g:-ν}(B:Vals o l)(q:Vals F g),bD m<=59->ah H m o->ah H h F →
   ∀(j:Nat)(i:j<l.toArray.size)(r:j<g.toArray.size),q0j A.in1 s l.toArray[j] g.toArray[j] (mG m h j):=λ{m h o F l g} B q K G w j i r=>by
  let⟨v1,P,Q⟩:11:=pN B i;let⟨v2,R,S⟩:=pN q r;let⟨d1,O,T⟩:=G.get P;let⟨d2,U,W⟩:=w.get R;unfold mG;rw[O,U];exact(rY I 59 (XQ (vH O) K) (by rw[in1_units];symm) T W Q S).1
 cases d with
 |tup m =>
  let K:bD m<=59:=by erw[dep] at hd;symm
  erw[Is] at z;let⟨a,o,rfl,i,G⟩:=z;cases J
  let⟨l,B,n⟩:=dc I i
  cases e with
  |tup h =>
   erw[Is] at hw;let⟨b,F,rfl,r,w⟩:=hw;cases f
   let⟨g,q,E⟩:=dc I r;let:=SeqAt.RcNeAt.tuples n E k (C B q K G w);let L:l.toArray.size=↑m:=by rw[KJ,<-↑B,↑G]
   let N:g.toArray.size=↑h:=by rw[KJ,<-↑q,↑w]
   rw[L,N] at this
   let Y:((Xz (min ↑m ↑h)).all (mG m h)&&↑m==↑h)=aD (.tup m) (.tup h):=by
    erw[aD]
    by_cases c:↑m=↑h
    .rw[<-c,q3v,pM c];simp
    .rw[pL c];simp[c]
   rw[Y] at this;exact this
  |lst h=>erw[Is] at hw;let⟨b,F,rfl,r,w⟩:=hw;cases f;let⟨g,q,E⟩:=c_ I r;erw[aD];exact SeqAt.RcNeAt.tuple_list n E k
  |non=>cases(show u=.non from hw);cases f;erw[aD];exact SeqAt.RcNeAt.tuple_none n k
  |bl b=>cases(show u=.bl b from hw);cases f;erw[aD];exact SeqAt.RcNeAt.tuple_bool _ n k
  |int b=>cases(show u=.int b from hw);let⟨t,rfl⟩:=f;erw[aD];exact SeqAt.RcNeAt.tuple_int _ _ n k
  |str b=>cases(show u=.str b from hw);let⟨t,rfl⟩:=f;erw[aD];exact SeqAt.RcNeAt.tuple_str _ _ n k
 |lst m =>
  let K:bD m<=59:=by erw[dep] at hd;symm
  erw[Is] at z;let⟨a,o,rfl,i,G⟩:=z;cases J
  let⟨l,B,n⟩:=c_ I i
  cases e with
  |lst h =>
   erw[Is] at hw;let⟨b,F,rfl,r,w⟩:=hw;cases f
   let⟨g,q,E⟩:=c_ I r;let L:l.toArray.size=↑m:=by rw[KJ,<-↑B,↑G]
   let N:g.toArray.size=↑h:=by rw[KJ,<-↑q,↑w]
   by_cases c:↑m=↑h
   .let:=SeqAt.RcNeAt.lists n E (by rw[L,N];calc c) k (C B q K G w)
    rw[L,pM c] at this;erw[aD];exact this
   .erw[aD];rw[pL c]
    exact SeqAt.RcNeAt.lists_lengths n E (by rw[L,N];simpa using c) k
  |tup h=>erw[Is] at hw;let⟨b,F,rfl,r,w⟩:=hw;cases f;let⟨g,q,E⟩:=dc I r;erw[aD];exact SeqAt.RcNeAt.list_tuple n E k
  |non=>cases(show u=.non from hw);cases f;erw[aD];exact SeqAt.RcNeAt.list_none n k
  |bl b=>cases(show u=.bl b from hw);cases f;erw[aD];exact SeqAt.RcNeAt.list_bool _ n k
  |int b=>cases(show u=.int b from hw);let⟨t,rfl⟩:=f;erw[aD];exact SeqAt.RcNeAt.list_int _ _ n k
  |str b=>cases(show u=.str b from hw);let⟨t,rfl⟩:=f;erw[aD];exact SeqAt.RcNeAt.list_str _ _ n k
 |non =>
  cases(show v=.non from z);cases J
  cases e with
  |non=>cases(show u=.non from hw);cases f;erw[aD];exact SeqAt.RcNeAt.none_none
  |bl b=>cases(show u=.bl b from hw);cases f;erw[aD];exact SeqAt.RcNeAt.none_bool _
  |int b=>cases(show u=.int b from hw);let⟨t,rfl⟩:=f;erw[aD];exact SeqAt.RcNeAt.none_int _ _
  |str b=>cases(show u=.str b from hw);let⟨t,rfl⟩:=f;erw[aD];exact SeqAt.RcNeAt.none_str _ _
  |tup h=>erw[Is] at hw;let⟨a,o,rfl,i,_⟩:=hw;cases f;let⟨_,_,p⟩:=dc I i;erw[aD];exact SeqAt.RcNeAt.none_tuple p k
  |lst h=>erw[Is] at hw;let⟨a,o,rfl,i,_⟩:=hw;cases f;let⟨_,_,p⟩:=c_ I i;erw[aD];exact SeqAt.RcNeAt.none_list p k
 |bl M =>
  cases(show v=.bl M from z);cases J
  cases e with
  |non=>cases(show u=.non from hw);cases f;erw[aD];exact SeqAt.RcNeAt.bool_none _
  |bl b=>cases(show u=.bl b from hw);cases f;erw[aD];exact SeqAt.RcNeAt.bool_bool _ _
  |int b=>cases(show u=.int b from hw);let⟨t,rfl⟩:=f;erw[aD];exact SeqAt.RcNeAt.bool_int _ _ _
  |str b=>cases(show u=.str b from hw);let⟨t,rfl⟩:=f;erw[aD];exact SeqAt.RcNeAt.bool_str _ _ _
  |tup h=>erw[Is] at hw;let⟨a,o,rfl,i,_⟩:=hw;cases f;let⟨_,_,p⟩:=dc I i;erw[aD];exact SeqAt.RcNeAt.bool_tuple _ p k
  |lst h=>erw[Is] at hw;let⟨a,o,rfl,i,_⟩:=hw;cases f;let⟨_,_,p⟩:=c_ I i;erw[aD];exact SeqAt.RcNeAt.bool_list _ p k
 |int M =>
  cases(show v=.int M from z);let⟨Z,rfl⟩:=J
  cases e with
  |non=>cases(show u=.non from hw);cases f;erw[aD];exact SeqAt.RcNeAt.int_none _ _
  |bl b=>cases(show u=.bl b from hw);cases f;erw[aD];exact SeqAt.RcNeAt.int_bool _ _ _
  |int b=>cases(show u=.int b from hw);let⟨t,rfl⟩:=f;erw[aD];exact SeqAt.RcNeAt.int_int _ _ _ _
  |str b=>cases(show u=.str b from hw);let⟨t,rfl⟩:=f;erw[aD];exact SeqAt.RcNeAt.int_str _ _ _ _
  |tup h=>erw[Is] at hw;let⟨a,o,rfl,i,_⟩:=hw;cases f;let⟨_,_,p⟩:=dc I i;erw[aD];exact SeqAt.RcNeAt.int_tuple _ _ p k
  |lst h=>erw[Is] at hw;let⟨a,o,rfl,i,_⟩:=hw;cases f;let⟨_,_,p⟩:=c_ I i;erw[aD];exact SeqAt.RcNeAt.int_list _ _ p k
 |str M =>
  cases(show v=.str M from z);let⟨Z,rfl⟩:=J
  cases e with
  |non=>cases(show u=.non from hw);cases f;erw[aD];exact SeqAt.RcNeAt.str_none _ _
  |bl b=>cases(show u=.bl b from hw);cases f;erw[aD];exact SeqAt.RcNeAt.str_bool _ _ _
  |int b=>cases(hw);let⟨t,rfl⟩:=f;exact SeqAt.RcNeAt.str_int _ _ _ _
  |str b=>cases(hw);let⟨t,rfl⟩:=f;exact SeqAt.RcNeAt.str_str _ _ _ _
  |tup h=>let⟨a,o,rfl,i,_⟩:=hw;cases f;let⟨_,_,p⟩:=dc I i;exact SeqAt.RcNeAt.str_tuple _ _ p k
  |lst h=>let⟨a,o,rfl,i,_⟩:=hw;cases f;let⟨_,_,p⟩:=c_ I i;calc SeqAt.RcNeAt.str_list _ _ p k
end
variable[zt:aB]
meta def intsOf:-D->Option (-Int)
 |[]=>ζ []
 |.int i::r=>match intsOf r with
  |some a=>ζ (i::a)
  |none=>η
 |_=>η
theorem kO:∀ns:-Int,intsOf (ns.map D.int)=ζ ns
 |[]=>Y
 |n::r=>by show(match intsOf (r.map D.int) with|some a=>ζ (n::a)|none=>η)=_;rw[kO r]
theorem nY:∀{ds ns},intsOf ds=ζ ns->ds=ns.map D.int
 |[],a,h=>by cases h;rfl
 |.int i::r,a,h=>by
  unfold intsOf at h;split at h
  .rename_i b e;cases h;rw[Xm,nY e]
  .cases h
 |.non::r,a,h=>by cases h
 |.bl _::r,a,h=>by cases h
 |.str _::r,a,h=>by cases h
 |.tup _::r,a,h=>by cases h
 |.lst _::r,a,h=>by cases h
theorem jZ{F}:∀{ns:-Int}{vs},ah F (ns.map D.int) vs->vs=ns.map V.int
 |[],a,h=>h
 |n::r,a,h=>by
  let⟨v,t,rfl,b,c⟩:22:=h;rw[jZ c,b];rfl
theorem j2{F}:∀{ns:-Int},ah F (ns.map D.int) (ns.map V.int)
 |[]=>.nil
 |n::r=>.cons (Y) j2
theorem mH{F}:∀{as b us vs},ah F as us->ah F b vs->ah F (as++b) (us++vs)
 |[],b,c,d,h,q=>by subst h;exact q
 |a::r,b,c,d,h,q=>by
  let⟨v,t,rfl,e,f⟩:22:=h;calc .cons e (mH f q)
theorem CF{F}:∀{as us} n,ah F as us->ah F (as.take n) (us.take n)
 |e,b,0,_=>.nil
 |[],b,n+1,h=>by subst h;exact .nil
 |a::r,b,n+1,h=>by
  let⟨v,t,rfl,c,d⟩:22:=h;calc .cons c (CF n d)
theorem wj{F}:∀{as us} n,ah F as us->ah F (as.drop n) (us.drop n)
 |d,b,0,h=>h
 |[],b,n+1,h=>by subst h;exact .nil
 |a::r,b,n+1,h=>by
  let⟨v,t,rfl,e,c⟩:22:=h;calc wj n c
theorem CG{F}:∀{as us} n {d v},ah F as us->Is F d v->ah F (as.set n d) (us.set n v)
 |[],c,n,d,v,h,_=>by subst h;exact .nil
 |a::r,c,0,d,v,h,q=>by
  let⟨w,t,rfl,e,b⟩:22:=h;exact .cons q b
 |a::r,c,n+1,d,v,h,q=>by
  let⟨w,t,rfl,e,b⟩:22:=h;calc .cons e (CG n b q)
theorem CH{F}:∀{as us} n,ah F as us->ah F (as.eraseIdx n) (us.eraseIdx n)
 |[],c,n,h=>by subst h;exact .nil
 |a::r,c,0,h=>by
  let⟨w,t,rfl,d,b⟩:22:=h;exact b
 |a::r,c,n+1,h=>by
  let⟨w,t,rfl,d,b⟩:22:=h;calc .cons d (CH n b)
theorem j3{F H p ds vs}(s:ay F H)(a:H p=η)(h:ah F ds vs):Is (Nw F H (upd H p (.lst vs))) (.lst ds) (.ref p):=by
 rw[Nw.upd s a];calc(zI2 p vs ⟨Y,bj,h.same (b_ (s.free a))⟩)
theorem wk{F H p ds vs}(s:ay F H)(a:H p=η)(h:ah F ds vs):Is (Nw F H (upd H p (.tup vs))) (.tup ds) (.ref p):=by
 rw[Nw.upd s a];calc(zI2 p vs ⟨Y,bj,h.same (b_ (s.free a))⟩)
theorem pO{F H d v}(s:ay F H)(h:Is F d v):Is (Nw F H H) d v:=by rw[Nw.refl s];calc h
def pP(d e:D)(K:D->Prop):Prop:=match d with
 |.int i=>(match e with|.int j=>K (.int (i+j))|_=>False)
 |.lst a=>(match e with|.lst b=>↑a+↑b<=1000/\K (.lst (a++b))|_=>False)
 |.tup a=>(match e with|.tup b=>(a≠[]/\↑a+↑b<=1000)/\K (.tup (a++b))|_=>False)
 |.str a=>(match e with|.str b=>↑a+↑b<=1000/\K (.str (a++b))|_=>False)
 |_=>False
def oI(f:Int->Int->D)(d e:D)(K:D->Prop):Prop:=match d with
 |.int i=>(match e with|.int j=>K (f i j)|_=>False)
 |_=>False
def dZ(C:Int->Int->Prop)(f:Int->Int->D)(d e:D)(K:D->Prop):Prop:=match d with
 |.int i=>(match e with|.int j=>C i j/\K (f i j)|_=>False)
 |_=>False
def f7(d e:D)(K:D->Prop):Prop:=match e with
 |.int j=>(match d with
  |.int i=>kA i j/\K (.int (i*j))
  |.lst a=>(-(2 ^ 63)<=j/\j<2 ^ 63/\↑a*j.toNat<=1000)/\K (.lst (Xb j.toNat a).flatten)
  |_=>False)
 |_=>False
section
variable{X:Cx}
theorem rZ{f:ν->ν->Sem ν}{g h}(op:dn X f (kr g))(b:∀F i j,Is F (h i j) (g i j)):eE X f (oI h):=by
 ext a s c H x y v u Q I k l ⟨F,d,e,K,m,n,o,q,p⟩;cases d<;>cases e<;>first|exact Xu q|rename_i i j
 .calc op a s c H x y v u Q I k l (zI2 i j ⟨n,o,p _ _ _ q (λ_ _ e=>e) (b _ i j)⟩)
theorem wm{f:ν->ν->Sem ν}{C g h}(op:dn X f (rI C g))(b:∀F i j,Is F (h i j) (g i j)):eE X f (dZ C h):=by
 ext a s c H x y v u Q I k l ⟨F,d,e,K,m,n,o,q,p⟩;cases d<;>cases e<;>first|exact Xu q|rename_i i j
 .calc op a s c H x y v u Q I k l (zI2 i j ⟨n,o,q.1,p _ _ _ q.2 (λ_ _ e=>e) (b _ i j)⟩)
theorem r3:eE X (binaryOp .Add) pP:=by
 ext c s n H x y v u Q I o r ⟨F,d,e,K,f,k,t,q,l⟩;cases d<;>cases e<;>first|exact Xu q|rename_i i j
 .exact AA c s n H x y v u Q I o r (zI2 i j ⟨k,t,l _ _ _ q (λ_ _ e=>e) Y⟩)
 .cases k;cases t
  exact JX c s n H _ _ v u Q I o r (zI2 i j ⟨Y,Y,jd q.1,l _ _ _ q.2 (λ_ _ e=>e) Y⟩)
 .let w:=k
  let⟨a,A,rfl,B,g⟩:22:=w;let⟨b,C,rfl,D,h⟩:=t;calc Ks c s n H _ _ v u Q I o r (zI4 a b A C ⟨Y,Y,bE.of (f _ _ B),bE.of (f _ _ D),(λz=>q.1.1 (Yb.mp (by rw[<-↑g,z];rfl))),jd (by rw[↑g,↑h];calc q.1.2),λz=>?_,λz p m=>l _ _ _ q.2 (b_ m) (wk f m (mH g h))⟩);let:=Yb.mp (by rw[<-↑h,z];rfl);subst this;calc l _ _ _ q.2 (λ_ _ e=>e) (pO f ?_);rw[Yx];exact k
 .let⟨a,A,rfl,B,g⟩:=k
  let⟨b,C,rfl,D,h⟩:=t;calc rB c s n H _ _ v u Q I o r (zI4 a b A C ⟨Y,Y,B,D,jd (by rw[↑g,↑h];calc q.1),λp m=>l _ _ _ q.2 (b_ m) (j3 f m (mH g h))⟩)
theorem Nm:eE X (binaryOp .Sub) (oI λi j=>.int (i-j)):=rZ Ju λ_ _ _=>Y
theorem Nn:eE X (binaryOp .Mult) f7:=by
 ext b s f H x y v u Q I g h ⟨F,d,e,K,c,l,m,q,n⟩;cases d<;>cases e<;>first|exact Xu q|rename_i i j
 .exact Jv b s f H x y v u Q I g h (zI2 i j ⟨l,m,q.1,n _ _ _ q.2 (λ_ _ e=>e) Y⟩)
 .let⟨a,o,rfl,w,r⟩:22:=l
  refine Bf b s f H _ _ v u Q I g h (zI3 a j o ⟨Y,m,w,q.1.1,q.1.2.1,jd (by rw[↑r];calc q.1.2.2),λp t=>n _ _ _ q.2 (b_ t) (j3 c t ?_)⟩)
  let:∀k ,ah F (Xb k i).flatten (Xb k o).flatten:=λk=>by
   induction k with
   |zero=>exact .nil
   |succ k z=>exact mH r z
  calc this _
theorem Np:eE X (binaryOp .Mod) (dZ (λ_ j=>0<j) λi j=>.int (i%j)):=wm uX λ_ _ _=>Y
theorem Nq:eE X (binaryOp .Pow) (dZ fZ λi j=>.int (i ^ j.toNat)):=wm Jw λ_ _ _=>Y
def oEq:D->D->(D->Prop)->Prop:=λd e K=>dep d<=60/\K (.bl (aD d e))
def hD:D->D->(D->Prop)->Prop:=λd e K=>dep d<=60/\K (.bl (!aD d e))
theorem CI(j:X.A.units+64<cLine):eE X (compareOp .Eq) oEq:=by
 calcλb s k H x y v u Q I c f ⟨F,d,e,K,a,g,h,q,i⟩↦(rY I 60 q.1 ⋯ (g.is a) (h.is a) c f).2 _ _ _ _ ⟨.bl _,H,I,Y,i _ _ _ q.2 (λ_ _ e=>e) Y⟩
theorem CJ(j:X.A.units+64<cLine):eE X (compareOp .NotEq) hD:=by
 calcλb s k H x y v u Q I c f ⟨F,d,e,K,a,g,h,q,i⟩↦Nl I q.1 ⋯ (g.is a) (h.is a) c f _ _ _ _ ⟨.bl _,H,I,Y,i _ _ _ q.2 (λ_ _ e=>e) Y⟩
def oLt:D->D->(D->Prop)->Prop
 |.int i,.int j,K=>K (.bl (μ (i<j)))
 |.tup a,.tup b,K=>match intsOf a,intsOf b with
  |some c,some d=>K (.bl (HT.lexLt c d))
  |_,_=>False
 |_,_,_=>False
theorem CK(D:X.A.units+64<cLine):eE X (compareOp .Lt) oLt:=by
 ext c s k H x y v u Q I l m ⟨F,d,e,K,f,g,h,q,n⟩;unfold oLt at q;split at q
 .rename_i i j
  exact AB c s k H x y v u Q I l m (zI2 i j ⟨g,h,n _ _ _ q (λ_ _ e=>e) Y⟩)
 .split at q
  .rename_i z w t r
   rw[nY t] at g;rw[nY r] at h;let⟨a,E,rfl,o,B⟩:22:=g;let⟨b,G,rfl,p,C⟩:22:=h;rw[jZ B] at o;rw[jZ C] at p;exact Kq ⋯ c s k H _ _ v u Q I l m (zI4 a b z w ⟨Y,Y,bE.of (f _ _ o),bE.of (f _ _ p),n _ _ _ q (λ_ _ e=>e) Y⟩)
  .exact q.elim
 .calc q.elim
theorem CL:eE X (compareOp .LtE) (oI λi j=>.bl (μ (i<=j))):=rZ JL λ_ _ _=>Y
theorem CM:eE X (compareOp .Gt) (oI λi j=>.bl (μ (j<i))):=rZ JM λ_ _ _=>Y
theorem Nr:eE X (compareOp .GtE) (oI λi j=>.bl (μ (j<=i))):=rZ JN λ_ _ _=>Y
def jH(d e:D)(K:D->Prop):Prop:=match e with
 |.non=>(match d with
  |.non=>K (.bl θ)
  |.bl _=>K (.bl ι)
  |.int _=>K (.bl ι)
  |.str _=>K (.bl ι)
  |.tup _=>K (.bl ι)
  |.lst _=>K (.bl ι))
 |_=>False
theorem CN{F H d e x y K}(b:g6 F H d x)(c:g6 F H e y)(q:jH d e K):y=.non/\K (.bl (μ (x=.non))):=by
 cases e<;>first|exact Xu q|skip
 refine⟨c,?_⟩
 cases d with
 |tup=>let⟨a,_,rfl,_⟩:=b;exact q
 |lst=>let⟨a,_,rfl,_⟩:=b;exact q
 |_=>let:=b;subst this;calc q
def wo:D->D->(D->Prop)->Prop:=λd e K=>jH d e λz=>match z with
 |.bl b=>K (.bl (!b))
 |_=>False
theorem Nt:eE X (compareOp .Is) jH:=by
 ext a s b H x y v u Q I c f ⟨F,d,e,K,g,h,i,q,j⟩;let⟨k,l⟩:=CN h i q;calc JO a s b H x y v u Q I c f ⟨k,j _ _ _ l (λ_ _ e=>e) Y⟩
theorem Nu:eE X (compareOp .IsNot) wo:=by
 ext a s b H x y v u Q I c f ⟨F,d,e,K,g,h,i,q,j⟩;let⟨k,l⟩:=CN h i q;calc JP a s b H x y v u Q I c f ⟨k,j _ _ _ l (λ_ _ e=>e) Y⟩
def dt(b:Bool):D->D->(D->Prop)->Prop
 |d,.lst a,K=>bD a<=55/\K (.bl (if b then !(a.any λe=>aD e d) else a.any λe=>aD e d))
 |d,.tup a,K=>bD a<=55/\K (.bl (if b then !(a.any λe=>aD e d) else a.any λe=>aD e d))
 |_,_,_=>False
meta def gQ(H:Hp)(d:D)(u:ν):Bool:=by
 classical calc if ∃e v,Is H e v/\RelV v u/\aD e d=θ then θ else ι
theorem CO{H d e v u}(h:Is H e v)(r:RelV v u):gQ H d u=aD e d:=by
 unfold gQ;split
 .rename_i z
  let⟨c,f,a,b,q⟩:22:=z;let:=b.inj r;subst this;rw[Is.inj h a];exact q.symm
 .rename_i z
  cases q:aD e d with
  |false=>rfl
  |true=>calc absurd ⟨e,v,h,r,q⟩ z
theorem pQ{H d}:∀{es vs us},ah H es vs->Vals vs us->us.any (gQ H d)=es.any λe=>aD e d
 |[],a,b,h,r=>by subst h;cases r;rfl
 |e::j,a,b,h,r=>by
  let⟨v,t,rfl,c,f⟩:22:=h
  cases r with
  |cons g i=>rw[Zg,Zg,CO c g,pQ f i]
theorem pR{b}{j:St}{H s}(I:Inv X b j H s){A}(c:A.units+60<cLine){d x w}(hd:Is H d x)(f:RelV x w):∀{es vs us},bD es<=55->ah H es vs->Vals vs us->∀u∈us,q0j A s u w (gQ H d u)
 |[],k,l,_,h,r=>by subst h;cases r;ext u c;cases c
 |e::p,k,l,m,h,r=>by
  let⟨v,t,rfl,g,n⟩:22:=h;erw[bD] at m
  cases r with
  |cons i o =>
   ext u a;rcases KN.mp a with rfl|a
   .rw[CO g i];exact(rY I 55 ⋯ ⋯ g hd i f).1
   .calc pR I c hd f ⋯ n o u a
theorem CP(z:X.A.units+64<cLine):eE X (compareOp .In) (dt ι):=by
 ext j s B H x y v u Q I k l ⟨F,d,e,K,b,m,n,q,o⟩;unfold dt at q;split at q
 .let⟨a,t,rfl,g,h⟩:=n
  cases l
  let⟨c,r,p⟩:=c_ I g;let f:=h.same b;calc SeqAt.in_listAt (gQ H d) p (λw i=>pR I (by rw[in1_units];symm) (m.is b) k q.1 f r w i⁻¹) ⟨.bl _,H,I,Y,?_⟩;rw[show c.toArray.any (gQ H d)=c.any (gQ H d) by simp,pQ f r];exact o _ _ _ q.2 (λ_ _ e=>e) Y
 .let⟨a,t,rfl,g,h⟩:=n
  cases l
  let⟨c,r,p⟩:=dc I (b _ _ g);let f:=h.same b;calc SeqAt.in_tupleAt (gQ H d) p (λw i=>pR I (by rw[in1_units];symm) (m.is b) k q.1 f r w i⁻¹) ⟨.bl _,H,I,Y,?_⟩;rw[show c.toArray.any (gQ H d)=c.any (gQ H d) by simp,pQ f r];exact o _ _ _ q.2 (λ_ _ e=>e) Y
 .calc q.elim
theorem CQ(z:X.A.units+64<cLine):eE X (compareOp .NotIn) (dt θ):=by
 ext j s B H x y v u Q I k l ⟨F,d,e,K,b,m,n,q,o⟩;unfold dt at q;split at q
 .rename_i C
  let⟨a,t,rfl,g,h⟩:=n;cases l
  let⟨c,r,p⟩:=c_ I g;let f:=h.same b;calc SeqAt.notIn_listAt (gQ H d) p (λw i=>pR I (by rw[in1_units];symm) (m.is b) k q.1 f r w i⁻¹) ⟨.bl _,H,I,Y,?_⟩;rw[show c.toArray.any (gQ H d)=c.any (gQ H d) by simp,pQ f r];exact o _ _ _ q.2 (λ_ _ e=>e) Y
 .let⟨a,t,rfl,g,h⟩:=n
  cases l
  let⟨c,r,p⟩:=dc I (b _ _ g);let f:=h.same b;calc SeqAt.notIn_tupleAt (gQ H d) p (λw i=>pR I (by rw[in1_units];symm) (m.is b) k q.1 f r w i⁻¹) ⟨.bl _,H,I,Y,?_⟩;rw[show c.toArray.any (gQ H d)=c.any (gQ H d) by simp,pQ f r];exact o _ _ _ q.2 (λ_ _ e=>e) Y
 .calc q.elim
def aE(d e:D)(K:D->Prop):Prop:=match e with
 |.int i=>(match d with
  |.lst a=>(match eD a i with|some d=>K d|none=>False)
  |.tup a=>(match eD a i with|some d=>K d|none=>False)
  |.str z=>↑z<=1000/\(match eD z.cps.toList i with|some c=>K (.str ⟨#[c]⟩)|none=>False)
  |_=>False)
 |_=>False
theorem CT{F ds vs i d}(h:ah F ds vs)(e:eD ds i=ζ d):∃v,eD vs i=ζ v/\Is F d v:=by
 unfold eD at e ⊢;rw[↑h]
 cases q:gY ↑ds i with
 |none=>rw[q] at e;cases e
 |some j =>
  rw[q] at e;calc nX h (e)
theorem pS:B8 X aE:=by
 ext b f g s k H x y v u Q I l m ⟨F,d,e,K,h,n,o,q,p⟩ r;cases d<;>cases e<;>first|exact Xu q|rename_i D i
 .let⟨E,q⟩:=q
  split at q
  .rename_i c j
   cases n
   exact Kt b f g s k H _ _ v u Q I l m (zI3 D i c ⟨Y,o,jd E,j,p _ _ _ q (λ_ _ e=>e) Y⟩) r
  .exact q.elim
 .dsimp only [aE] at q
  split at q
  .rename_i G j
   let⟨a,t,rfl,z,A⟩:=n;let⟨w,B,C⟩:=CT A j;exact AX b f g s k H _ _ v u Q I l m (zI4 a t i w ⟨Y,o,bE.of (h _ _ z),B,p _ _ _ q (λ_ _ e=>e) (pO h C)⟩) r
  .exact q.elim
 .dsimp only [aE] at q
  split at q
  .rename_i G j
   let⟨a,t,rfl,z,A⟩:=n;let⟨w,B,C⟩:=CT A j;exact rz b f g s k H _ _ v u Q I l m (zI4 a t i w ⟨Y,o,bf.of z,B,p _ _ _ q (λ_ _ e=>e) (pO h C)⟩) r
  .calc q.elim
meta def cutD(ds:-D)(a b:Option Int):-D:=(ds.drop (HT.bo ↑ds 0 a)).take (HT.bo ↑ds ↑ds b-HT.bo ↑ds 0 a)
theorem CU{F ds vs}(h:ah F ds vs) a b:ah F (cutD ds a b) (dq vs a b):=by
 unfold cutD dq;rw[↑h];calc CF _ (wj _ h)
abbrev WO:=aH->(Option Int->aH->Prop)->Prop
def r9(f:WO):TO:=λe H Q=>∃F g c K,SR F g c e H/\f c K/\∀o a,K o a->∀h b d,Ext F g c.mu H h b a.mu d->SR h b a e d->Q o d
def dP:WO:=λa K=>K η a
def iy(f:WE):WO:=λb K=>f b λx a=>match x with
 |.p (.int i)=>K (ζ i) a
 |_=>False
theorem Nv:PO X η (r9 dP):=λa s c H Q I b=>by let⟨F,d,e,K,S,q,k⟩:42:=b;calc AR a s c H Q I (k _ _ q _ _ _ .refl S)
theorem Nx{e f}(h:JE X e (tD f)):PO X (ζ e) (r9 (iy f)):=λa s d H Q I b=>by let⟨F,g,j,K,S,q,k⟩:42:=b;exact rq h a s d H Q I ⟨F,g,j,_,S,q,λx l c v r m t n o p=>by
 split at c
 .rename_i i
  exact⟨i,p,k _ _ c _ _ _ n o⟩
 .calc c.elim⟩
def kP:D->(D->Prop)->Prop
 |.int i,K=>K (.int (-(i:Int)))
 |_,_=>False
theorem Ny{e f pos}(he:JE X e (tD f)):JE X (.UnaryOp .USub e pos) (tD (d1 f kP)) :=
 (Jt Jy he).weak λp H Q ⟨F,c,g,K,S,q,k⟩↦⟨F,c,g,_,S,q,λx h j v r l s m b n=>by
  let⟨d,a,o⟩:=gF b n j;unfold kP at a;split at a
  .rename_i i
   exact⟨i,o,k _ _ a _ _ _ _ m b Y⟩
  .calc a.elim⟩
def r_(f g h:WE)(o o':D->D->(D->Prop)->Prop):WE:=λj K=>f j λx i=>g i λy a=>fh x a λd=>fh y a λe=>o d e λz=>match z with
 |.bl true=>h a λw b=>fh y b λk=>fh w b λc=>o' k c λl=>K (.p l) b
 |.bl false=>K (.p (.bl ι)) a
 |_=>False
theorem Nz{a b c f g h op i}{o o':D->D->(D->Prop)->Prop}{pos}(N:eE X (compareOp op) o)(r:eE X (compareOp i) o')(O:JE X a (tD f))(P:JE X b (tD g))(R:JE X c (tD h))
  (T:autoParam (lastMarks [op,i] [b,c]=ι) qz6._auto_1):JE X (.Compare a [op,i] [b,c] pos) (tD (r_ f g h o o')) :=
 (JV N r O P R T).weak fun σ H Q ⟨F,U,V,K,S,q,k⟩=>by
  calc⟨F,U,V,_,S,q,λx s W v1 Y t H1 I Z V1=>⟨Y,t,s,_,Z,W,λy u h2 v2 F2 A H2 B l J=>?_⟩⟩;let⟨d,h3,rd⟩:=gF l (V1.ext B) h2;let⟨e,h4,re⟩:=gF l J h3;calc⟨F2,d,e,_,l.sub,rd,re,h4,λz v H' j m p=>?_⟩;let L:=l.al m;let C:=Ext.al l m;split at j
  .refine⟨θ,p,⟨_,A,u,_,L,j,λw δ4 h5 v4 F4 Cg H4 M n V4=>?_⟩⟩
   let⟨d',h6,E⟩:=gF n ((J.ext C).ext M) h5;let⟨e',h7,G⟩:=gF n V4 h6;exact⟨F4,d',e',_,n.sub,E,G,h7,λz v H' j m p=>k _ _ j _ _ _ _ ((((I.trans B).trans C).trans M).trans (Ext.al n m)) (n.al m) p⟩
  .exact⟨ι,p,k _ _ j _ _ _ _ ((I.trans B).trans C) L rfl⟩
  .calc j.elim
end
meta def sortI(ns:-Int):-Int:=ns.mergeSort λa b=>μ (a<=b)
theorem sortI_perm ns:(sortI ns).Perm ns:=List.mergeSort_perm ns _
theorem sb ns:(sortI ns).Pairwise (· <= ·):=by
 let:=List.pairwise_mergeSort (le:=λa b  => μ (a<=b)) (λa b c d e=>by simp at *;symm) (λa b=>by simp;symm) ns;calc this.imp λh=>by simpa using h
theorem CV:∀{as c:-Int},as.Perm c->as.Pairwise (· <= ·)->c.Pairwise (· <= ·)->as=c
 |[],c,p,_,_=>p.nil_eq
 |a::d,[],p,_,_=>absurd p.length_eq (by simp)
 |a::d,b::c,p,s,t=>by
  let e:a=b:=by
   let f:a<=b:=by
    rcases KN.mp (p.mem_iff.mpr (Vr ..)) with h|h
    .omega
    .exact (Ya.mp s).1 b h
   let g:b<=a:=by
    rcases KN.mp (p.mem_iff.mp (Vr ..)) with h|h
    .omega
    .exact (Ya.mp t).1 a h
   symm
  subst e;rw[CV (List.perm_cons a |>.mp p) (Ya.mp s).2 (Ya.mp t).2]
theorem pT{as a}(p:as.Perm a)(s:as.Pairwise (· <= ·)):as=sortI a:=CV (p.trans (sortI_perm a).symm) s (sb a)
theorem sd ns:↑(sortI ns)=ns.length:=(sortI_perm ns).length_eq
def bH(ds:-D)(K:D->Prop):Prop:=match ds with
 |[d]=>(match d with
  |.lst a=>K (.int ↑a)
  |.tup a=>K (.int ↑a)
  |.str z=>↑z<=1000/\K (.int ↑z)
  |_=>False)
 |_=>False
def wq(ds:-D)(K:D->Prop):Prop:=match ds with
 |[d]=>(match d with
  |.lst a=>K (.lst a)
  |.tup a=>K (.lst a)
  |_=>False)
 |_=>False
def wt(ds:-D)(K:D->Prop):Prop:=match ds with
 |[d]=>(match d with
  |.lst a=>K (.tup a)
  |.tup a=>K (.tup a)
  |_=>False)
 |_=>False
def gR:-D->(D->Prop)->Prop
 |[.lst b],K=>match intsOf b with
  |some a=>↑a<64/\K (.lst ((sortI a).map D.int))
  |none=>False
 |_,_=>False
meta def nZ:-D->Option (-Bool)
 |[]=>ζ []
 |.bl b::r=>match nZ r with
  |some a=>ζ (b::a)
  |none=>η
 |_=>η
theorem wu:∀a:-Bool,nZ (a.map D.bl)=ζ a
 |[]=>Y
 |n::r=>by show(match nZ (r.map D.bl) with|some b=>ζ (n::b)|none=>η)=_;rw[wu r]
theorem CW:∀{ds b},nZ ds=ζ b->ds=b.map D.bl
 |[],a,h=>by cases h;rfl
 |.bl i::r,a,h=>by
  unfold nZ at h;split at h
  .rename_i c e;cases h;rw[Xm,CW e]
  .cases h
 |.non::r,a,h=>by cases h
 |.int _::r,a,h=>by cases h
 |.str _::r,a,h=>by cases h
 |.tup _::r,a,h=>by cases h
 |.lst _::r,a,h=>by cases h
theorem wx{F}:∀{a:-Bool}{vs},ah F (a.map D.bl) vs->vs=a.map V.bl
 |[],b,h=>h
 |n::r,b,h=>by
  let⟨v,t,rfl,c,d⟩:22:=h;rw[wx d,c];rfl
def jI:-D->(D->Prop)->Prop
 |[.lst a],K=>match nZ a with
  |some b=>K (.bl (b.all id))
  |none=>False
 |_,_=>False
def pU(ds:-D)(K:D->Prop):Prop:=match ds with
 |[d,e]=>(match d with|.int i=>(match e with|.int j=>K (.int (min i j))|_=>False)|_=>False)
 |_=>False
def wy(ds:-D)(K:D->Prop):Prop:=match ds with
 |[d,e]=>(match d with|.int i=>(match e with|.int j=>K (.int (max i j))|_=>False)|_=>False)
 |_=>False
section
variable{X:Cx}
theorem f9{F H d xs}(h:gG F H [d] xs):∃v,xs=[v]/\g6 F H d v:=by
 let⟨v,r,rfl,a,b⟩:22:=h;subst b;calc⟨v,Y,a⟩
theorem CY{F H d e xs}(h:gG F H [d,e] xs):∃v w,xs=[v,w]/\g6 F H d v/\g6 F H e w:=by
 let⟨v,r,rfl,a,b⟩:22:=h;let⟨w,rfl,c⟩:=f9 b;calc(zI2 v w ⟨Y,a,c⟩)
theorem NA:cG X (.builtin "len") bH:=by
 ext b s c H p f Q I r ⟨F,n,K,g,i,q,j⟩;rcases n with _|⟨d,_|⟨t,r⟩⟩<;>try exact Xu q
 cases d<;>first|exact Xu q|rename_i o
 .let⟨v,rfl,h⟩:=f9 i
  subst h;exact Ky b s c H _ f Q I r ⟨o,Y,jd q.1,j _ _ _ q.2 (λ_ _ e=>e) Y⟩
 .let⟨v,rfl,h⟩:=f9 i
  let⟨a,k,rfl,l,m⟩:=h;exact AZ b s c H _ f Q I r ⟨a,k,Y,.inr (bE.of (g _ _ l)),by rw[↑m];calc j _ _ _ q (λ_ _ e=>e) Y⟩
 .let⟨v,rfl,a,k,rfl,l,m⟩:=f9 i
  calc AZ b s c H _ f Q I r ⟨a,k,Y,.inl (bf.of l),by rw[↑m];calc j _ _ _ q (λ_ _ e=>e) Y⟩
theorem NB:cG X (.type "list") wq:=by
 ext b s j H p k Q I r ⟨F,o,K,c,m,q,n⟩;rcases o with _|⟨d,_|⟨t,r⟩⟩<;>try exact Xu q
 cases d<;>first|exact Xu q|rename_i u
 .let⟨v,rfl,h⟩:=f9 m
  let⟨a,f,rfl,g,i⟩:=h;exact vn b s j H _ k Q I r ⟨a,f,Y,.inr (bE.of (c _ _ g)),λl e=>n _ _ _ q (b_ e) (j3 c e i)⟩
 .let⟨v,rfl,a,f,rfl,g,i⟩:=f9 m
  calc vn b s j H _ k Q I r ⟨a,f,Y,.inl (bf.of g),λl e=>n _ _ _ q (b_ e) (j3 c e i)⟩
theorem NC:cG X (.type "tuple") wt:=by
 ext b s i H u j Q I r ⟨F,p,K,c,k,q,m⟩;rcases p with _|⟨d,_|⟨w,r⟩⟩<;>try exact Xu q
 cases d<;>first|exact Xu q|rename_i x
 .let⟨v,rfl,h⟩:=f9 k
  let t:=h;let⟨a,f,rfl,g,n⟩:22:=h;exact A0 b s i H _ j Q I r (zI2 a f ⟨Y,.inr ⟨bE.of (c _ _ g),m _ _ _ q (λ_ _ e=>e) (pO c t)⟩⟩)
 .let⟨v,rfl,a,f,rfl,g,n⟩:=f9 k
  calc A0 b s i H _ j Q I r (zI2 a f ⟨Y,.inl ⟨bf.of g,λl o=>m _ _ _ q (b_ o) (wk c o n)⟩⟩)
theorem ND:cG X (.builtin "sorted") gR:=by
 ext b s h H t i Q I r ⟨F,u,K,c,j,q,k⟩;unfold gR at q;split at q
 .split at q
  .rename_i m e
   let⟨v,rfl,a,w,rfl,d,f⟩:1122:=f9 j;rw[nY e] at f;rw[jZ f] at d;calc B3 b s h H _ i Q I r (zI2 a m ⟨Y,bf.of d,q.1,λl n o p g=>?_⟩);rw[pT o p];exact k _ _ _ q.2 (b_ g) (j3 c g j2)
  .exact q.elim
 .calc q.elim
theorem NF(f:X.calm=θ):cG X (.builtin "all") jI:=by
 ext b s g H m h Q I r ⟨F,n,K,i,j,q,k⟩;unfold jI at q;split at q
 .split at q
  .rename_i l e
   let⟨v,rfl,a,o,rfl,c,d⟩:1122:=f9 j;rw[CW e] at d;rw[wx d] at c;exact Md f b s g H _ h Q I r (zI2 a l ⟨Y,bf.of c,k _ _ _ q (λ_ _ e=>e) Y⟩)
  .exact q.elim
 .calc q.elim
theorem NG(b:X.calm=θ):cG X (.builtin "min") pU:=by
 ext a s c H o f Q I r ⟨F,g,K,h,k,q,l⟩;rcases g with _|⟨d,_|⟨e,_|⟨p,r⟩⟩⟩<;>try exact Xu q
 cases d<;>try exact Xu q
 cases e<;>first|exact Xu q|rename_i i j
 .let⟨v,w,rfl,m,n⟩:22:=CY k
  subst m n;calc JZ b a s c H _ f Q I r (zI2 i j ⟨Y,?_⟩);let:(if j<i then j else i)=min i j:=by split<;>symm
  rw[this];calc l _ _ _ q (λ_ _ e=>e) Y
theorem NH(b:X.calm=θ):cG X (.builtin "max") wy:=by
 ext a s c H o f Q I r ⟨F,g,K,h,k,q,l⟩;rcases g with _|⟨d,_|⟨e,_|⟨p,r⟩⟩⟩<;>try exact Xu q
 cases d<;>try exact Xu q
 cases e<;>first|exact Xu q|rename_i i j
 .let⟨v,w,rfl,m,n⟩:22:=CY k
  subst m n;calc JY b a s c H _ f Q I r (zI2 i j ⟨Y,?_⟩);let:(if j>i then j else i)=max i j:=by split<;>symm
  rw[this];calc l _ _ _ q (λ_ _ e=>e) Y
def n5(b:WA):WE:=λc K=>b c λd a=>match d with
 |[.p (.int j)]=>(0<=j/\j<=1000)/\K (.p (.lst (cb 0 j.toNat))) a
 |_=>False
theorem j4 n:cb 0 n=(aZ n).map D.int:=by
 unfold cb aZ;rw[Xd];calc YH λi _=>?_;show D.int (0+i)=D.int i;rw[q3u]
theorem NI{a t x g y h}(z:X.calm=θ)(i:Gl X "list")(c:X.mg "list" = η)(m:bootBuiltins "list" = ζ (.type "list"))(n:Gl X "range")(A:X.mg "range" = η)(o:bootBuiltins "range" = ζ (.type "range"))(B:JA X [a] (bM t))
  (he:‹starEach [a] X.env=[(ι,eval a X.env)]›) (C:‹starEach [.Call (.Name "range" g) [a] [] h] X.env=[(ι,eval (.Call (.Name "range" g) [a] [] h) X.env)]›):JE X (.Call (.Name "list" x) [.Call (.Name "range" g) [a] [] h] [] y) (tD (n5 t)) :=
 (kE (BZ z) i c m (g0 (kE BX n A o B (he:=he)) a_)).weak λR H Q ⟨F,E,G,K,S,q,k⟩=>⟨F,E,G,_,S,q,λT I f U J L b M u N=>by
  split at f
  .rename_i j
   let⟨v,r,e,O,P⟩:22:=N;subst P O e;calc⟨j,Y,λd p=>(zI2 d j.toNat ⟨Y,by rw[bj,q2K f.1.1],⋯,λl c=>?_⟩)⟩;let w:ay b (upd b d (.rng 0 j)):=b_ p;let s:=u.al w;calc k _ _ f.2 _ _ _ _ ((M.trans (Ext.al u w)).trans (Ext.al s (b_ c))) (s.al (b_ c)) ?_;let:Is (Nw (Nw J b (upd b d (.rng 0 j))) (upd b d (.rng 0 j)) (upd (upd b d (.rng 0 j)) l (.lst ((aZ j.toNat).map V.int)))) (.lst ((aZ j.toNat).map D.int)) (.ref l):=j3 s.sub c j2;rw[j4];exact this
  .calc f.elim⟩
def eM(T:String):D->(D->Prop)->Prop:=λd K=>K (.bl (cP (fg d) T))
theorem pV{T t a f p b pos}(l:∀d:D,Xk X.K (.type (fg d)) (.type T)=ζ (cP (fg d) T))(m:Gl X "isinstance")(n:X.mg "isinstance" = η)(c:Gl X t)(e:X.mg t=η)(g:bootBuiltins t=ζ (.type T))(o:JE X a (tD f))
  (h:t≠"__name__" := by decide) (i: ~~~(bB t)) (he:‹starEach [a,.Name t b] X.env=(ι,eval a X.env)::starEach [.Name t b] X.env›):JE X (.Call (.Name "isinstance" p) [a,.Name t b] [] pos) (tD (d1 f (eM T))) :=
 (l9 Lr m n q0T (iq o (iO (An c e g (v:=.ty T) Y h i) a_) he) (he:=he)).weak λE H Q ⟨F,r,s,K,S,q,k⟩↦⟨F,r,s,_,S,q,λx u w v G y I z j A=>by
  let⟨d,B,C⟩:=gF j A w
  calc(zI5 v (.ty T) (.type T) (.type (fg d)) _ ⟨Y,Y,Is.ty (C.is j.sub),l d,k _ _ B _ _ _ _ z j Y⟩)⟩
theorem NJ{K}:∀d:D,Xk K (.type (fg d)) (.type "int")=ζ (cP (fg d) "int"):=λd=>Lz _ (pj d)
theorem NK{K}:∀d:D,Xk K (.type (fg d)) (.type "bool")=ζ (cP (fg d) "bool"):=λd=>Ly _ (pj d)
theorem NL{K}:∀d:D,Xk K (.type (fg d)) (.type "str")=ζ (cP (fg d) "str"):=λd=>LA _ (pj d)
theorem NM{K}:∀d:D,Xk K (.type (fg d)) (.type "tuple")=ζ (cP (fg d) "tuple"):=λd=>kit_tuple _ (pj d)
theorem NN{K}:∀d:D,Xk K (.type (fg d)) (.type "list")=ζ (cP (fg d) "list"):=λd=>LB _ (pj d)
def fD(x:DV)(c:aH)(K:Nat->(-D->OV)->-D->Prop):Prop:=match x with
 |.o k=>match c.mu[k]? with
  |some (some (.lst b))=>K k OV.lst b
  |some (some (.al a b))=>K k (OV.al a) b
  |_=>False
 |_=>False
theorem mI{F H f g q x v}{K:Nat->(-D->OV)->-D->Prop}(S:SR F f g q H)(p:dB F f x v)(h:fD x g K):∃k B ds a vs,x=.o k/\K k B ds/\v=.ref a/\f[k]?=ζ a/\H a=ζ (.lst vs)/\ah F ds vs/\g.mu[k]?=ζ (ζ (B ds))/\∀{F' es us},ah F' es us->eT F' a (B es) (.lst us):=by
 unfold fD at h;split at h
 .rename_i k
  split at h
  .rename_i j e
   let⟨a,c,rfl⟩:11:=p;let⟨a',o,d,m,l,rfl,n⟩:2211:=S.mu k _ e;rw[c] at d;cases d;exact(zI5 k _ j a l ⟨Y,h,Y,c,m,n,e,λi=>⟨_,Y,i⟩⟩)
  .rename_i b j e
   let⟨a,c,rfl⟩:=p;let⟨a',o,d,m,z,l,rfl,n⟩:2311:=S.mu k _ e;rw[c] at d;cases d;exact(zI5 k _ j a l ⟨Y,h,Y,c,m,n,e,λi=>⟨z,_,Y,i⟩⟩)
  .exact h.elim
 .calc h.elim
def fE(f:WE)(g:WA):WE:=λh K=>f h λx b=>fD x b λ_ _ _=>g b λi c=>match i with
 |[y]=>jE y c λd a=>fD x a λk B e=>↑e<1000/\K (.p .non) ⟨a.sl,a.mu.set k (ζ (B (e++[d])))⟩
 |_=>False
theorem NO{f n C}:∀g H Q,tD (fE f n) g H Q->nD C "list" Bb (tD f) (bM n) g H Q:=λg H Q ⟨F,D,E,K,S,q,k⟩=>⟨F,D,E,_,S,q,λx h G v I i H1 J o p=>by
 let⟨k0,B0,L,a,M,rfl,N,rfl,e1,O,i1,m1,P⟩:57:=mI o p G;refine⟨.inl ⟨rfl,M,bf.of O⟩,I,i,h,_,o,N,λR T U us F2 V H2 s W X=>?_⟩
 match R,U,X with
 |[y],c,⟨u,r,e,Y,Z⟩ =>
  subst Z e;let⟨d,δ3,F3,h4,t,j,i3⟩:33:=mB W Y c;let⟨k1,B,ds,b,ws,ek,h5,eb,w,e4,z,A,l⟩:57:=mI  j ((p.ext s).ext t) h4;let m:=by injection eb
  subst m;exact(zI3 a ws u ⟨rfl,rfl,e4,lz (by rw[↑z];symm),k _ _ h5.2 _ _ _ _ (((J.trans s).trans t).trans (Ext.put j A w)) (j.put A w (l  (z.snoc i3))) rfl⟩)
 |[],c,_=>exact c.elim
 |_::_::_,c,_=>calc c.elim⟩
def mJ(f:WE)(e:WA):WE:=λg K=>f g λx b=>fD x b λ_ _ _=>e b λh a=>match h with
 |[.p (.lst c)]=>fD x a λk B d=>↑d+↑c<=1000/\K (.p .non) ⟨a.sl,a.mu.set k (ζ (B (d++c)))⟩
 |_=>False
theorem NP{f m A}:∀d H Q,tD (mJ f m) d H Q->nD A "list" Bd (tD f) (bM m) d H Q:=λd H Q ⟨F,C,D,K,S,q,k⟩=>⟨F,C,D,_,S,q,λx g E v G h H1 I n o=>by
 let⟨k0,B0,J,a,L,rfl,M,rfl,e1,N,i1,m1,O⟩:57:=mI n o E;calc⟨.inl ⟨rfl,L,bf.of N⟩,G,h,g,_,n,M,λys P i us F2 R H2 p c T=>?_⟩;split at i
 .let⟨u,r,e,U,V⟩:22:=T
  let⟨b,W,rfl,X,s⟩:22:=U;subst V e;let⟨k1,B,ds,b',Y,ek,t,Z,w,e4,y,z,j⟩:57:=mI  c (o.ext p) i;let l:=by injection Z
  subst l;exact(zI4 a b Y W ⟨rfl,rfl,e4,c.sub _ _ X,jd (by rw[↑y,↑s];calc t.1),k _ _ t.2 _ _ _ _ ((I.trans p).trans (Ext.put c z w)) (c.put z w (j  (mH y s))) rfl⟩)
 .calc i.elim⟩
def n6(f:WE)(e:WA):WE:=λg K=>f g λx b=>fD x b λ_ _ _=>e b λh a=>match h with
 |[.p (.int i)]=>fD x a λk B c=>(-(2 ^ 63)<=i/\i<2 ^ 63)/\match seqIndex? i ↑c with
  |some j=>match c[j]? with
   |some d=>K (.p d) ⟨a.sl,a.mu.set k (ζ (B (c.eraseIdx j)))⟩
   |none=>False
  |none=>False
 |_=>False
theorem NQ{f s E}:∀c H Q,tD (n6 f s) c H Q->nD E "list" Be (tD f) (bM s) c H Q:=λc H Q ⟨F,G,I,K,S,q,k⟩=>⟨F,G,I,_,S,q,λx g J v L h H1 M t y=>by
 let⟨k0,B0,N,a,O,rfl,P,rfl,e1,R,i1,m1,T⟩:57:=mI t y J;calc⟨.inl ⟨rfl,O,bf.of R⟩,L,h,g,_,t,P,λys U l us F2 V H2 z m W=>?_⟩;split at l
 .rename_i i
  let⟨u,r,e,X,Y⟩:22:=W;subst Y X e;let⟨k1,B,ds,b',Z,ek,⟨A,b⟩,eb,C,e4,n,D,o⟩:57:=mI  m (y.ext z) l;let p:=by injection eb
  subst p;split at b
  .rename_i j hj
   split at b
   .rename_i d hd
    let⟨w,g1,g2⟩:=nX n hd;exact(zI5 a Z i j w ⟨rfl,rfl,e4,A.1,A.2,by rw[↑n];calc hj,g1,k _ _ b _ _ _ _ ((M.trans z).trans (Ext.put m D C)) (m.put D C (o  (CH j n))) g2⟩)
   .exact b.elim
  .exact b.elim
 .calc l.elim⟩
def lF(f h l:WE):WS:=λK n=>f n λx b=>h b λo c=>l c λi e=>jE x e λd a=>fD o a λk B g=>match i with
 |.p (.int j)=>match gY ↑g j with
  |some m=>K.nx ⟨a.sl,a.mu.set k (ζ (B (g.set m d)))⟩
  |none=>False
 |_=>False
theorem NR[bV]{f s t}:∀D c H,cB (lF f s t) D c H->dm (tD f) (oP (tD s) (tD t) AY) D c H:=λD c H ⟨F,C,E,K,S,q,k⟩↦⟨F,C,E,_,S,q,λx e G v I g H1 J L M=>⟨I,g,e,_,L,G,λo h N ov O l H2 u P Q=>⟨O,l,h,_,P,N,λi R T iv F3 U H3 n V W=>by
 let⟨d,X,F4,Y,w,p,Z⟩:33:=mB V ((M.ext u).ext n) T;let⟨k0,B,ds,a,vs,rfl,b,rfl,y,e2,z,A,r⟩:57:=mI p ((Q.ext n).ext w) Y;split at b
 .rename_i j
  split at b
  .rename_i m hm
   subst W;exact(zI4 a vs j m ⟨rfl,rfl,e2,by rw[↑z];calc hm,k.nx _ b _ _ _ _ ((((J.trans u).trans n).trans w).trans (Ext.put p A y)) (p.put A y (r  (CG m z Z)))⟩)
  .exact b.elim
 .calc b.elim⟩⟩⟩
def cf:D->-D->(D->Prop)->Prop
 |.lst a,[d],K=>(eF d=θ/\a.all eF=θ)/\K (.int (a.countP λe=>aD e d:Nat))
 |_,_,_=>False
where eF:D->Bool
 |.tup _=>ι
 |.lst _=>ι
 |_=>θ
meta def toV:D->V
 |.non=>.non
 |.bl b=>.bl b
 |.int i=>.int i
 |.str x=>.str x
 |_=>.non
theorem CZ{F d v}(a:cf.eF d=θ)(h:Is F d v):v=toV d/\ir v=θ:=by
 cases d with
 |non=>cases(h);exact⟨Y,Y⟩
 |bl _=>cases(h);exact⟨Y,Y⟩
 |int _=>cases(h);exact⟨Y,Y⟩
 |str _=>cases(h);exact⟨Y,Y⟩
 |tup _=>cases a
 |lst _=>cases a
theorem NS{d e}(hd:cf.eF d=θ)(he:cf.eF e=θ):eZ (toV e) (toV d)=aD e d:=by
 cases d<;>cases e<;>first|(cases hd;done)|(cases he;done)|(simp[toV,eZ,aD])
theorem count_is{F d}(hd:cf.eF d=θ):∀{ds vs},ds.all cf.eF=θ->ah F ds vs->vs.all ir=θ/\vs.countP (λz=>eZ z (toV d))=ds.countP λe=>aD e d
 |[],b,_,h=>by subst h;exact⟨Y,Y⟩
 |e::r,b,a,h=>by
  let⟨v,t,rfl,c,f⟩:22:=h;erw[ZU,Xs] at a;let⟨g,i⟩:=CZ a.1 c;let⟨j,k⟩:=count_is hd a.2 f;calc⟨by rw[ZU,i,j];rfl,?_⟩;rw[Yz,Yz,k,g,NS hd a.1]
meta def oD:D->Bool
 |.lst _=>θ
 |_=>ι
def kQ(f:WE)(c:WA)(op:D->-D->(D->Prop)->Prop):WE:=λe K=>f e λx b=>fh x b λg=>oD g=θ/\c b λh a=>fh x a λd=>g7 h a λi=>op d i λz=>K (.p z) a
theorem NU{f m n}{op:D->-D->(D->Prop)->Prop}{r:V->-V->Hp->VK->Prop}(w:∀x xs H Q,(Mm op x xs H Q)->r x xs H Q):∀e H Q,tD (kQ f m op) e H Q->nD n "list" r (tD f) (bM m) e H Q:=λe H Q ⟨F,y,A,K,S,q,k⟩ =>
 ⟨F,y,A,_,S,q,λx g B v C h E G o p=>by
  let⟨I,⟨b,J⟩,i⟩:=gF o p B
  let L:vo n "list" v E:=by
   cases I with
   |lst es=>let⟨a,s,rfl,j,_⟩:22:=i;exact .inl ⟨rfl,s,bf.of j⟩
   |non=>cases b
   |bl _=>cases b
   |int _=>cases b
   |str _=>cases b
   |tup _=>cases b
  calc⟨L,C,h,g,_,o,J,λZ M j s N O H2 t c P=>w _ _ _ _ ?_⟩;let⟨d,R,T⟩:=gF c (p.ext t) j;let⟨U,W,l⟩:=mw c P R
  calc⟨N,d,U,_,c.sub,T,l,W,λz v H' X u Y=>k _ _ X _ _ _ _ ((G.trans t).trans (Ext.al c u)) (c.al u) Y⟩⟩
theorem NV{f g h}:∀i H Q,tD (kQ f g cf) i H Q->nD h "list" (BB h) (tD f) (bM g) i H Q:=NU λx v H Q ⟨F,d,y,K,j,k,c,q,l⟩=>by
 unfold cf at q;split at q
 .rename_i z e
  let⟨a,m,rfl,n,o⟩:22:=k;let⟨w,rfl,b⟩:=f9 c
  let p:Is F e w:=by
   cases e with
   |lst _=>cases q.1.1
   |tup _=>exact b
   |non=>exact b
   |bl _=>exact b
   |int _=>exact b
   |str _=>exact b
  let⟨r,s⟩:=CZ q.1.1 p;let⟨t,u⟩:=count_is q.1.1 q.1.2 o;calc(zI3 a m w ⟨Y,Y,bf.of n,s,t,?_⟩);rw[r,u];exact l _ _ _ q.2 (λ_ _ e=>e) Y
 .calc q.elim
end
end L2
namespace L2
open PySem PySem.Spec PyProof.Rows PySem.W
abbrev LK:=-Int
def kle(a b:LK):Prop:=HT.lexLt b a=ι
theorem pW:∀a:LK,HT.lexLt a a=ι
 |[]=>Y
 |x::r=>by rw[HT.jX,W_ Y];calc pW r
theorem pX:∀{a b:LK},HT.lexLt a b=ι->HT.lexLt b a=ι->a=b
 |[],[],_,_=>Y
 |[],_::_,h,_=>by cases h
 |_::_,[],_,h=>by cases h
 |x::r,y::s,h,q=>by
  rw[HT.jX] at h q
  by_cases c:x=y
  .subst c
   rw[W_ Y] at h q;rw[pX h q]
  .rw[Vq c] at h
   rw[Vq (λz=>c z.symm)] at q;simp at h q;symm
theorem sf:∀{a b c:LK},HT.lexLt a b=θ->HT.lexLt b c=θ->HT.lexLt a c=θ
 |[],[],_,h,_=>by cases h
 |[],_::_,[],_,q=>by cases q
 |[],_::_,_::_,_,_=>Y
 |_::_,[],_,h,_=>by cases h
 |_::_,_::_,[],_,q=>by cases q
 |x::r,y::s,z::t,h,q=>by
  rw[HT.jX] at h q ⊢
  by_cases e:x=y
  .subst e
   rw[W_ Y] at h
   by_cases d:x=z
   .subst d
    rw[W_ Y] at q ⊢;exact sf h q
   .rw[Vq d] at q ⊢;exact q
  .rw[Vq e] at h
   by_cases d:y=z
   .subst d
    rw[Vq e];exact h
   .rw[Vq d] at q
    let f:=by simpa using h
    let g:=by simpa using q
    rw[Vq ⋯];simp;symm
theorem kle_refl(a:LK):kle a a:=pW a
theorem lG{a b:LK}(h:HT.lexLt a b=θ):kle a b:=by
 unfold kle
 cases q:HT.lexLt b a with
 |false=>rfl
 |true=>let:=sf h q;rw[pW] at this;cases this
theorem kle_trans{a b c}(g:kle a b)(d:kle b c):kle a c:=by
 unfold kle at *
 cases q:HT.lexLt c a with
 |false=>rfl
 |true =>
  cases f:HT.lexLt a b with
  |true=>let:=sf q f;rw[d] at this;cases this
  |false =>
   let e:=pX f g;subst e;rw[d] at q;cases q
theorem pY{a b}(c:kle a b)(d:kle b a):a=b:=pX d c
section
variable{n:Nat}{k:Nat->LK}{I:ο->Prop}{cmp:Nat->Nat->(Bool->ο->Prop)->ο->Prop}
def lH(n:Nat)(k:Nat->LK)(I:ο->Prop)(a:Nat->Nat->(Bool->ο->Prop)->ο->Prop):Prop :=
 ∀(i j:Nat)(C:Bool->ο->Prop)(s:ο),i<n->j<n->I s->(∀b,I b->C (HT.lexLt (k i) (k j)) b)->a i j C s
meta def KA(k:Nat->LK)(p:Array Nat)(i:Nat):LK:=k (p.getD i 0)
structure dh(n:Nat)(p:Array Nat):Prop where
 perm:p.Perm (Xz n).toArray
theorem dh.size{p}(h:dh n p):p.size=n:=by let:=h.perm.size_eq;simpa using this
theorem dh.lt{p}(h:dh n p){i}(a:i<n):p.getD i 0<n:=by
 let b:=h.size;let e:p.getD i 0=p[i]:=by simp[q2X,b,a]
 rw[e];let:p[i]∈(Xz n).toArray:=(h.perm.mem_iff).mp (Array.getElem_mem _);simpa using this
theorem pZ{p q:Array Nat}{i j}(h:p[i]?=q[j]?):p.getD i 0=q.getD j 0:=by
 rw[X1,X1,h]
theorem sg{p i j}(hj:j<=p.size) t:KA k (kas_rev p i j) t=if i<=t/\t<j then KA k p (i+j-1-t) else KA k p t:=by
 let e:=getElem?_mirror_all  (i:=i) hj t;unfold KA kas_rev
 by_cases c:i<=t/\t<j
 .rw[W_ c] at e ⊢;rw[pZ e]
 .rw[Vq c] at e ⊢;rw[pZ e]
theorem NW{p src d}(b:src<p.size)(hd:d<=src) t :
  KA k (bubble p src d) t=if t=src-d then KA k p src else if src-d<t/\t<=src then KA k p (t-1) else KA k p t:=by
 let e:=getElem?_bubble b d hd t;unfold KA
 by_cases c:t=src-d
 .rw[W_ c] at e ⊢;rw[pZ e]
 .rw[Vq c] at e ⊢
  by_cases a:src-d<t/\t<=src
  .rw[W_ a] at e ⊢;rw[pZ e]
  .rw[Vq a] at e ⊢;rw[pZ e]
def Up(k:Nat->LK)(p:Array Nat)(m:Nat):Prop:=∀i j,i<=j->j<m->kle (KA k p i) (KA k p j)
def Dn(k:Nat->LK)(p:Array Nat)(m:Nat):Prop:=∀i j,i<=j->j<m->kle (KA k p j) (KA k p i)
theorem Up.snoc{p m}(h:Up k p m)(d:1<=m)(q:kle (KA k p (m-1)) (KA k p m)):Up k p (m+1):=λi j a f=>by
 by_cases c:j<m
 .exact h i j a c
 .let e:j=m:=by symm
  subst e
  by_cases b:i=j
  .subst b;exact kle_refl _
  .calc kle_trans (h i (j-1) ⋯ ⋯) q
theorem Dn.snoc{p m}(h:Dn k p m)(d:1<=m)(q:kle (KA k p m) (KA k p (m-1))):Dn k p (m+1):=λi j a f=>by
 by_cases c:j<m
 .exact h i j a c
 .let e:j=m:=by symm
  subst e
  by_cases b:i=j
  .subst b;exact kle_refl _
  .calc kle_trans q (h i (j-1) ⋯ ⋯)
theorem Up.one{p}:Up k p 1:=λi j a b=>by
 let:i=j:=by symm
 subst this;calc kle_refl _
theorem Dn.one{p}:Dn k p 1:=λi j a b=>by
 let:i=j:=by symm
 subst this;calc kle_refl _
theorem dh.rev{p}(h:dh n p) i j:dh n (kas_rev p i j):=⟨(mirror_perm _ _ _ _).trans h.perm⟩
theorem dh.NX{p}(h:dh n p) i j:dh n (bubble p i j):=⟨(bubble_perm _ _ _).trans h.perm⟩
theorem C0(r:lH n k I cmp){p}(j:dh n p):∀f m s Q,1<=m->m+f=n->Up k p m->I s →
  (∀g s',m<=g->g<=n->Up k p g->I s'->Q g s')->(kas_asc p f m).kasWp cmp Q s
 |0,m,s,Q,u,v,i,l,e=>e m s (vr _) ⋯ i l
 |f+1,m,s,Q,u,v,i,l,e=>by
  refine r _ _ _ s (j.lt ⋯) (j.lt ⋯) l λt h=>?_
  cases q:HT.lexLt (k (p.getD m 0)) (k (p.getD (m-1) 0)) with
  |true=>exact e m t (vr _) ⋯ i h
  |false =>
   calc C0 r j f (m+1) t Q ⋯ ⋯ (i.snoc u q) h λg o a b c d=>e g o ⋯ b c d
def wz(k:Nat->LK)(p:Array Nat)(m q:Nat):Prop:=∀t,m-(q+1)<=t->t<m->KA k p t=KA k p (m-1)
theorem C1{p m q}(a:m<=p.size)(b:q+1<=m)(e:wz k p m q) t:KA k (kas_rev p (m-(q+1)) m) t=KA k p t:=by
 rw[sg a];split
 .rename_i c
  rw[e _ ⋯ ⋯,e t c.1 c.2]
 .rfl
theorem Dn.congr{p c m}(h:Dn k p m)(e:∀t,KA k c t=KA k p t):Dn k c m:=λi j a b=>by rw[e,e];calc h i j a b
theorem sh(x:lH n k I cmp):∀(f:Nat)(p:Array Nat)(m q:Nat)(s:ο)(Q:Array Nat×Nat×Nat->ο->Prop),dh n p->1<=m->m+f=n->q+1<=m->Dn k p m->wz k p m q->I s →
  (∀r j u s',dh n r->m<=j->j<=n->u+1<=j->Dn k r j->wz k r j u->I s'->Q (r,j,u) s')->(kas_desc f p m q).kasWp cmp Q s
 |0,p,m,q,s,Q,l,C,L,D,w,y,F,h=>h p m q s l (vr _) ⋯ D w y F
 |f+1,p,m,q,s,Q,l,C,L,D,w,y,F,h=>by
  calc x _ _ _ s (l.lt ⋯) (l.lt ⋯) F λE v=>?_;let N:=l.size
  cases G:HT.lexLt (k (p.getD m 0)) (k (p.getD (m-1) 0)) with
  |true =>
   let H:=lG G
   by_cases A:q>0
   .rw[W_ A]
    let e:=C1     ⋯ D y;calc sh x f _ (m+1) 0 E Q (l.rev _ _) ⋯ ⋯ ⋯ ((w.snoc C H).congr e) (λt a b=>?_) v λr j u o a b c d e g i=>h r j u o a ⋯ c d e g i;let:t=m+1-1:=by symm
    rw[this]
   .rw[Vq A]
    calc sh x f p (m+1) 0 E Q l ⋯ ⋯ ⋯ (w.snoc C H) (λt a b=>?_) v λr j u o a b c d e g i=>h r j u o a ⋯ c d e g i;let:t=m+1-1:=by symm
    rw[this]
  |false =>
   refine x _ _ _ E (l.lt ⋯) (l.lt ⋯) v λJ B=>?_
   cases M:HT.lexLt (k (p.getD (m-1) 0)) (k (p.getD m 0)) with
   |true=>exact h p m q J l (vr _) ⋯ D w y B
   |false =>
    let K:KA k p m=KA k p (m-1):=pX G M;calc sh x f p (m+1) (q+1) J Q l ⋯ ⋯ ⋯ (w.snoc C (by rw[K];calc kle_refl _)) (λt a b=>?_) B λr j u o a b c d e g i=>h r j u o a ⋯ c d e g i;show KA k p t=KA k p m
    by_cases z:t=m
    .rw[z]
    .rw[y t ⋯ ⋯,K]
theorem Dn.rev{p:Array Nat}{m:Nat}(h:Dn k p m)(a:m<=p.size):Up k (kas_rev p 0 m) m:=λi j b c=>by
 rw[sg a,sg a,W_ ⟨XZ _,⋯⟩,W_ ⟨XZ _,c⟩];calc h _ _ ⋯ ⋯
theorem C2(i:lH n k I cmp){p:Array Nat}(f:dh n p){m:Nat}{s:ο}{Q:Nat×Array Nat->ο->Prop}(j:1<=m)(r:m<=n)(l:Dn k p m)(o:I s)
  (h:∀g e s',dh n g->1<=e->e<=n->Up k g e->I s'->Q (e,g) s'):(kas_tail3 m n p).kasWp cmp Q s:=by
 unfold kas_tail3;rw[KasT.kasWp_bind];let t:=f.size;calc C0 i (f.rev 0 m) (n-m) m s _ j ⋯ (l.rev ⋯) o λe q a b c d=>h _ e q (f.rev 0 m) ⋯ b c d
theorem C3(l:lH n k I cmp){p:Array Nat}(q:dh n p){m:Nat}{s:ο}{Q:Nat×Array Nat->ο->Prop}(w:1<=m)(x:m+1<=n)(r:Dn k p (m+1))(u:I s)
  (h:∀j f s',dh n j->1<=f->f<=n->Up k j f->I s'->Q (f,j) s'):(kas_descPart m n p).kasWp cmp Q s:=by
 unfold kas_descPart;rw[KasT.kasWp_bind];refine sh l (n-(m+1)) p (m+1) 0 s _ q ⋯ ⋯ ⋯ r (λt a b=>?_) u λj f v y a b c d e g i=>?_
 .let:t=m+1-1:=by symm
  rw[this]
 .let z:=a.size
  dsimp only
  by_cases o:v>0
  .rw[W_ o]
   exact C2 l (a.rev _ _) ⋯ c (e.congr (C1 ⋯ d g)) i h
  .rw[Vq o]
   calc C2 l a ⋯ c e i h
theorem NY(y:lH n k I cmp){p:Array Nat}(o:dh n p){s:ο}{Q:Nat×Array Nat->ο->Prop}(O:1<=n)(v:I s)
  (g:∀C h s',dh n C->1<=h->h<=n->Up k C h->I s'->Q (h,C) s'):(kas_count n p).kasWp cmp Q s:=by
 unfold kas_count;rw[KasT.kasWp_bind];let P:=o.size
 let D:∀f m s w,1<=m->m+f=n->Up k p m->I s →
   (∀h u,m<=h->h<=n->Up k p h->(h<n->HT.lexLt (KA k p h) (KA k p (h-1))=θ)->I u->w h u)->(kas_asc p f m).kasWp cmp w s:=by
  ext f
  induction f with
  |zero=>ext m s w a b r v g;exact g m s (vr _) ⋯ r (λz=>absurd z ⋯) v
  |succ f H =>
   refineλm s w a b r v g=>y _ _ _ s (o.lt ⋯) (o.lt ⋯) v λu l=>?_
   cases q:HT.lexLt (k (p.getD m 0)) (k (p.getD (m-1) 0)) with
   |true=>exact g m u (vr _) ⋯ r (λ_=>q) l
   |false =>
    exact H (m+1) u w ⋯ ⋯ (r.snoc a q) l λh E a b c d e=>g h E ⋯ b c d e
 refine D (n-1) 1 s _ (vr _) ⋯ Up.one v λm u a b r A l=>?_
 by_cases G:m=n
 .subst G
  rw[W_ (by simp)];exact g p m u o a (vr _) r l
 .rw[Vq G⁻¹]
  let F:m<n:=by symm
  let A:=A F
  by_cases J:m>1
  .rw[W_ J]
   refine y _ _ _ u (o.lt ⋯) (o.lt ⋯) l λK x=>?_
   cases q:HT.lexLt (k (p.getD 0 0)) (k (p.getD (m-1) 0)) with
   |true=>exact g p m K o a b r x
   |false =>
    let B:=λt L=>by
     refine pY (r t (m-1) ⋯ ⋯) (kle_trans q (r 0 t (XZ _) L))
    let e:∀t,KA k (kas_rev p 0 m) t=KA k p t:=λt=>by
     rw[sg ⋯];split
     .rename_i c;rw[B _ ⋯,B t c.2]
     .rfl
    calc C3 y (o.rev 0 m) ⋯ ⋯ (Dn.congr  (Dn.snoc (λi j M N=>?_) ⋯ (lG A)) e) x g;rw[B i ⋯,B j N];exact kle_refl _
  .let:m=1:=by symm
   subst this;calc C3 y o ⋯ ⋯ (Dn.one.snoc (vr _) (lG A)) l g
theorem wA(v:lH n k I cmp){p:Array Nat}(h:dh n p){t:Nat}(w:t<n)(j:Up k p t):∀(f l r:Nat)(s:ο)(Q:Nat->ο->Prop),l<=r->r<=t->r-l<=f →
  (∀i,i<l->kle (KA k p i) (KA k p t))->(∀i,r<=i->i<t->kle (KA k p t) (KA k p i))->I s →
  (∀l' s',l'<=t->(∀i,i<l'->kle (KA k p i) (KA k p t))->(∀i,l'<=i->i<t->kle (KA k p t) (KA k p i))->I s'->Q l' s')->(kas_place p t f l r).kasWp cmp Q s
 |0,l,r,s,Q,y,m,z,o,e,u,d=>by
  let:l=r:=by symm
  subst this;exact d l s m o e u
 |f+1,l,r,s,Q,y,m,z,o,e,u,d=>by
  unfold kas_place
  by_cases c:l ≥ r
  .rw[W_ c]
   let:l=r:=by symm
   subst this;exact d l s m o e u
  .rw[Vq c]
   refine v _ _ _ s (h.lt w) (h.lt ⋯) u λx g=>?_
   cases q:HT.lexLt (k (p.getD t 0)) (k (p.getD ((l+r) / 2) 0)) with
   |true =>
    exact wA v h w j f l ((l+r) / 2) x Q ⋯ ⋯ ⋯ o (λi a b=>kle_trans (lG q) (j _ _ a b)) g d
   |false =>
    calc wA v h w j f ((l+r) / 2+1) r x Q ⋯ m ⋯ (λi a=>kle_trans (j i ((l+r) / 2) ⋯ ⋯) q) e g d
theorem C4(v:lH n k I cmp):∀(f:Nat)(p:Array Nat)(t:Nat)(s:ο)(Q:Array Nat->ο->Prop),dh n p->t+f=n->Up k p t->I s →
  (∀m s',dh n m->Up k m n->I s'->Q m s')->(kas_bin f p t).kasWp cmp Q s
 |0,p,t,s,Q,g,C,e,o,c=>by
  let:t=n:=by symm
  subst this;exact c p s g e o
 |f+1,p,t,s,Q,g,C,e,o,c=>by
  unfold kas_bin;rw[KasT.kasWp_bind];let F:=g.size;calc wA v g ⋯ e t 0 t s _ (XZ _) (vr _) ⋯ (λi a=>absurd a ⋯) (λi a b=>absurd b ⋯) o λl B G D q r=>C4 v f _ (t+1) B Q (g.NX _ _) ⋯ (λi j u H=>?_) r c;let w:=λx=>NW (k:=k) (p:=p) (src:=t) (d:=t-l) ⋯ ⋯ x;let E:t-(t-l)=l:=by symm
  rw[w i,w j,E]
  by_cases y:i=l
  .subst y
   rw[W_ Y]
   by_cases h:j=i
   .rw[W_ h];exact kle_refl _
   .rw[Vq h,W_ ⟨⋯,⋯⟩]
    exact q (j-1) ⋯ ⋯
  .rw[Vq y]
   by_cases h:j=l
   .subst h
    rw[W_ Y,Vq ⋯];exact D i ⋯
   .rw[Vq h]
    by_cases z:l<i/\i<=t
    .rw[W_ z,W_ ⟨⋯,⋯⟩]
     exact e _ _ ⋯ ⋯
    .rw[Vq z]
     by_cases A:l<j/\j<=t
     .rw[W_ A];exact e _ _ ⋯ ⋯
     .rw[Vq A];calc e _ _ u ⋯
theorem NZ(g:lH n k I cmp){s:ο}{Q:Array Nat->ο->Prop}(i:1<=n)(j:I s)(f:∀p s',dh n p->Up k p n->I s'->Q p s'):(kas_sort n).kasWp cmp Q s:=by
 unfold kas_sort;rw[KasT.kasWp_bind];refine NY g ⟨q32 _⟩ i j λp m h a b c d e=>?_
 by_cases q:m<n
 .rw[W_ q]
  let:max m 1=m:=by symm
  rw[this];exact C4 g (n-m) p m h Q a ⋯ d e f
 .rw[Vq q]
  let:m=n:=by symm
  subst this;calc f p h a d e
end
end L2
namespace L2
open PySem PySem.Spec PyProof.Rows
theorem C5{δ0:aH}{eU:aH->Prop}{g:WG}{b:WS}{K:KS}(I:Nat->aH->Prop):∀(items:-D)(i:Nat)(δ:aH),I i δ →
  (∀j d δ (L:aH->Prop),items[j]?=ζ d->I (i+j) δ->(∀δ',I (i+j+1) δ'->L δ')->eU δ/\g (.p d) δ fun δ1=>b {nx:=fun δ2=>L (δ0.trim δ2),ct:=fun δ2=>L (δ0.trim δ2),bk:=K.nx,rt:=K.rt} δ1) →
  (∀δ,I (i+↑items) δ->eU δ/\K.nx δ)->jg δ0 eU g b K items δ
 |[],i,δ,h,_,fin=>fin δ h
 |d::r,i,δ,h,st,fin=>by
  unfold jg;calc st 0 d δ (fun δ'=>jg δ0 eU g b K r δ') Y h fun δ' hi=>?_;refine C5 I r (i+1) _ hi (λj e δ L hj hI hL=>?_) fun δ hI=>?_
  .let e:i+1+j=i+(j+1):=by symm
   rw[e] at hI hL;exact st (j+1) _ δ L hj⁻¹ hI hL
  .exact fin δ (by rw[rC];let e:i+1+↑r=i+(↑r+1):=by symm
                   rw[e] at hI;calc hI)
theorem hJ{c e g b K items a}(I:Nat->aH->Prop)(n:I 0 a)
  (st:∀j d a (L:aH->Prop),items[j]?=ζ d->I j a->(∀h,I (j+1) h->L h)->e a/\g (.p d) a λk=>b {nx:=λf=>L (c.trim f),ct:=λf=>L (c.trim f),bk:=K.nx,rt:=K.rt} k)
  (l:∀a,I ↑items a->e a/\K.nx a):jg c e g b K items a :=
 C5 I items 0 a n (λj d a L o i m=>by rw[Yd] at i m;calc st j d a L o i m) λa i=>by rw[Yd] at i;calc l a i
def p8(a:aH)(h:aH->Prop)(g:WG)(t:WT)(f:WE)(d:D)(acc:-D)(l:aH)(L:-D->aH->Prop):Prop :=
 h l/\g (.p d) l λi=>t i λb c=>if b=θ then f c λx j=>jE x j λe k=>↑acc<1000/\L (acc++[e]) (a.trim k) else L acc (a.trim c)
theorem C6{δ0:aH}{eU:aH->Prop}{g:WG}{t:WT}{f:WE}{K:-D->aH->Prop}(I:Nat->-D->aH->Prop):∀(items:-D)(i:Nat)(acc:-D)(δ:aH),I i acc δ →
  (∀j d acc δ (L:-D->aH->Prop),items[j]?=ζ d->I (i+j) acc δ->(∀iW δ',I (i+j+1) iW δ'->L iW δ')->p8 δ0 eU g t f d acc δ L) →
  (∀acc δ,I (i+↑items) acc δ->eU δ/\K acc δ)->g9 δ0 eU g t f K items acc δ
 |[],i,acc,δ,h,_,fin=>fin acc δ h
 |d::r,i,acc,δ,h,st,fin=>by
  unfold g9;calc st 0 d acc δ (λiW δ'=>g9 δ0 eU g t f K r iW δ') Y h λiW δ' hi=>?_;refine C6 I r (i+1) iW _ hi (λj e acc δ L hj hI hL=>?_) λacc δ hI=>?_
  .let e:i+1+j=i+(j+1):=by symm
   rw[e] at hI hL;exact st (j+1) _ acc δ L hj⁻¹ hI hL
  .exact fin acc δ (by rw[rC];let e:i+1+↑r=i+(↑r+1):=by symm
                       rw[e] at hI;calc hI)
theorem wB{h c g t f K items a}(I:Nat->-D->aH->Prop)(n:I 0 [] a)
  (st:∀j d acc a L,items[j]?=ζ d->I j acc a->(∀b i,I (j+1) b i->L b i)->p8 h c g t f d acc a L)
  (l:∀acc a,I ↑items acc a->c a/\K acc a):g9 h c g t f K items [] a :=
 C6 I items 0 [] a n (λj d e a L o k m=>by rw[Yd] at k m;calc st j d e a L o k m) λe a k=>by rw[Yd] at k;calc l e a k
theorem f_{a b g t f K items} p h (u:↑items<=1000) (o:b a)
  (st:∀d∈items,∀acc L,↑acc<1000->(p d=θ->L (acc++[h d]) a)->(p d=ι->L acc a)->p8 a b g t f d acc a L)
  (k:K ((items.filter p).map h) a):g9 a b g t f K items [] a:=by
 refine wB (λi c l=>l=a/\c=((items.take i).filter p).map h) ⟨Y,Y⟩ ?_ ?_
 .ext j d c l L m ⟨rfl,rfl⟩ n
  let r:=(mj.mp m).1
  let s:↑(((items.take j).filter p).map h)<1000:=by
   rw[kF];let:=Yi p (items.take j);rw[XN] at this;symm
  let e:items.take (j+1)=items.take j++[d]:=by rw[ZI,m];rfl
  refine st d (Xw m) _ L s (λq=>n _ _ ⟨Y,?_⟩) (λq=>n _ _ ⟨Y,?_⟩)
  .rw[e,ZP,Xj];simp[q60,q]
  .rw[e,ZP,Xj];simp[q60,q]
 .ext c l ⟨rfl,rfl⟩
  rw[Yn (vr _)];calc⟨o,k⟩
theorem gT{a b g t f K items} c (j:↑items<=1000) (k:b a)
  (st:∀d∈items,∀acc L,↑acc<1000->L (acc++[c d]) a->p8 a b g t f d acc a L)
  (i:K (items.map c) a):g9 a b g t f K items [] a :=
 f_ (λ_=>θ) c j k (λd l e L m h _=>st d l e L m (h Y)) (by rw[List.filter_eq_self.mpr λ_ _=>Y];calc i)
end L2
namespace LJ
open PySem L2
theorem C7:bootBuiltins "range" = ζ (.type "range"):=by decide +kernel
theorem wC:bootBuiltins "max" = ζ (.builtin "max"):=by decide +kernel
theorem C8:bootBuiltins "min" = ζ (.builtin "min"):=by decide +kernel
theorem si:bootBuiltins "sorted" = ζ (.builtin "sorted"):=by decide +kernel
theorem N3:bootBuiltins "any" = ζ (.builtin "any"):=by decide +kernel
structure BT(mg:π->Option ν):Prop where
 len:mg "len" = η
 range:mg "range" = η
 list:mg "list" = η
 tuple:mg "tuple" = η
 set:mg "set" = η
 sorted:mg "sorted" = η
 min:mg "min" = η
 max:mg "max" = η
 sum:mg "sum" = η
 all:mg "all" = η
 any:mg "any" = η
 enumerate:mg "enumerate" = η
 zip:mg "zip" = η
 isinstance:mg "isinstance" = η
 int:mg "int" = η
 bool:mg "bool" = η
 str:mg "str" = η
 repr:mg "repr" = η
end LJ
namespace L2
open PySem PySem.Spec PyProof.Rows
variable[zt:aB]
def C9(X:Cx)(f:ν)(g:-D->(-D->Prop)->Prop):Prop :=
 fc X f λe H Q=>∃F b K,ay F H/\gG F H b e/\g b K/\∀c d a,K c->H a=η->ah F c d->Q (.ref a) (upd H a (.lst d))
def sj(b:WA)(op:-D->(-D->Prop)->Prop):WE:=λc K=>b c λd a=>g7 d a λe=>op e λf=>K (.o ↑a.mu) ⟨a.sl,a.mu++[ζ (.lst f)]⟩
def sk:-D->(-D->Prop)->Prop
 |[.lst b],K=>match intsOf b with
  |some a=>↑a<64/\K ((sortI a).map D.int)
  |none=>False
 |_,_=>False
section
variable{X:Cx}{fa:WA}{pos:Ε}
theorem so{F H a b c p}(S:SR F a b c H):dB F (a++[p]) (.o ↑b.mu) (.ref p) :=
 ⟨p,by rw[<-S.b7,Xi (vr _),YE];rfl,Y⟩
theorem N5{r:-V->Hp->VK->Prop}{op:-D->(-D->Prop)->Prop}(l:∀xs H Q,(∃F ds K,ay F H/\gG F H ds xs/\op ds K/\∀d vs a,K d->H a=η->ah F d vs->Q (.ref a) (upd H a (.lst vs)))->r xs H Q):∀e H Q,tD (sj fa op) e H Q->oX r (bM fa) e H Q:=by
 ext e H Q ⟨F,m,n,K,S,q,k⟩;calc⟨F,m,n,_,S,q,λz o p A g s B t b u=>l _ _ _ ?_⟩;let⟨j,v,f⟩:=mw b u p;calc(zI3 g j _ ⟨b.sub,f,v,λd h a w i x=>?_⟩);let y:∀{c},eT g c (.lst d) (.lst h):=λ{c}=>⟨h,Y,x⟩;calc k _ _ w _ _ _ _ (t.trans (Ext.own b i)) (b.own i y) (so b)
theorem N6{x p e es c}{o:-D->(-D->Prop)->Prop}(d:C9 X (.builtin c) o)(f:Gl X x)(g:X.mg x=η)(i:bootBuiltins x=ζ (.builtin c))(j:JA X (e::es) (bM fa))(hn:x≠"__name__" := by decide)(a: ~~~(bB x))
  (he:‹cI X e es›) (b:‹cX X pos es›):JE X (.Call (.Name x p) (e::es) [] pos) (tD (sj fa o)) :=
 (l9 d f g i j hn a he b).weak (N5 λ_ _ _ h=>h)
theorem N7:C9 X (.builtin "sorted") sk:=by
 ext b s f H t g Q I r ⟨F,u,K,h,i,q,j⟩;unfold sk at q;split at q
 .split at q
  .rename_i k e
   let⟨v,rfl,a,w,rfl,c,d⟩:1122:=f9 i;rw[nY e] at d;rw[jZ d] at c;calc B3 b s f H _ g Q I r (zI2 a k ⟨Y,bf.of c,q.1,λl m n o p=>?_⟩);rw[pT n o];exact j _ _ _ q.2 p j2
  .exact q.elim
 .calc q.elim
def wD(b:WA):WE:=λc K=>b c λd a=>match d with
 |[.p (.int j)]=>(0<=j/\j<=1000)/\K (.o ↑a.mu) ⟨a.sl,a.mu++[ζ (.lst (cb 0 j.toNat))]⟩
 |_=>False
theorem N8{a x g y h}(z:X.calm=θ)(i:Gl X "list")(c:X.mg "list" = η)(m:bootBuiltins "list" = ζ (.type "list"))(n:Gl X "range")(A:X.mg "range" = η)(o:bootBuiltins "range" = ζ (.type "range"))(B:JA X [a] (bM fa))
  (he:‹starEach [a] X.env=[(ι,eval a X.env)]›) (C:‹starEach [.Call (.Name "range" g) [a] [] h] X.env=[(ι,eval (.Call (.Name "range" g) [a] [] h) X.env)]›):JE X (.Call (.Name "list" x) [.Call (.Name "range" g) [a] [] h] [] y) (tD (wD fa)) :=
 (kE (BZ z) i c m (g0 (kE BX n A o B (he:=he)) a_)).weak λR H Q ⟨F,D,E,K,S,q,k⟩=>⟨F,D,E,_,S,q,λT G d U I J f L u M=>by
  split at d
  .rename_i j
   let⟨v,r,e,N,O⟩:22:=M;subst O N e;calc⟨j,Y,λp s=>(zI2 p j.toNat ⟨Y,by rw[bj,q2K d.1.1],⋯,λl c=>?_⟩)⟩;let w:ay f (upd f p (.rng 0 j)):=b_ s;let t:=u.al w;let P:∀{b},eT (Nw I f (upd f p (.rng 0 j))) b (.lst (cb 0 j.toNat)) (.lst ((aZ j.toNat).map V.int)):=λ{b}=>⟨_,Y,by rw[j4];calc j2⟩;exact k _ _ d.2 _ _ _ _ ((L.trans (Ext.al u w)).trans (Ext.own t c)) (t.own c P) (so t)
  .calc d.elim⟩
def wF(f g:WE):WE:=λi K=>f i λx h=>g h λy c=>fh x c λd=>fh y c λe=>match d,e with
 |.lst a,.lst b=>↑a+↑b<=1000/\K (.o ↑c.mu) ⟨c.sl,c.mu++[ζ (.lst (a++b))]⟩
 |_,_=>False
theorem N9{a b f g}(u:JE X a (tD f))(v:JE X b (tD g)):JE X (.BinOp a .Add b pos) (tD (wF f g)) :=
 (lq rB u v).weak λY H Q ⟨F,w,z,K,S,q,k⟩↦⟨F,w,z,_,S,q,λx j A Z B l H1 C D E=>⟨B,l,j,_,D,A,λy G I v2 J L H2 m c M=>by
  let⟨d,N,O⟩:=gF c (E.ext m) I;let⟨e,i,P⟩:=gF c M N;split at i
  .rename_i T R
   let⟨a,n,rfl,U,o⟩:22:=O;let⟨b,r,rfl,V,s⟩:22:=P;let W:∀{h},eT J h (.lst (T++R)) (.lst (n++r)):=λ{h}=>⟨_,rfl,mH o s⟩;exact(zI4 a b n r ⟨rfl,rfl,U,V,jd (by rw[↑o,↑s];calc i.1),λp t=>k _ _ i.2 _ _ _ _ ((C.trans m).trans (Ext.own c t)) (c.own t W) (so c)⟩)
  .calc i.elim⟩⟩
theorem N_[bV]{st}:JS X st (cB v7):=⟨λa s D b H I q=>by let⟨F,c,d,K,S,q,k⟩:=q;calc q.elim⟩
end
end L2
namespace LJS
open PySem PySem.SetTable PyProof.Rows
section
variable{prog:ψ}{w:ω}{A:Β}{S:Z}{ks:-Int}
theorem ints_of:∀{l:-(Int×ν)},(∀e∈l,∃k tk,e=(hashInt k,YB k tk))->IntsAre (l.map (·.2)) (l.map keyOf)
 |[],_=>.nil
 |e::r,h=>by
  let⟨k,a,rfl⟩:2:=h e Vr;calc .cons k a (ints_of λe b=>h e (Bi _ b))
theorem Oa{E:aJ}{s:ο}{Q:aJ}(D:A.handled=η)(F:eH s.heap S (gs w) ks)(hn:↑ks<64)
  (h:∀(h':Α)(tk:Nat)(r:Z)(out:Array ν)(a:-Int)(e:Nat),(∀b g,s.heap.get? b=ζ g->h'.get? b=ζ g)->⇑s<=r->h'.get? r=ζ (seqObj "list" out e)->IntsAre out.toList a->a.Perm ks->a.Pairwise (· <= ·)->Q (.ref r) {s with heap:=h',toks:=tk}) :
  ρ (ς prog w) A (call (.builtin "sorted") [.ref S]) Q E s:=by
 let⟨o,c,d,t,y,n,H,T⟩:43:=F;let p:=T.num;let N:S<⇑s:=Vo y;calc q1l kind_sorted plain_sorted entry_sorted (args_sorted1 _) ?_;unfold Builtin.«sorted»;calc dV (m:=checkCount "sorted" 1 1 _) (nF ?_);calc dV (IB (by simp[D]) y n H T ⋯ λl q i I=>?_);let j:∀e∈(gu w S d c).toList,∃k G,e=(hashInt k,YB k G):=λe u=>T.qY e ((uy w S d c).mem_iff.mp u);let v:IntsAre ((gu w S d c).toList.map (·.2)) ((gu w S d c).toList.map keyOf):=ints_of j;let z:((gu w S d c).toList.map keyOf).Perm ks:=((uy w S d c).map keyOf).trans T.keys;let J:↑((gu w S d c).toList.map (·.2))=↑ks:=by rw[kF,Xa,qZ,p]
 generalize(gu w S d c).toList.map (·.2)=x at v J ⊢;generalize(gu w S d c).toList.map keyOf=O at v z;calc dV (q0L ?_);let f:(l.push (seqObj "list" x.toArray 0)).get? l.objs.size=ζ (seqObj "list" x.toArray 0):=Vs _ Y;calc dV (Xy (YC (s:={s with heap:=l.push (seqObj "list" x.toArray 0),toks:=q}) slot_list_sort ⟨_,f,Y⟩ entry_list_sort (list_sort_tree f v ⋯ λout a K L M=>⟨_,Y,?_⟩) (args_list_sort _)));let⟨e,u⟩:=sortedHeap_at (out:=out) f;calc nF ⟨_,Y,h _ _ _ out a e (λb g B=>?_) I u K (L.trans z) M⟩;let C:b<l.objs.size:=Vo (i b g B);rw[sortedHeap_old (W8 C) (by rw[size_push'];calc X8 C)]
 calc mi _ (i b g B)
end
end LJS
namespace L2
open PySem PySem.Spec PyProof.Rows
meta def mK(led:Bool)(S:Z)(ks:-Int):HO:=.ext λh=>LJS.eH h S led ks
theorem Ob{P:ψ}{w:ω}{H:Hp}{h:Α}{S:Z}{led:Bool}{ks:-Int}(e:LJS.eH h S led ks):aP P w H h S (mK led S ks) :=
 ⟨e,let⟨o,_,_,_,a,_⟩:=e;⟨o,a⟩,λd f b k=>LJS.uj b λo c=>k o c⟩
meta def gb(ns:-Int):-Int:=LJS.gr ns ns.length
section
variable{X:Cx}
theorem C_(z:X.calm=θ):fc X (.type "set") (λxs H Q=>∃(l:Z)(ns:-Int),xs=[.ref l]/\bf X.K H l (ns.map V.int)/\ns.length<=40/\∀p,H p=η->Q (.ref p) (upd H p (mK (LJS.gs X.w) p (gb ns)))):=by
 ext g s L H J M Q I r h;let⟨l,c,rfl,A,B,q⟩:23:=h;let⟨u,rfl,C⟩:=vals1 r;cases C
 let⟨a,j,D,_⟩:12:=I.list A;let E:=↑j;rw[kF] at E;refine LJS.Im c (I.ok.hd z) D.isList (λi v d=>?_) (by rw[KJ];symm) λN O k F=>?_
 .rw[Zn] at d
  let P:=(mj.mp d).1;let⟨x,m,y⟩:=pN j  ⋯;rw[show a.toArray[i]'⋯=v by simpa using(mj.mp d).2] at y;rw[KI] at m;let⟨n,G,rfl⟩:=My.mp m;let⟨t,rfl⟩:=y;rw[o8,G];exact⟨t,Y⟩
 .let f:=by
   let e:a.toArray.size=↑c:=by rw[KJ];symm
   rw[e] at k;exact k
  calc⟨.ref ⇑s,upd H ⇑s (mK (LJS.gs X.w) ⇑s (gb c)),I.laid  (λb o e=>F b o (Vo e) e) (vr _) (Ob f),Y,q _ (I.aM.fresh (vr _))⟩
theorem Oc(g:X.calm=θ):fc X (.builtin "sorted") (λxs H Q=>∃(p:Z)(ks:-Int),xs=[.ref p]/\H p=ζ (mK (LJS.gs X.w) p ks)/\↑ks<64/\∀r (a:-Int),a.Perm ks->a.Pairwise (· <= ·)->H r=η->Q (.ref r) (upd H r (.lst (a.map V.int)))):=by
 ext c s x H t y Q I r h;let⟨p,v,rfl,i,j,q⟩:23:=h;let⟨u,rfl,k⟩:=vals1 r;cases k
 let⟨l,_⟩:=I.aM p _ i;calc LJS.Oa (I.ok.hd g) l j λz A r b a e m d B n f o=>⟨.ref r,_,I.laid   m d ?_,Y,q _ a f o (I.aM.fresh d)⟩;calc⟨YJ (lz (by rw[kF,f.length_eq];symm)),b.toList,e,vQ n,?_⟩;symm
end
end L2
namespace LJS
open PySem PySem.SetTable PyProof.Rows
section
variable{t:SetTable}{f:Nat->Int}{h:Int}
end
section
variable{hk:Nat->Int}{ad:Nat->Z}{t:SetTable}{es:Array (Int×ν)}{js:-Nat}
end
section
variable{prog:ψ}{w:ω}{A:Β}{E:aJ}{s:ο}{ad:Nat->Z}{ks:Nat->-Int}{js:-Nat}{S:Z}
end
section
variable{prog:ψ}{w:ω}{A:Β}{R:Result->ο->Prop}{I S:Z}{fp wr:-Z}{G:Array GenState->Array GenState->Prop}{n:Nat}{P:Nat->ν->Prop}{St:Nat->ο->Prop}
end
section
variable{prog:ψ}{w:ω}{A:Β}{E:aJ}{s:ο}
end
end LJS
namespace L2
open PySem PySem.Spec PyProof.Rows
variable[zt:aB]
meta def Od:-D->Option (-(Int×Int))
 |[]=>ζ []
 |.tup [.int i,.int j]::r=>match Od r with
  |some a=>ζ ((i,j)::a)
  |none=>η
 |_=>η
meta def wG(ps:-(Int×Int)):Nat->-(Int×Int)
 |0=>[]
 |i+1=>if ps.getD i (0,0)∈wG ps i then wG ps i else wG ps i++[ps.getD i (0,0)]
def n7:-D->(D->Prop)->Prop
 |[.lst b],K=>match intsOf b with
  |some a=>↑a<=40/\K (.lst ((sortI (gb a)).map D.int))
  |none=>False
 |_,_=>False
theorem wH ns:↑(gb ns)<=ns.length:=LJS.uk ns ns.length
section
variable{X:Cx}{fa:WA}
theorem Oe:fc X (.builtin "len") (λxs H Q=>∃(p:Z)(ks:-Int),xs=[.ref p]/\H p=ζ (mK (LJS.gs X.w) p ks)/\↑ks<1000/\Q (.int ↑ks) H):=by
 ext b s k H j l Q I r h;let⟨p,c,rfl,d,m,q⟩:23:=h;let⟨u,rfl,f⟩:=vals1 r;cases f
 let⟨⟨o,n,v,t,g,a,i,T⟩,_⟩:=I.aM p _ d;let e:=T.num;calc call_len_set g a i T.fits ⋯ ⟨.int ↑c,H,I.tok _,⟨_,by rw[e]⟩,q⟩
theorem Of{a z f A g}(s:X.calm=θ)(h:Gl X "sorted")(B:X.mg "sorted" = η)(i:bootBuiltins "sorted" = ζ (.builtin "sorted"))(j:Gl X "set")(c:X.mg "set" = η)(l:bootBuiltins "set" = ζ (.type "set"))(C:JA X [a] (bM fa))
  (he:‹starEach [a] X.env=[(ι,eval a X.env)]›) (D:‹starEach [.Call (.Name "set" f) [a] [] g] X.env=[(ι,eval (.Call (.Name "set" f) [a] [] g) X.env)]›):JE X (.Call (.Name "sorted" z) [.Call (.Name "set" f) [a] [] g] [] A) (tD (dN fa n7)) :=
 (l9 (Oc s) h B i (g0 (kE (C_ s) j c l C (he:=he)) a_)).weak λV H Q ⟨F,E,G,K,S,q,k⟩=>⟨F,E,G,_,S,q,λW I J L Y M t N m O=>by
  let⟨Z,b,n⟩:=mw m O J;unfold n7 at b;split at b
  .split at b
   .rename_i es d e
    let⟨v,rfl,a,L,rfl,u,x⟩:1122:=f9 n;rw[nY e] at x;rw[jZ x] at u;calc(zI2 a d ⟨rfl,bf.of u,b.1,λp P=>(zI2 p (gb d) ⟨rfl,bj,by let:=wH d;symm,λr R T U c=>?_⟩)⟩);let y:ay t (upd t p (mK (LJS.gs X.w) p (gb d))):=b_ P;let o:=m.al y;calc k _ _ b.2 _ _ _ _ ((N.trans (Ext.al m y)).trans (Ext.al o (b_ c))) (o.al (b_ c)) ?_;rw[<-pT T U];exact j3 o.sub c j2
   .exact b.elim
  .calc b.elim⟩
theorem Dc{F}:∀{ps:-(Int×Int)}{vs},ah F (ps.map λp=>D.tup [.int p.1,.int p.2]) vs->∃as:-Z,vs=as.map V.ref/\↑as=↑ps/\∀(i:Nat) a k,as[i]?=ζ a->ps[i]?=ζ k->F a=ζ (.tup [.int k.1,.int k.2])
 |[],f,h=>by
  let h:=by simpa only [q0y,ah] using h
  subst h;exact⟨[],Y,Y,λi a k e=>by simp at e⟩
 |p::r,f,h=>by
  let⟨v,s,rfl,l,m⟩:22:=h;let⟨j,rfl,n,g⟩:12:=Dc m;let⟨a,t,rfl,o,q⟩:22:=l;let⟨_,_,rfl,rfl,_,_,rfl,rfl,rfl⟩:2222:=q;refine⟨a::j,Y,by rw[rC,rC,n],λi b k c d=>?_⟩
  cases i with
  |zero =>
   cases c⁻¹
   cases d⁻¹
   exact o
  |succ i=>calc g i b k c⁻¹ d⁻¹
end
end L2
namespace HT
open PySem PySem.Spec PyProof.Rows
section
variable{prog:ψ}{w:ω}{A:Β}{E:aJ}{s:ο}
theorem Og{t b}{ws:-ν}{Q:aJ}(l:IsTup s.heap t #[])(m:IsTup s.heap b ws.toArray)(h:Q (.ref b) s):ρ (ς prog w) A (binaryOp .Add (.ref t) (.ref b)) Q E s:=by
 let⟨⟨o,p,i,q⟩,j,r,n,u⟩:121:=id l;let⟨⟨k,c,d,e⟩,a,f,v,g⟩:121:=id m;subst r u f g
 exact q3m ⟨_,j,Y⟩ ⟨_,a,Y⟩ q1G q2P q0v q0n (Z_ _ _)
  (tuple_addW0 t b #[] ws.toArray n v p c q e Y) ⟨j,a,h⟩
theorem Oh{t f items g i b c}{Q:aJ}(a:IsTup s.heap t items)(j:s.heap.IsSliceOf f g i .none)(l:IsPart g b)(m:IsPart i c)
  (k:bo items.size 0 b=0/\bo items.size items.size c=items.size) (h:Q (.ref t) s):ρ (ς prog w) A (getItem (.ref t) (.ref f)) Q E s:=by
 let⟨n,d,e,o⟩:12:=id j;unfold getItem
 try with_reducible refine Xy ?_
 first|symm|skip
 refine dV (q3n a.typeIs (by decide) (dV (YN  a.typeIs Yh
  (YC Yh a.typeIs q2x ?_ (q20 _ _)))))
 show ρ _ _ (q1c (.ref t) >>= _) _ _ s;calc dV (tupleItemsOf_ a (dV (q0s ⟨n,d,e⟩ (dV (AQ j l m ?_)))));show ρ _ _ (if(((bo items.size 0 b):Int)==0&&1==1&&(bo items.size items.size c-bo items.size 0 b)==items.size)=θ then _ else _) _ _ s;rw[W_ (by rw[k.1,k.2];simp)];calc dV (dV (q0s a.typeIs (nF (dV (q07 (nF ⟨_,Y,nF h⟩))))))
end
end HT
namespace L2
open PySem PySem.Spec PyProof.Rows
variable[zt:aB]
section
variable{X:Cx}{e:υ}{te:TE}{pos p2 p3 p4:Ε}
def Oi(K:KH):V->Option Int->Option Int->Hp->VK->Prop:=λx c d H Q=>∃a b,x=.ref a/\bE K H a b ∧
 (HT.bo ↑b 0 c=0/\HT.bo ↑b ↑b d=↑b->Q (.ref a) H)/\(¬ (HT.bo ↑b 0 c=0/\HT.bo ↑b ↑b d=↑b)->∀p,H p=η->Q (.ref p) (upd H p (.tup (dq b c d))))
theorem Oj:lr X (Oi X.K):=by
 ext c s p H x v q t g i u Q I j k l m h;let⟨a,b,rfl,n,w,y⟩:23:=h
 by_cases e:HT.bo ↑b 0 g=0/\HT.bo ↑b ↑b i=↑b
 .cases j
  let⟨f,r,o,z⟩:12:=I.tuple n;let d:f.toArray.size=↑b:=r.length.symm;exact(zI2 "tuple" _ ⟨Yh.lookup,o.typeIs,HT.Oh o k l m (by rw[d];calc e) ⟨.ref a,H,I,Y,w e⟩⟩)
 .calc Ko c s p H _ v q t g i u Q I j k l m (zI2 a b ⟨Y,n,e,y e⟩)
theorem Ol:dn X (binaryOp .Add) (λx y H Q=>∃a b ys,x=.ref a/\y=.ref b/\bE X.K H a []/\bE X.K H b ys/\Q (.ref b) H):=by
 ext c s o H x y v u Q I e f h;let⟨a,b,n,rfl,rfl,g,i,q⟩:34:=h;cases e
 cases f
 let⟨j,k,l,_⟩:12:=I.tuple g;let⟨d,p,m,_⟩:12:=I.tuple i;let:=k.eQ.mpr Y;subst this;calc HT.Og l m ⟨.ref b,H,I,Y,q⟩
theorem Om:dn X (compareOp .Is) (λx y H Q=>∃a b,x=.bl a/\y=.bl b/\Q (.bl (a==b)) H):=by
 ext c s f H x y v u Q I d e h;let⟨a,b,rfl,rfl,q⟩:22:=h;cases d
 cases e
 calc nF ⟨.bl (a==b),H,I,by cases a<;>cases b<;>rfl,q⟩
theorem Oo:dn X (compareOp .IsNot) (λx y H Q=>∃a b,x=.bl a/\y=.bl b/\Q (.bl (!(a==b))) H):=by
 ext c s f H x y v u Q I d e h;let⟨a,b,rfl,rfl,q⟩:22:=h;cases d
 cases e
 calc nF ⟨.bl (!(a==b)),H,I,by cases a<;>cases b<;>rfl,q⟩
def cv(d e:D)(K:D->Prop):Prop:=match d with
 |.int i=>(match e with|.int j=>K (.int (i+j))|_=>False)
 |.lst a=>(match e with|.lst b=>↑a+↑b<=1000/\K (.lst (a++b))|_=>False)
 |.tup a=>(match e with|.tup b=>↑a+↑b<=1000/\K (.tup (a++b))|_=>False)
 |.str a=>(match e with|.str b=>↑a+↑b<=1000/\K (.str (a++b))|_=>False)
 |_=>False
theorem Oq:eE X (binaryOp .Add) cv:=by
 ext f s h H x y v u Q I i j ⟨F,d,e,K,g,k,l,q,m⟩;cases d<;>cases e<;>first|exact Xu q|rename_i p A
 .exact r3 f s h H x y v u Q I i j ⟨F,_,_,K,g,k,l,q,m⟩
 .exact r3 f s h H x y v u Q I i j ⟨F,_,_,K,g,k,l,q,m⟩
 .by_cases c:p=[]
  .subst c
   let n:=l;let o:=n;let⟨a,B,rfl,r,t⟩:22:=k;let⟨b,w,rfl,z,C⟩:22:=n;let:=by simpa only [ah] using t
   subst this;exact Ol f s h H _ _ v u Q I i j (zI3 a b w ⟨Y,Y,bE.of (g _ _ r),bE.of (g _ _ z),m _ _ _ q.2 (λ_ _ e=>e) (pO g o)⟩)
  .exact r3 f s h H x y v u Q I i j ⟨F,_,_,K,g,k,l,⟨⟨c,q.1⟩,q.2⟩,m⟩
 .calc r3 f s h H x y v u Q I i j ⟨F,_,_,K,g,k,l,q,m⟩
def mL:D->Option Int->Option Int->(D->Prop)->Prop
 |.lst a,b,c,K=>K (.lst (cutD a b c))
 |.tup a,b,c,K=>K (.tup (cutD a b c))
 |_,_,_,_=>False
def dQ(f:WE)(l h:WO):WE:=λe K=>f e λx b=>l b λg c=>h c λi a=>fh x a λd=>mL d g i λz=>K (.p z) a
theorem Ot{ds a b}(h:HT.bo ↑ds 0 a=0/\HT.bo ↑ds ↑ds b=↑ds):cutD ds a b=ds:=by
 unfold cutD;rw[h.1,h.2,q04,q2_,Yn (vr _)]
theorem Ou{e f n o l h pos E}(he:JE X e (tD f))(G:PO X n (r9 l))(I:PO X o (r9 h)):JE X (.Subscript e (.Slice n o η E) pos) (tD (dQ f l h)) :=
 (vc (f6.or Oj) he G I).weak fun σ H Q ⟨F,J,L,K,S,q,k⟩=>⟨F,J,L,_,S,q,λx r M v N s H1 O P R=>(zI4 N s r _ ⟨P,M,λn t T U u H2 A V=>(zI4 U u t _ ⟨V,T,λo W Y F3 Z H3 B b=>by
  let⟨d,c,C⟩:=gF b ((R.ext A).ext B) Y;let g:=(O.trans A).trans B;unfold mL at c;split at c
  .let⟨a,w,rfl,y,m⟩:22:=C
   exact .inl (zI2 a w ⟨rfl,bf.of y,λp i=>k _ _ c _ _ _ _ (g.trans (Ext.al b (b_ i))) (b.al (b_ i)) (j3 b.sub i (CU m _ _))⟩)
  .let j:=C
   let z:=j;let⟨a,w,rfl,y,m⟩:22:=j;refine .inr (zI2 a w ⟨rfl,bE.of (b.sub _ _ y),λD=>?_,λ_ p i=>?_⟩)
   .rw[↑m] at D
    rw[Ot D] at c;exact k _ _ c _ _ _ _ g b z
   .exact k _ _ c _ _ _ _ (g.trans (Ext.al b (b_ i))) (b.al (b_ i)) (wk b.sub i (CU m _ _))
  .calc c.elim⟩)⟩)⟩
def iX:D->D->(D->Prop)->Prop
 |.bl a,.bl b,K=>K (.bl (a==b))
 |d,e,K=>jH d e K
def n8:D->D->(D->Prop)->Prop
 |.bl a,.bl b,K=>K (.bl (!(a==b)))
 |d,e,K=>wo d e K
theorem Dd:eE X (compareOp .Is) iX:=by
 ext c s g H x y v u Q I h i ⟨F,d,e,K,f,j,k,q,l⟩;unfold iX at q;split at q
 .rename_i a b
  exact Om c s g H x y v u Q I h i (zI2 a b ⟨j,k,l _ _ _ q (λ_ _ e=>e) Y⟩)
 .calc Nt c s g H x y v u Q I h i ⟨F,_,_,K,f,j,k,q,l⟩
theorem De:eE X (compareOp .IsNot) n8:=by
 ext c s g H x y v u Q I h i ⟨F,d,e,K,f,j,k,q,l⟩;unfold n8 at q;split at q
 .rename_i a b
  exact Oo c s g H x y v u Q I h i (zI2 a b ⟨j,k,l _ _ _ q (λ_ _ e=>e) Y⟩)
 .calc Nu c s g H x y v u Q I h i ⟨F,_,_,K,f,j,k,q,l⟩
end
end L2
namespace L2
open PySem PySem.Spec PyProof.Rows
variable[zt:aB]{X:Cx}
def sq(_ j:Int):Prop:=j≠0/\j.natAbs<10 ^ 40
theorem Ov:eE X (binaryOp .FloorDiv) (dZ sq λi j=>.int (i.fdiv j)):=wm (rp λi j _ _ _ _ _ a q=>floordiv_int a.1 q (.inl (PyProof.noPylong_of_log2 ((Nat.log2_lt (Int.natAbs_ne_zero.mpr a.1)).mpr (Xe a.2 ⋯))))) λ_ _ _=>Y
end L2
open L2
open Lean in
local macro_rules
 |`(tactic|simp![$ls,*] $[$loc:location]?)=>do
  let t:=("Y3 dep:2 bD:2 XZ Nat.max_self Nat.max_zero Nat.zero_max Nat.reduceLeDiff ai ar dN sj ag af d1 d2 dC aa g7:2 fh:3 jE:3 iQ:2 aH.fix Ca:2 bN br kJ dT nQ:1 cJ je cu pC jF rS bQ jf aA aO aS fB:1 cH:1 fN eJ cD bX jh bY aY nW:3 g_ we iS wg:2 dO aj nT passes:4 iR:2 eK:1 kN:4 pH:1 aE:3 pP:4 cv:4 mL:2 dQ iX:1 n8:1 v7 jI:1 n7:1 f7:2 oI:1 dZ:1 oEq hD oLt:2 jH wo dt:2 bH:3 wq:2 wt:2 pU:1 wy:1 kP:1 eM n5 wD wF dP iy lF fD:1 fE mJ n6 r_ iw p8 aH.trim fO:2 rV:3 q3L Option.join_none Xm q0y q1L q17 ZC q2L ZJ Za List.getElem?_nil XW XX rC XO q2J List.take_zero List.take_nil q5M Zg Bool.not_false Bool.not_true q4W Bool.and_self q1y Zk Bool.true_eq_false q0c Z8 true_and and_true and_self reduceCtorEq q1H Yd q2Q Nat.reduceLT Nat.reduceEqDiff Nat.reduceSub kF KG".splitOn " ").map (·.splitOn ":")
  let m:List String->MacroM (Syntax.TSepArray [`Lean.Parser.Tactic.simpStar,`Lean.Parser.Tactic.simpErase,`Lean.Parser.Tactic.simpLemma] ","):=λl=>do
   let a←l.toArray.mapM λs=>`(Parser.Tactic.simpLemma|$(mkIdent s.toName):ident)
   pure ⟨(Syntax.SepArray.ofElems (sep:=",") ((a.push (←`(Parser.Tactic.simpLemma|↓reduceIte))).map (·.raw)++ls.getElems.map (·.raw))).elemsAndSeps⟩
  let a←m (t.map (·.head!))
  let d←m (t.flatMap fun|[x,n]=>(List.range n.toNat!).map λk=>s!"{x}.eq_{k+1}"|x=>x)
  if loc.isSome then `(tactic|simp only[$a,*] $[$loc]?) else `(tactic|first|((set_option backward.dsimp.useDefEqAttr false in dsimp only[$(⟨d.elemsAndSeps⟩),*]);try simp only[$a,*])|simp only[$a,*])
local macro_rules | `(tactic| simp! $[$l:location]?) => `(tactic| simp! [] $[$l]?)
set_option maxHeartbeats 8000000
namespace LJ
open PySem L2
variable[zt:aB]
theorem Df{ns:-Int}{k}(b:0<=k)(c:k<(ns.length:Int)):∃n,eD (ns.map D.int) k=ζ (.int n):=by
 let⟨i,rfl⟩:∃i:Nat,k=i:=⟨k.toNat,⋯⟩;let a:i<ns.length:=by symm
 calc⟨ns[i],iG ?_⟩;rw[KI,mf a];rfl
theorem cQ{a}{x:a}{r}:eD (x::r) 0=ζ x:=iG  Y
theorem cR{a}{x y:a}{r}:eD (x::y::r) 1=ζ y:=iG  Y
theorem at2{a}{x y z:a}{r}:eD (x::y::z::r) 2=ζ z:=iG  Y
theorem p9{a b A B:Int}(d:0<=a)(e:a<=A)(c:0<=b)(f:b<=B):0<=a*b/\a*b<=A*B :=
 ⟨Int.mul_nonneg d c,Int.mul_le_mul e f c ⋯⟩
meta def gJ:-Int:=[2147483629,2147483587,2147483579,2147483563,2147483549,2147483543,2147483497,2147483489,2147483477,2147483423,2147483399,2147483353,2147483323]
theorem wI n:∃q:Int,eD (gJ.map D.int) (n%13)=ζ (.int q)/\0<q/\q<2147483648:=by
 let b:0<=n%13:=Zq _ (by decide);let c:n%13<13:=Y4 _ (by decide);generalize n%13=j at b c;let⟨i,rfl⟩:∃i:Nat,j=i:=⟨j.toNat,⋯⟩;let hi:i<13:=by symm
 let d:(gJ.map D.int)[i]?=ζ (.int (gJ[i]'(hi))):=by
  rw[KI,mf (hi)];rfl
 calc⟨_,iG d,?_⟩;let a:∀q∈gJ,0<q/\q<2147483648:=by decide
 calc a _ (Yk _)
theorem Ox:gY 3 1=ζ 1:=rfl
theorem Dg:gY 3 2=ζ 2:=rfl
abbrev Sem(n m:Nat)(g:GD)(b:WS):Prop:=∀c a d,↑c=n->g c a d->b (iw ↑a d) ⟨c.map ζ++Xb m η,a.map ζ⟩
theorem aI{A B K a}(h:∀N:aH->Prop,N=B K->A {K with nx:=N} a):ai A B K a:=h _ Y
theorem d4{t G c K d}(h:∀A B:aH->Prop,A=G K->B=c K->t d λb a=>if b=θ then A a else B a):aO t G c K d:=h _ _ Y Y
theorem iz{w g b K c}(h:∀d e f,d=g->e=b->f=K->w c λi a=>jg a i.eU d e f i.items a):cD w g b K c:=h _ _ _ Y Y Y
theorem sv{f g c}{K:-DV->aH->Prop}(h:∀d,d=(λx a=>g a λxs b=>K (x::xs) b)->f c d):ag f g c K:=h _ Y
inductive wJ (ys:-DV) (aN:-OV) (K:RV->-OV->Prop):Prop
 |mk (cell at_:Int) (q:ys=[.p (.int cell),.p (.int at_)]) (q:aN=[]) (q:0<=at_) (q:at_<2 ^ 30) (q:∀z:Int,K (.p (.int z)) [])
def wK:WS:=(ai (aO (dT (d2 (aa 0) (d2 (dC (.int 10)) (dC (.int 18)) (dZ fZ λi j=>.int (i ^ j.toNat))) (oI λi j=>.bl (μ (j<=i))))) (aA (aa 0)) bQ) (ai (ar 2 (br (ag (dC (.int 2147483629)) (ag (dC (.int 2147483587)) (ag (dC (.int 2147483579)) (ag (dC (.int 2147483563)) (ag (dC (.int 2147483549)) (ag (dC (.int 2147483543)) (ag (dC (.int 2147483497)) (ag (dC (.int 2147483489)) af)))))))))) (ai (ar 2 (d2 (aa 2) (br (ag (dC (.int 2147483477)) (ag (dC (.int 2147483423)) (ag (dC (.int 2147483399)) (ag (dC (.int 2147483353)) (ag (dC (.int 2147483323)) af)))))) cv)) (ai (ar 3 (d2 (d2 (d2 (d2 (d2 (d2 (aa 0) (dC (.int 1000000007)) (dZ (λ_ j=>0<j) λi j=>.int (i%j))) (d2 (d2 (dC (.int 2)) (aa 1) f7) (dC (.int 69069)) cv) f7) (d2 (aa 1) (dC (.int 40503)) f7) cv) (dC (.int 977)) cv) (dC (.int 3)) (dZ fZ λi j=>.int (i ^ j.toNat))) (d2 (aa 2) (d2 (aa 1) (dC (.int 13)) (dZ (λ_ j=>0<j) λi j=>.int (i%j))) aE) (dZ (λ_ j=>0<j) λi j=>.int (i%j)))) (ai (ar 4 (d2 (d2 (d2 (d2 (d2 (aa 3) (d2 (aa 1) (dC (.int 3)) cv) f7) (d2 (aa 0) (dC (.int 65537)) (dZ (λ_ j=>0<j) λi j=>.int (i%j))) cv) (dC (.int 5)) cv) (dC (.int 5)) (dZ fZ λi j=>.int (i ^ j.toNat))) (d2 (aa 2) (d2 (d2 (aa 1) (dC (.int 5)) cv) (dC (.int 13)) (dZ (λ_ j=>0<j) λi j=>.int (i%j))) aE) (dZ (λ_ j=>0<j) λi j=>.int (i%j)))) (ai (ar 5 (d2 (d2 (d2 (d2 (aa 4) (d2 (aa 3) (dC (.int 1009)) (dZ (λ_ j=>0<j) λi j=>.int (i%j))) cv) (aa 1) cv) (dC (.int 3)) (dZ fZ λi j=>.int (i ^ j.toNat))) (d2 (aa 2) (d2 (d2 (aa 1) (dC (.int 7)) cv) (dC (.int 13)) (dZ (λ_ j=>0<j) λi j=>.int (i%j))) aE) (dZ (λ_ j=>0<j) λi j=>.int (i%j)))) (aA (d2 (d2 (d2 (d2 (aa 3) (dC (.int 2147483647)) f7) (aa 4) cv) (dC (.int 2147483647)) f7) (aa 5) cv))))))))
theorem Oy:Sem 2 4 wJ wK:=by
 ext t n o-⟨a,k,rfl,rfl,u,v,e⟩;unfold wK;let b:∀z g,gH 0 o (.p (.int z)) ⟨g,[]⟩:=λz g=>⟨[],Y,Y,e z⟩;simp! at ⊢;calc⟨⟨by decide,by decide,by decide⟩,?_⟩;split
 .exact b _ _
 let⟨c,h,i,w⟩:12:=wI k;let⟨f,j,l,x⟩:12:=wI (k+5);let⟨y,m,q,A⟩:12:=wI (k+7);erw[gJ,Xm,q0y] at h j m;erw[h,j,m];let r:0<=a%1000000007:=Zq _ (by decide);let B:=p9 r (Int.le_of_lt (Y4 _ (by decide))) ⋯ (show 2*k+69069<=2147552717 by symm);refine⟨by decide,.inl ⟨by decide,by decide⟩,.inl ⟨⋯,⋯⟩,.inr ⟨by decide,by decide⟩,⟨by decide,by decide,?cp1⟩,by decide,i,?_⟩
 case cp1 =>
  symm
 generalize(a%1000000007*(2*k+69069)+k*40503+977) ^ (3:Int).toNat=d;let s:0<=d%c:=Zq _ ⋯;let C:d%c<c:=Y4 _ i;let D:=p9 s (show d%c<=2147483648 by symm) ⋯ (show k+3<=1073741827 by symm);refine⟨.inl ⟨⋯,⋯⟩,by decide,⟨by decide,by decide,?cp2⟩,by decide,l,?_⟩
 case cp2 =>
  symm
 let E:0<=(d%c*(k+3)+a%65537+5) ^ (5:Int).toNat%f:=Zq _ ⋯;let F:(d%c*(k+3)+a%65537+5) ^ (5:Int).toNat%f<f:=Y4 _ l;calc⟨by decide,⟨by decide,by decide,⋯⟩,by decide,q,.inr ⟨by decide,by decide⟩,.inr ⟨by decide,by decide⟩,b _ _⟩
meta def fF(ns:-Int)(k z:Int):OV:=.lst [.lst (ns.map D.int),.int k,.int z]
structure aW(n:Int)(o:OV):Prop where
 out:∃ns k z,o=fF ns k z/\ns.length<=63/\0<=k/\k<=n
theorem aW.mono{n m:Int}{o:OV}(h:aW n o)(l:n<=m):aW m o:=by
 let⟨a,k,z,e,b,c,d⟩:33:=h.out;calc⟨a,k,z,e,b,c,⋯⟩
inductive wL (ys:-DV) (aN:-OV) (K:RV->-OV->Prop):Prop
 |mk (n) (o) (q:ys=[.o 0]) (q:aN=[o]) (q:aW n o) (q:∀o',aW n o'->K (.a 0) [o'])
def Dh:WS:=(ai (lF (dC (.int 0)) (aa 0) (dC (.int 2))) (aA (aa 0)))
theorem Oz:Sem 1 0 wL Dh:=by
 ext g c h-⟨n,o,rfl,rfl,P,a⟩;let⟨b,k,z,rfl,d,e,f⟩:33:=P.out;calc⟨[fF b k 0],Y,Y,a _ ⟨b,k,0,Y,d,e,f⟩⟩
inductive e_ (ys:-DV) (aN:-OV) (K:RV->-OV->Prop):Prop
 |mk (n m:Int) (o:OV) (q:ys=[.o 0,.p (.int m)]) (q:aN=[o]) (q:aW n o) (q:n<2 ^ 30) (q:0<m) (q:m<10 ^ 40) (q:∀r o',0<=r->r<m->aW (n+1) o'->K (.p (.int r)) [o'])
def wM:WS:=(ai (aO (dT (d2 (d2 (aa 0) (dC (.int 2)) aE) (aa 1) oLt)) (ai (ar 2 (d2 (aa 0) (dC (.int 1)) aE)) (ai (ar 3 (dC (.int 0))) (ai (aO (dT (d2 (aa 2) (dN (ag (d2 (aa 0) (dC (.int 0)) aE) af) bH) oLt)) (ar 3 (d2 (d2 (aa 0) (dC (.int 0)) aE) (aa 2) aE)) (aO (dT (d2 (dN (ag (d2 (aa 0) (dC (.int 0)) aE) af) bH) (dC (.int 0)) (oI λi j=>.bl (μ (j<i))))) (ar 3 (d2 (d2 (d2 (aa 0) (dC (.int 0)) aE) (d2 (d2 (d2 (aa 2) (dC (.int 5)) f7) (dC (.int 3)) cv) (dN (ag (d2 (aa 0) (dC (.int 0)) aE) af) bH) (dZ (λ_ j=>0<j) λi j=>.int (i%j))) aE) (d2 (d2 (dC (.int 10)) (dC (.int 17)) (dZ fZ λi j=>.int (i ^ j.toNat))) (aa 2) cv) (dZ (λ_ j=>0<j) λi j=>.int (i%j)))) bQ)) (ai (lF (d2 (aa 2) (dC (.int 1)) cv) (aa 0) (dC (.int 1))) (lF (aj 2 wJ (ag (aa 3) (ag (aa 2) af))) (aa 0) (dC (.int 2))))))) bQ) (ai (ar 4 (d2 (d2 (aa 0) (dC (.int 2)) aE) (aa 1) (dZ (λ_ j=>0<j) λi j=>.int (i%j)))) (ai (lF (d2 (d2 (aa 0) (dC (.int 2)) aE) (aa 1) (dZ sq λi j=>.int (i.fdiv j))) (aa 0) (dC (.int 2))) (aA (aa 4)))))
theorem OA:Sem 2 3 e_ wM:=by
 ext Q L F-⟨n,m,o,rfl,rfl,P,R,l,M,v⟩;let⟨q,k,z,rfl,O,G,S⟩:33:=P.out;unfold wM fF
 let r:∀e g H,0<=e->e<=n+1->gH 1 F (.p (.int (g%m))) ⟨H,[ζ (.lst [.lst (q.map D.int),.int e,.int (g.fdiv m)])]⟩:=λe g H a b =>
  ⟨[fF q e (g.fdiv m)],Y,Y,v _ _ (Zq _ ⋯) (Y4 _ l) ⟨q,e,_,Y,O,a,b⟩⟩
 let w:∀z,sq z m:=λz=>⟨⋯,⋯⟩
 let h:∀e g I J s,0<=e->e<=n+1->(ai (ar 4 (d2 (d2 (aa 0) (dC (.int 2)) aE) (aa 1) (dZ (λ_ j=>0<j) λi j=>.int (i%j)))) (ai (lF (d2 (d2 (aa 0) (dC (.int 2)) aE) (aa 1) (dZ sq λi j=>.int (i.fdiv j))) (aa 0) (dC (.int 2))) (aA (aa 4)))) (iw 1 F) ⟨[ζ (.o 0),ζ (.p (.int m)),I,J,s],[ζ (.lst [.lst (q.map D.int),.int e,.int g])]⟩:=λe g I J s a b=>by
  exact⟨l,w _,r _ _ _ a b⟩
 calc aI λN K=>d4 λA B t u=>?_;simp![at2] at ⊢;split
 .subst t
  calc aI λx f=>?_;simp![cR];subst f;calc aI λx f=>?_;simp!;subst f;refine aI λx f=>?_
  let y:∀c s,x ⟨[ζ (.o 0),ζ (.p (.int m)),ζ (.p (.int k)),ζ (.p (.int c)),s],[ζ (.lst [.lst (q.map D.int),.int k,.int z])]⟩:=λc s=>by
   subst f;simp![Ox];calc⟨c,k,Y,Y,G,⋯,λg=>?_⟩;subst K;exact h _ _ _ _ _ ⋯ ⋯
  calc d4 λA B t u=>?_;simp![cQ] at ⊢;split
  .rename_i C
   let⟨c,E⟩:=Df G (Xq C);subst t;simp![cQ];rw[E];exact y _ _
  .subst u
   calc d4 λA B t u=>?_;simp![cQ] at ⊢;split
   .rename_i d
    let d:=Xq d;let⟨c,E⟩:=Df   (Zq _ ⋯) (Y4 _ d);subst t;simp![cQ];calc⟨.inr ⟨by decide,by decide⟩,d,?_⟩;rw[E];exact⟨⟨by decide,by decide,by decide⟩,by show 0<10 ^ 17+k;symm,y _ _⟩
   .subst u
    exact y _ _
 .subst u K
  calc h _ _ _ _ _ ⋯ ⋯
meta def cK(p:Int×Int):D:=.tup [.int p.1,.int p.2]
structure di(many:Int)(ps:-(Int×Int)):Prop where
 ends:∀p∈ps,0<=p.1/\p.1<p.2/\p.2<many
 lT:ps.Nodup
 fW:↑ps<=66
theorem di.sub{a ps b}(h:di a ps)(s:b.Sublist ps):di a b :=
 ⟨λp c=>h.ends p (s.subset c),h.lT.sublist s,XQ s.length_le h.fW⟩
inductive wN (ys:-DV) (aN:-OV) (K:RV->-OV->Prop):Prop
 |mk (n kind many:Int) (o:OV) (q:ys=[.o 0,.p (.int kind),.p (.int many)]) (q:aN=[o]) (q:aW n o) (q:n+100<2 ^ 30) (q:1<=many) (q:many<=12) (q:∀ps o',di many ps->aW (n+67) o'->K (.n (ps.map cK)) [o'])
def wO:WS:=(ai (ar 3 (kJ af)) (ai (cD (g_ (ag (aa 2) af)) (aS 4) (jf (mJ (aa 3) (ag (bX (g_ (ag (aa 4) af)) [η,ζ 4] (aS 0) bY (bN (ag (aa 0) (ag (aa 1) af)))) af)))) (ai (aO (dT (d2 (aa 1) (dC (.int 1)) oEq)) (aA (jh (we (ag (dC (.int 1)) (ag (aa 2) af))) [η,ζ 0] (aS 0) bY (bN (ag (aj 2 e_ (ag (aa 1) (ag (aa 0) af))) (ag (aa 0) af))))) bQ) (ai (aO (dT (d2 (aa 1) (dC (.int 2)) oEq)) (ai (ar 5 (bX (g_ (ag (d2 (aa 2) (dC (.int 1)) (oI λi j=>.int (i-j))) af)) [η] (aS 0) bY (bN (ag (aa 0) (ag (d2 (aa 0) (dC (.int 1)) cv) af))))) (aA (wF (aa 5) (bX (aY (aa 3)) [η,ζ 2] (aS 0) (cJ (dT (d2 (aa 0) (bN (ag (dC (.int 0)) (ag (d2 (aa 1) (dC (.int 1)) (oI λi j=>.int (i-j))) af))) oEq)) (dT (d2 (aa 1) (dC (.int 2)) (oI λi j=>.bl (μ (j<i)))))) (aa 0))))) bQ) (ai (aO (dT (d2 (aa 1) (dC (.int 3)) oEq)) (aA (aa 3)) bQ) (ai (aO (dT (d2 (aa 1) (dC (.int 4)) oEq)) (aA (jh (aY (aa 3)) [η,ζ 0] (aS 0) (dT (d2 (aj 2 e_ (ag (aa 1) (ag (dC (.int 4)) af))) (dC (.int 0)) oEq)) (aa 0))) bQ) (ai (aO (dT (d2 (aa 1) (dC (.int 5)) oEq)) (ai (ar 6 (aj 2 e_ (ag (aa 0) (ag (d2 (aa 2) (dC (.int 1)) cv) af)))) (aA (jh (aY (aa 3)) [η,ζ 6,ζ 0] (aS 0) (cJ (dT (d2 (d2 (d2 (aa 0) (dC (.int 0)) aE) (aa 1) oLt) (d2 (d2 (aa 0) (dC (.int 1)) aE) (aa 1) oLt) oEq)) (dT (d2 (aj 2 e_ (ag (aa 2) (ag (dC (.int 3)) af))) (dC (.int 0)) (oI λi j=>.bl (μ (j<i)))))) (aa 0)))) bQ) (aA (jh (aY (aa 3)) [η,ζ 0] (aS 0) (dT (d2 (aj 2 e_ (ag (aa 1) (ag (dC (.int 2)) af))) (dC (.int 0)) oEq)) (aa 0))))))))))
theorem sub_snoc{b:Type}{a ps:-b}{i x}(h:a.Sublist (ps.take i))(e:ps[i]?=ζ x):(a++[x]).Sublist (ps.take (i+1))/\a.Sublist (ps.take (i+1)):=by
 let:ps.take (i+1)=ps.take i++[x]:=by rw[ZI,e];rfl
 rw[this];calc⟨h.append (q1s _),h.trans (q1B _ _)⟩
theorem OB{b:Type}{l:-b}{c}(h:l.Nodup)(a:∀x∈l,x=c):↑l<=1:=by
 match l,h,a with
 |[],_,_=>exact XZ _
 |[_],_,_=>exact vr _
 |x::y::r,h,a =>
  let:=(Ya.mp h).1 y (Vr);calc absurd ((a x Vr).trans (a y (Bi _ Vr)).symm) this
theorem wQ{n o ps t K a f l}(y:∀D o',l ⟨D,[ζ o',f]⟩)(G:↑ps<=66)(P:aW n o)(hn:n+70<2 ^ 30)
  (E:∀p (i:Nat) o' Q,p∈ps->i<=66->aW (n+i) o'->(∀b c,aW (n+i+1) c->Q b ⟨ζ (.p (cK p))::a,[ζ c,f]⟩)->t ⟨ζ (.p (cK p))::a,[ζ o',f]⟩ Q)
  (z:fO 2 a a=a)
  (v:∀(e:-(Int×Int)) o',e.Sublist ps->aW (n+↑ps) o'->K (e.map cK) ⟨η::a,[ζ o',f]⟩) :
  g9 ⟨η::a,[ζ o,f]⟩ l (aS 0) t (aa 0) K (ps.map cK) [] ⟨η::a,[ζ o,f]⟩:=by
 refine wB (λi g w=>∃(e:-(Int×Int))(k:OV),e.Sublist (ps.take i)/\g=e.map cK/\aW (n+i) k/\w=⟨η::a,[ζ k,f]⟩) (zI2 [] o ⟨q1s _,Y,P.mono ⋯,Y⟩) ?_ ?_
 .ext j d g w L A m B;let⟨e,k,h,rfl,s,rfl⟩:23:=m
  rw[KI] at A;let⟨p,u,rfl⟩:=My.mp A;let F:=(mj.mp u).1;refine⟨y _ _,E p j k _ (Xw u) ⋯ s λb c x=>?_⟩
  let q:↑(e.map cK)<1000:=by
   rw[kF];let:=h.length_le;rw[XN] at this;symm
  let C:aW (n+(j+1)) c:=x.mono ⋯
  cases b with
  |true =>
   calc⟨q,B _ _ (zI2 (e++[p]) c ⟨(sub_snoc h u).1,by rw[Xj];rfl,C,?_⟩)⟩;show(⟨η::fO 2 a a,_⟩:aH)=_;rw[z];rfl
  |false =>
   calc B _ _ (zI2 e c ⟨(sub_snoc h u).2,Y,C,?_⟩);show(⟨η::fO 2 a a,_⟩:aH)=_;rw[z];rfl
 .ext g w r;let⟨e,k,h,rfl,s,rfl⟩:23:=r
  rw[kF] at s h;rw[Yn (vr _)] at h;calc⟨y _ _,v e k h s⟩
theorem OC:Sem 3 4 wN wO:=by
 ext ys aN K'-⟨n,K,C,o,rfl,rfl,P,hn,m1,fA,M⟩;let⟨g,rfl⟩:∃g:Nat,C=g:=⟨C.toNat,⋯⟩;let O:g<=12:=by symm
 unfold wO;let f:di g (iu g):=⟨λp l=>vP l,BU g,BV g O⟩;calc aI λN w=>?_;simp!;subst w;calc aI λN w=>?_;simp!;calc⟨⋯,?_⟩;refine hJ (λi E=>E=⟨[ζ (.o 0),ζ (.p (.int K)),ζ (.p (.int g)),ζ (.o 1),η,η,η],[ζ o,ζ (.lst ((iu i).map cK))]⟩) rfl ?_ ?_
 .ext j d E L F rfl Z
  let⟨F,rfl⟩:=iT F;simp!;let e:(0+(j:Int))=j:=by symm
  rw[e];refine⟨⋯,?_⟩
  refine gT (λd=>match d with
   |.int a=>cK (a,j)
   |_=>.non) (by rw[iU];symm) trivial ?_ ?_
  .ext d R y L' G h
   let⟨i,z⟩:=Vt.mp R;let⟨z,rfl⟩:=iT z;simp!;exact⟨G,h⟩
  .let e2:(iu j).map cK++(cb 0 (j:Int).toNat).map (λd=>match d with
    |.int a=>cK (a,j)
    |_=>.non)=(iu (j+1)).map cK:=by
    show _=(iu j++_).map cK;unfold cb;rw[Xj,Xd,Xd];congr 1;calc YH λa _=>?_;simp[q4Z]
   simp!;let VA:=BV j ⋯;calc⟨by rw[iU];symm,?_⟩;rw[e2];exact Z _ rfl
 .ext E rfl
  calc⟨trivial,?_⟩;subst w;let eL:((g:Int)).toNat=g:=by symm
  rw[iU,eL];dsimp only
  let s:∀(H:-(Int×Int))(k:OV)(sl:-(Option DV))(m:-(Option OV)),di g H->aW (n+67) k->gH 1 K' (.o (↑m+1)) ⟨sl,ζ k::(m++[ζ (.lst (H.map cK))])⟩:=λH k sl m h1 h2=>by
   calc⟨[k],rfl,rfl,?_⟩;show if ↑m+1<1 then _ else _;rw[Vq ⋯]
   let:(ζ k::(m++[ζ (OV.lst (H.map cK))]))[↑m+1]?=ζ (ζ (.lst (H.map cK))):=by
    rw[Za,Xi (vr _),YE];rfl
   dsimp only;rw[this];exact .inl (M H k h1 h2)
  calc aI λN w=>?_;simp![aD] at ⊢;split
  .refine⟨⋯,?_⟩
   refine wB (λi y E=>∃(u:-(Int×Int))(k:OV),↑u=i/\(∀(q:Nat)(p:Int×Int),u[q]?=ζ p->p.2=q+1/\0<=p.1/\p.1<p.2)/\y=u.map cK/\aW (n+i) k/\E=⟨[η,ζ (.o 0)],[ζ k,ζ (.lst ((iu g).map cK))]⟩) (zI2 [] o ⟨rfl,λq p e=>by simp at e,rfl,P.mono ⋯,rfl⟩) ?_ ?_
   .ext j d y E L F S Z;let⟨u,k,A,T,rfl,t,rfl⟩:24:=S
    let⟨F,rfl⟩:=iT F;simp!;calc⟨n+j,1+j,k,rfl,rfl,t,⋯,⋯,⋯,λr B U V v=>?_⟩;simp!;refine⟨⋯,Z _ _ (zI2 (u++[(r,1+(j:Int))]) B ⟨by rw[KG,A];rfl,λq p e=>?_,by rw[Xj];rfl,v.mono ⋯,rfl⟩)⟩
    by_cases c:q<↑u
    .rw[Xc c] at e
     exact T q p e
    .let hl:=(mj.mp e).1
     rw[KG,XG] at hl;let:q=↑u:=by symm
     subst this;rw[Xi (vr _),YE] at e;cases(show ζ (r,1+(j:Int))=ζ p by simpa using e)
     exact⟨by show 1+(j:Int)=_;symm,U,V⟩
   .ext y E W;let⟨u,k,A,T,rfl,t,rfl⟩:24:=W
    rw[iU] at A t;calc⟨trivial,?_⟩;refine s u k _ [_] ⟨λp l=>?_,?_,⋯⟩ (t.mono ⋯)
    .let⟨q,X⟩:=Vt.mp l
     let:=T q p X;let hl:=(mj.mp X).1;symm
    .refine Z6.mpr λi j z F OD e=>?_
     let I:=T i _ (mf z);let Y:=T j _ (mf F);rw[e] at I;symm
  subst w;calc aI λN w=>?_;simp![aD] at ⊢;split
  .clear w
   refine⟨⋯,?_⟩
   refine gT (λd=>match d with
    |.int a=>cK (a,a+1)
    |_=>.non) (by rw[iU];symm) trivial ?_ ?_
   .ext d R y L' G h
    let⟨i,z⟩:=Vt.mp R;let⟨z,rfl⟩:=iT z;simp!;exact⟨G,h⟩
   .simp!
    refine f_ (λd=>aD d (cK (0,g-1))&&μ ((2:Int)<g)) id (by rw[kF];let:=f.fW;symm) rfl ?_ ?_
    .ext d R y L' G h h'
     let⟨p,l,rfl⟩:=Bk.mp R;erw[cK] at h h';simp![cK] at ⊢;split
     .rename_i I
      split
      .rename_i Y
       exact⟨G,h (by rw[I,Y];rfl)⟩
      .rename_i Y
       exact h' (by rw[I,q3M _ |>.mp Y];rfl)
     .rename_i I
      exact h' (by rw[q3M _ |>.mp I];rfl)
    .simp!
     let er:(cb 0 ((g:Int)-1).toNat).map (λd=>match d with
       |D.int a=>cK (a,a+1)
       |x=>D.non)=((Xz (g-1)).map λi:Nat=>((i:Int),(i:Int)+1)).map cK:=by
      unfold cb;rw[Xd,Xd];let:((g:Int)-1).toNat=g-1:=by symm
      rw[this];calc YH λa _=>?_;simp[q4Z]
     let ef:(((iu g).map cK).filter λd=>aD d (cK (0,g-1))&&μ ((2:Int)<g))=((iu g).filter λp=>aD (cK p) (cK (0,g-1))&&μ ((2:Int)<g)).map cK:=by
      rw[XP];rfl
     rw[er,YI,ef,<-Xj]
     let hf:∀p∈(iu g).filter (λp=>aD (cK p) (cK (0,g-1))&&μ ((2:Int)<g)),p=(0,(g:Int)-1)/\(2:Int)<g:=λp l=>by
      let:=(Xf.mp l).2;simp[cK,aD,bw] at this;let⟨a,b⟩:=p;simp at this ⊢;symm
     let h1:↑((iu g).filter (λp=>aD (cK p) (cK (0,g-1))&&μ ((2:Int)<g)))<=1:=OB (f.lT.sublist YY) λp l=>(hf p l).1;refine⟨by rw[iU,kF];symm,s _ o _ [_] ⟨λp l=>?_,?_,?_⟩ (P.mono ⋯)⟩
     .rcases W9.mp l with l|l
      .let⟨i,z,rfl⟩:=Bk.mp l
       let:=Xr.mp z;exact⟨⋯,⋯,by show(i:Int)+1<g;symm⟩
      .exact f.ends p (Xf.mp l).1
     .refine XT.mpr ⟨?_,f.lT.sublist YY,λa G b hb e=>?_⟩
      .refine X9.mpr (q0D.imp λ{a b} ne e=>ne ?_)
       let:=congrArg q6B e;exact q1A this
      .subst e
       let⟨i,z,rfl⟩:=Bk.mp G;let:=hf _ hb;let h2:=congrArg q6B this.1;let h3:=congrArg Prod.snd this.1;simp at h2 h3;symm
     .rw[KG,kF,Ye];symm
  subst w;calc aI λN w=>?_;simp![aD] at ⊢;split
  .exact⟨[o],rfl,rfl,.inl (M _ _ f (P.mono ⋯))⟩
  subst w;calc aI λN w=>?_;simp![aD] at ⊢;split
  .refine wQ (λ_ _=>rfl) f.fW P ⋯ (λp i k Q l z t J=>?_) rfl λu k A t=>?_
   .simp![aD]
    calc⟨n+i,4,k,rfl,rfl,t,⋯,⋯,⋯,λr B U V v=>?_⟩;simp!;exact J _ _ v
   .exact s u k _ [_] (f.sub A) (t.mono (by let:=f.fW;symm))
  subst w;calc aI λN w=>?_;simp![aD] at ⊢;split
  .refine⟨n,g+1,o,rfl,rfl,P,⋯,⋯,⋯,λhalf o1 U V P1=>wQ  (λ_ _=>rfl) f.fW P1 ⋯ (λp i k Q l z t J=>?_) rfl λu k A t=>?_⟩
   .simp![aD,cK,cQ,cR] at ⊢
    split
    .exact⟨n+1+i,3,k,rfl,rfl,t,⋯,⋯,⋯,λr B U V v=>J _ _ v⟩
    .exact J _ _ (t.mono ⋯)
   .exact s u k _ [_] (f.sub A) (t.mono (by let:=f.fW;symm))
  subst w;refine wQ (λ_ _=>rfl) f.fW P ⋯ (λp i k Q l z t J=>?_) rfl λu k A t=>?_
  .simp![aD]
   calc⟨n+i,2,k,rfl,rfl,t,⋯,⋯,⋯,λr B U V v=>?_⟩;simp!;exact J _ _ v
  .calc s u k _ [_] (f.sub A) (t.mono (by let:=f.fW;symm))
theorem Di{a:Type}:∀{l:-a}{j:Nat}(h:j<↑l),q74 (l[j]::l.eraseIdx j) l
 |x::r,0,h=>q05 _
 |x::r,j+1,h=>by
  let b:=by simpa using h
  calc(q06 x r[j] _).trans ((Di b).cons x)
theorem wR{a b:Type}(f:a->b):∀(l:-a) j,(l.map f).eraseIdx j=(l.eraseIdx j).map f
 |[],_=>Y
 |_::_,0=>Y
 |x::r,j+1=>by
  show f x::(r.map f).eraseIdx j=f x::(r.eraseIdx j).map f;rw[wR f r j]
meta def bc(y:Int×Int×Int):D:=.tup [.int y.1,.int y.2.1,.int y.2.2]
meta def az(m:Int)(ys:-(Int×Int×Int)):D:=.tup [.int m,.tup (ys.map bc)]
meta def kR(y:Int×Int×Int):Int×Int:=(y.1,y.2.1)
theorem di.perm{a ps b}(h:di a ps)(p:b.Perm ps):di a b :=
 ⟨λx c=>h.ends x (p.mem_iff.mp c),p.nodup_iff.mpr h.lT,by rw[p.length_eq];calc h.fW⟩
inductive wU (ys:-DV) (aN:-OV) (K:RV->-OV->Prop):Prop
 |mk (n gc most:Int) (o:OV) (q:ys=[.o 0,.p (.int gc),.p (.int most)]) (q:aN=[o]) (q:aW n o) (q:n+400<2 ^ 30) (q:1<=gc) (q:gc<=12) (q:0<=most) (q:most<=30) (q:∀m ws o',ak m ws->m<=gc->(↑ws:Int)<=most->aW (n+300) o'->K (.p (az m ws)) [o'])
def wV:WS:=(ai (ar 3 (aj 2 e_ (ag (aa 0) (ag (dC (.int 8)) af)))) (ai (ar 4 (aj 2 e_ (ag (aa 0) (ag (dC (.int 4)) af)))) (ai (ar 5 (d2 (dC (.int 1)) (aj 2 e_ (ag (aa 0) (ag (aa 1) af))) cv)) (ai (ar 6 (nT 3 wN (ag (aa 0) (ag (aa 3) (ag (aa 5) af))))) (ai (ar 7 (kJ af)) (ai (cD (g_ (ag (dN (ag (aa 2) (ag (dN (ag (aa 6) af) bH) af)) pU) af)) (aS 8) (ai (eJ (n6 (aa 6) (ag (aj 2 e_ (ag (aa 0) (ag (dN (ag (aa 6) af) bH) af))) af)) (fN 2 (cH (aS 9) (cH (aS 10) fB)))) (ai (ar 11 (d2 (br (ag (dC (.int 7)) (ag (aj 2 e_ (ag (aa 0) (ag (dC (.int 3)) af))) (ag (d2 (d2 (dC (.int 10)) (dC (.int 9)) (dZ fZ λi j=>.int (i ^ j.toNat))) (aj 2 e_ (ag (aa 0) (ag (dC (.int 2)) af))) (oI λi j=>.int (i-j))) (ag (aj 2 e_ (ag (aa 0) (ag (d2 (d2 (dC (.int 10)) (dC (.int 9)) (dZ fZ λi j=>.int (i ^ j.toNat))) (dC (.int 1)) cv) af))) af))))) (aa 4) aE)) (jf (fE (aa 7) (ag (bN (ag (aa 9) (ag (aa 10) (ag (aa 11) af)))) af)))))) (aA (bN (ag (aa 5) (ag (dN (ag (aa 7) af) wt) af))))))))))
theorem OE:Sem 3 9 wU wV:=by
 ext ys aN K'-⟨n,e,f,o,rfl,rfl,P,hn,h1,OF,s0,VB,H⟩;unfold wV;calc aI λN g=>?_;simp!;calc⟨n,8,o,rfl,rfl,P,⋯,⋯,⋯,λq I _ _ J=>?_⟩;simp!;subst g;calc aI λN g=>?_;simp!;calc⟨n+1,4,I,rfl,rfl,J,⋯,⋯,⋯,λa K p0 p4 M=>?_⟩;simp!;subst g;calc aI λN g=>?_;simp!;calc⟨n+1+1,e,K,rfl,rfl,M,⋯,⋯,⋯,λE O m0 mh Q=>?_⟩;simp!;subst g;calc aI λN g=>?_;simp!;calc⟨n+1+1+1,q,1+E,O,rfl,rfl,Q,⋯,⋯,⋯,λv R w S=>?_⟩;simp!
 subst g;calc aI λN g=>?_;simp!;subst g;calc aI λN g=>?_;let VC:=w.fW;simp!;calc⟨⋯,?_⟩;let ek:(min f (v.length:Int)).toNat=min f.toNat v.length:=by symm
 rw[ek];generalize hk:min f.toNat v.length=k
 refine hJ (λi T=>∃(b:-(Int×Int))(s:-(Int×Int×Int))(t:OV),↑b+i=v.length/\↑s=i/\di (1+E) (s.map kR++b)/\(∀y∈s,0<=y.2.2/\y.2.2<=1000000000)/\aW (n+70+4*i) t ∧
  T=⟨[ζ (.o 0),ζ (.p (.int e)),ζ (.p (.int f)),ζ (.p (.int q)),ζ (.p (.int a)),ζ (.p (.int (1+E))),ζ (.o 1),ζ (.o 2),η,η,η,η],[ζ t,ζ (.lst (b.map cK)),ζ (.lst (s.map bc))]⟩)
  (zI3 v [] R ⟨⋯,rfl,w,λy x=>absurd x XJ,S.mono ⋯,rfl⟩) ?_ ?_
 .ext j d T L hj z hL;let⟨b,s,t,hq,U,A,x,F,rfl⟩:35:=z
  let⟨hj,rfl⟩:=iT hj;let q0:0<↑b:=by symm
  let V:=A.fW;rw[KG,kF] at V;calc⟨trivial,?_⟩;erw[aS,XW,XX];calc aI λN2 u=>?_;simp!;calc⟨n+70+4*j,↑b,t,rfl,rfl,F,⋯,⋯,⋯,λr I r0 r1 J=>?_⟩;let⟨l,rfl⟩:∃l:Nat,r=l:=⟨r.toNat,⋯⟩;let G:l<↑b:=by symm
  let ix:seqIndex? (l:Int) ↑b=ζ l:=BW G;let eq:(b.map cK)[l]?=ζ (.tup [.int b[l].1,.int b[l].2]):=by rw[KI,mf G];rfl
  simp![ix,eq];calc⟨⟨⋯,⋯⟩,?_⟩;subst u;calc aI λN2 u=>?_;erw[ar,d2,br];calc sv λW c=>?_;simp!;subst c;calc sv λW c=>?_;simp!;calc⟨n+70+4*j+1,3,I,rfl,rfl,J,⋯,⋯,⋯,λa1 K VD VF M=>?_⟩;simp!;subst c;calc sv λW c=>?_;simp!;calc⟨⟨by decide,by decide,by decide⟩,n+70+4*j+1+1,2,K,rfl,rfl,M,⋯,⋯,⋯,λa2 O VG VH Q=>?_⟩;simp!;subst c;calc sv λW c=>?_;simp!;refine⟨⟨by decide,by decide,by decide⟩,n+70+4*j+1+1+1,10 ^ q8f 9+1,O,rfl,rfl,Q,⋯,by decide,by decide,λa3 R VI X S=>?_⟩
  simp!;subst c;simp!;let e9:(10:Int) ^ q8f 9=1000000000:=by decide
  rw[e9] at X ⊢
  let⟨B,Y,Z,OG⟩:∃B:Int,eD [D.int 7,D.int a1,D.int (1000000000-a2),D.int a3] a=ζ (.int B)/\0<=B/\B<=1000000000:=by
   let:a=0\/a=1\/a=2\/a=3:=by symm
   rcases this with rfl|rfl|rfl|rfl
   .exact⟨7,rfl,⋯,⋯⟩
   .exact⟨a1,rfl,⋯,⋯⟩
   .exact⟨1000000000-a2,rfl,⋯,⋯⟩
   .exact⟨a3,rfl,⋯,⋯⟩
  rw[Y];subst u;simp!;refine⟨⋯,hL _ (zI3 (b.eraseIdx l) (s++[(b[l].1,b[l].2,B)]) R ⟨?_,?_,?_,?_,S.mono ⋯,?_⟩)⟩
  .rw[ZX G];symm
  .rw[KG,U];rfl
  .refine A.perm ?_
   rw[Xj,YV];exact q2a _ (Di G)
  .ext y m
   rcases W9.mp m with h|h
   .exact x y h
   .rw[W7.mp h];exact⟨Z,OG⟩
  .rw[Xj,wR];rfl
 .ext T C;let⟨b,s,t,hq,U,A,x,F,rfl⟩:35:=C
  calc⟨trivial,?_⟩;subst g;simp!;rw[iU] at U F;refine⟨[t],rfl,rfl,H (1+E) s t ⟨⋯,⋯,⋯,λy m=>?_,?_⟩ ⋯ ⋯ (F.mono ⋯)⟩
  .let:=A.ends (kR y) (Xv _ (Bk.mpr ⟨y,m,rfl⟩))
   let h2:=x y m;erw[kR] at this;symm
  .calc (XT.mp A.lT).1
end LJ
namespace L2
open PySem PySem.Spec PyProof.Rows
variable[zt:aB]
section
variable{X:Cx}{fa:WA}
end
end L2
namespace LJ
open PySem L2
variable[zt:aB]
meta def Dj:D->Bool
 |.int _=>θ
 |_=>ι
meta def p_:D->Int->Int->Bool
 |.int i,a,b=>μ (a<=i)&&μ (i<=b)
 |_,_,_=>ι
meta def wW:D->Int->Bool
 |.tup a,n=>(↑a:Int)==n
 |_,_=>ι
theorem gf{K d a}(h:K (.p d) []):gH 0 K (.p d) ⟨a,[]⟩:=⟨[],Y,Y,h⟩
inductive sx (ys:-DV) (aN:-OV) (K:RV->-OV->Prop):Prop
 |mk (d) (q:ys=[.p d]) (q:aN=[]) (q:K (.p (.bl (Dj d))) [])
def wX:WS:=(aA (jF (d1 (aa 0) (eM "int")) (rS (d1 (aa 0) (eM "bool")))))
theorem Dl:Sem 1 0 sx wX:=by
 ext b a c-⟨d,rfl,rfl,k⟩;unfold wX;simp!;cases d<;>erw[fg,cP]<;>calc gf k
inductive lJ (ys:-DV) (aN:-OV) (K:RV->-OV->Prop):Prop
 |mk (d) (lo) (hi) (q:ys=[.p d,.p (.int lo),.p (.int hi)]) (q:aN=[]) (q:K (.p (.bl (p_ d lo hi))) [])
def wY:WS:=(aA (jF (aj 1 sx (ag (aa 0) af)) (r_ (aa 1) (aa 0) (aa 2) (oI λi j=>.bl (μ (i<=j))) (oI λi j=>.bl (μ (i<=j))))))
theorem Dm:Sem 3 0 lJ wY:=by
 ext e a f-⟨d,b,g,rfl,rfl,k⟩;unfold wY;simp!;calc⟨d,Y,Y,?_⟩;cases d<;>simp![Dj,p_] at k ⊢ <;> first|exact gf k|skip
 rename_i i
 by_cases c:b<=i
 .rw[Bj c] at k ⊢
  exact gf k
 .rw[Bh c] at k ⊢
  calc gf k
inductive qc (ys:-DV) (aN:-OV) (K:RV->-OV->Prop):Prop
 |mk (d) (n) (q:ys=[.p d,.p (.int n)]) (q:aN=[]) (q:K (.p (.bl (wW d n))) [])
def wZ:WS:=(aA (jF (d1 (aa 0) (eM "tuple")) (d2 (dN (ag (aa 0) af) bH) (aa 1) oEq)))
theorem OH:Sem 2 0 qc wZ:=by
 ext b a c-⟨d,n,rfl,rfl,k⟩;unfold wZ;cases d<;>simp![fg,cP,wW,aD] at k ⊢ <;> calc gf k
def sy:GD:=sx
def Dp:WS:=(aA (jF (d1 (aa 0) (eM "int")) (rS (d1 (aa 0) (eM "bool")))))
theorem OI:Sem 1 0 sy Dp:=Dl
def w1:GD:=lJ
def Dq:WS:=(aA (jF (aj 1 sy (ag (aa 0) af)) (r_ (aa 1) (aa 0) (aa 2) (oI λi j=>.bl (μ (i<=j))) (oI λi j=>.bl (μ (i<=j))))))
theorem OJ:Sem 3 0 w1 Dq:=Dm
end LJ
namespace L2
open PySem PySem.Spec PyProof.Rows
variable[zt:aB]
def Dr:-D->(D->Prop)->Prop:=λb K=>∃a:-(Int×Int),b=[.lst (a.map λp=>.tup [.int p.1,.int p.2])]/\↑a<=30/\(∀p∈a,0<=p.1/\p.1<p.2/\p.2<12)/\a.Nodup/\K (.int ↑a)
section
variable{X:Cx}{fa:WA}
theorem OK{a w d x e}(y:X.calm=θ)(z:X.A.units+64<cLine)(f:Gl X "len")(h:X.mg "len" = η)(j:bootBuiltins "len" = ζ (.builtin "len"))(l:Gl X "set")(B:X.mg "set" = η)(m:bootBuiltins "set" = ζ (.type "set"))(C:JA X [a] (bM fa))
  (he:‹starEach [a] X.env=[(ι,eval a X.env)]›) (D:‹starEach [.Call (.Name "set" d) [a] [] e] X.env=[(ι,eval (.Call (.Name "set" d) [a] [] e) X.env)]›):JE X (.Call (.Name "len" w) [.Call (.Name "set" d) [a] [] e] [] x) (tD (dN fa Dr)) :=
 (l9 (Mc) f h j (g0 (kE (Mb y z) l B m C (he:=he)) a_)).weak fun σ H Q ⟨F,E,G,K,S,q,k⟩=>⟨F,E,G,_,S,q,λxs I J L F1 M t N c O=>by
  let⟨ds,⟨n,rfl,o,P,r,R⟩,s⟩:11:=mw c O J;let⟨v,rfl,a,L,rfl,T,U⟩:1122:=f9 s;let⟨V,rfl,h,g⟩:=Dc U;calc(zI3 a V n ⟨rfl,bf.of T,h,λi b W Y Z=>c.sub _ _ (g i b W Y Z),P,r,o,λp hp=>(zI2 p ↑n ⟨rfl,bj,⋯,?_⟩)⟩);let u:ay t (upd t p (jC p ↑n)):=b_ hp
  calc k _ _ R _ _ _ _ (N.trans (Ext.al c u)) (c.al u) rfl⟩
end
end L2
namespace LJ
open PySem L2
variable[zt:aB]
theorem sA{i a b}(h:a<=i)(h':i<=b):p_ (.int i) a b=θ:=by
 show(μ (a<=i)&&μ (i<=b))=θ;rw[Bj h,Bj h'];rfl
inductive w4 (ys:-DV) (aN:-OV) (K:RV->-OV->Prop):Prop
 |mk (m i j:Int) (q:ys=[.p (.int m),.p (.int i),.p (.int j)]) (q:aN=[]) (q:0<=i) (q:i<j) (q:j<m) (q:K (.p (.bl θ)) [])
def w5:WS:=(aA (jF (aj 3 lJ (ag (aa 1) (ag (dC (.int 0)) (ag (d2 (aa 0) (dC (.int 1)) (oI λi j=>.int (i-j))) af)))) (aj 3 lJ (ag (aa 2) (ag (d2 (aa 1) (dC (.int 1)) cv) (ag (d2 (aa 0) (dC (.int 1)) (oI λi j=>.int (i-j))) af))))))
theorem OL:Sem 3 0 w4 w5:=by
 ext c a d-⟨m,i,j,rfl,rfl,b,e,f,k⟩;unfold w5;simp!;calc⟨.int i,0,m-1,Y,Y,?_⟩;rw[sA b ⋯];simp!;calc⟨.int j,i+1,m-1,Y,Y,?_⟩;rw[sA ⋯ ⋯];calc gf k
structure Ds(m:Int)(y:Int×Int×Int):Prop where
 low:0<=y.1
 up:y.1<y.2.1
 most:y.2.1<m
 pr:0<=y.2.2/\y.2.2<=1000000000
inductive w6 (ys:-DV) (aN:-OV) (K:RV->-OV->Prop):Prop
 |mk (m) (y) (q:Ds m y) (q:ys=[.p (.int m),.p (bc y)]) (q:aN=[]) (q:K (.p (.bl θ)) [])
def Dt:WS:=(ai (aO (cu (dT (aj 2 qc (ag (aa 1) (ag (dC (.int 3)) af))))) (aA (dC (.bl ι))) bQ) (aA (jF (aj 3 w4 (ag (aa 0) (ag (d2 (aa 1) (dC (.int 0)) aE) (ag (d2 (aa 1) (dC (.int 1)) aE) af)))) (aj 3 lJ (ag (d2 (aa 1) (dC (.int 2)) aE) (ag (dC (.int 0)) (ag (dC (.int 1000000000)) af)))))))
theorem OM:Sem 2 0 w6 Dt:=by
 ext c a d-⟨m,y,W,rfl,rfl,k⟩;calc aI λN b=>?_;simp!;calc⟨bc y,3,Y,Y,?_⟩;subst b;simp![bc,cQ,cR,at2];calc⟨m,_,_,Y,Y,W.low,W.up,W.most,⟨_,0,1000000000,Y,Y,?_⟩⟩;rw[sA W.pr.1 W.pr.2];calc gf k
theorem ak.way{m}{ws:-(Int×Int×Int)}(W:ak m ws){y}(h:y∈ws):Ds m y :=
 let⟨a,b,c,d,e⟩:=W.ends y h
 ⟨a,⋯,⋯,d,e⟩
inductive w9 (ys:-DV) (aN:-OV) (K:RV->-OV->Prop):Prop
 |mk (m) (ws) (q:ak m ws) (q:ys=[.p (.int m),.p (.tup (ws.map bc))]) (q:aN=[]) (q:K (.p (.bl θ)) [])
def Du:WS:=(ai (aO (je (cu (dT (d1 (aa 1) (eM "tuple")))) (dT (d2 (dN (ag (aa 1) af) bH) (dC (.int 30)) (oI λi j=>.bl (μ (j<i)))))) (aA (dC (.bl ι))) bQ) (ai (aO (cu (dT (dN (ag (bX (aY (aa 1)) [η,ζ 0] (aS 0) bY (aj 2 w6 (ag (aa 1) (ag (aa 0) af)))) af) jI))) (aA (dC (.bl ι))) bQ) (aA (d2 (dN (ag (bX (aY (aa 1)) [η] (aS 0) bY (dQ (aa 0) dP (iy (dC (.int 2))))) af) Dr) (dN (ag (aa 1) af) bH) oEq))))
theorem ON:Sem 2 0 w9 Du:=by
 ext t n u-⟨m,e,W,rfl,rfl,k⟩;let f:=W.h_;let o:=W.fA;calc aI λN g=>?_;simp![fg,show cP "tuple" "tuple" = θ from rfl];rw[Vq (by rw[Bh ⋯];decide)];subst g;refine aI λN g=>gT (λ_=>.bl θ) (by rw[kF];symm) trivial ?_ ?_
 .ext d i j L l h
  let⟨y,c,rfl⟩:=Bk.mp i;simp!;exact⟨m,y,W.way c,rfl,rfl,⟨l,h⟩⟩
 rw[show(e.map bc).map (λ_=>D.bl θ)=(e.map λ_=>θ).map D.bl by rw[Xd,Xd];rfl];simp![wu];rw[XS.mpr λb q=>by let⟨_,_,rfl⟩:=Bk.mp q;rfl];subst g
 refine gT (λd=>match d with
  |.tup [a,b,_]=>.tup [a,b]
  |_=>.non) (by rw[kF];symm) trivial ?_ ?_
 .ext d i j L l h
  let⟨y,c,rfl⟩:=Bk.mp i;let r:cutD [D.int y.1,D.int y.2.1,D.int y.2.2] η (ζ 2)=[D.int y.1,D.int y.2.1]:=rfl;simp![bc,r] at h ⊢;exact⟨l,h⟩
 refine⟨e.map kR,by rw[Xd,Xd];rfl,by rw[kF];calc f,λp s=>?_,W.unlike,?_⟩
 .let⟨y,c,rfl⟩:=Bk.mp s
  let Y:=W.way c;let:=Y.most;exact⟨Y.low,Y.up,by show y.2.1<12;symm⟩
 simp![aD];calc gf k
inductive w_ (ys:-DV) (aN:-OV) (K:RV->-OV->Prop):Prop
 |mk (m) (ws) (q:ak m ws) (q:ys=[.p (az m ws)]) (q:aN=[]) (q:K (.p (.bl θ)) [])
def Dv:WS:=(ai (aO (cu (dT (aj 2 qc (ag (aa 0) (ag (dC (.int 2)) af))))) (aA (dC (.bl ι))) bQ) (aA (jF (aj 3 lJ (ag (d2 (aa 0) (dC (.int 0)) aE) (ag (dC (.int 1)) (ag (dC (.int 12)) af)))) (aj 2 w9 (ag (d2 (aa 0) (dC (.int 0)) aE) (ag (d2 (aa 0) (dC (.int 1)) aE) af))))))
theorem OO:Sem 1 0 w_ Dv:=by
 ext d b e-⟨m,a,W,rfl,rfl,k⟩;calc aI λN c=>?_;simp!;calc⟨az m a,2,Y,Y,?_⟩;subst c;simp![az,cQ,cR];calc⟨.int m,1,12,Y,Y,?_⟩;rw[sA W.m1 W.fA];calc⟨m,a,W,Y,Y,gf k⟩
meta def aK(ns:-Int):D:=.lst (ns.map D.int)
meta def fP(fs:-Int)(i j:Nat):-Int:=fs.map λx=>if x=max (fs.getD i 0) (fs.getD j 0) then min (fs.getD i 0) (fs.getD j 0) else x
theorem qd fs i j:↑(fP fs i j)=fs.length:=by unfold fP;rw[kF]
theorem iY{ns:-Int}{i}(h:i<ns.length):eD (ns.map D.int) (i:Int)=ζ (.int (ns.getD i 0)):=by
 calc iG ?_;rw[KI,mf h,o8,mf h];rfl
theorem bg{K d a mu}(h:K (.p d) []):gH 0 K (.p d) ⟨a,mu⟩:=⟨[],Y,Y,h⟩
inductive sC (ys:-DV) (aN:-OV) (K:RV->-OV->Prop):Prop
 |mk (fs:-Int) (i j:Nat) (q:ys=[.p (aK fs),.p (.int i),.p (.int j)]) (q:aN=[]) (q:i<fs.length) (q:j<fs.length) (q:fs.length<=12) (q:K (.p (aK (fP fs i j))) [])
def xa:WS:=(ai (ar 3 (dN (ag (d2 (aa 0) (aa 1) aE) (ag (d2 (aa 0) (aa 2) aE) af)) wy)) (ai (ar 4 (dN (ag (d2 (aa 0) (aa 1) aE) (ag (d2 (aa 0) (aa 2) aE) af)) pU)) (aA (bX (aY (aa 0)) [η,ζ 4,ζ 3] (aS 0) bY (pC (dT (d2 (aa 0) (aa 2) oEq)) (aa 1) (aa 0))))))
theorem OP:Sem 3 2 sC xa:=by
 ext s l t-⟨a,i,j,rfl,rfl,m,n,o,k⟩;let c:=iY m;let f:=iY n;unfold xa aK;calc aI λN b=>?_;simp![c,f];subst b;calc aI λN b=>?_;simp![c,f];subst b
 refine gT (λd=>match d with
  |.int x=>.int (if x=max (a.getD i 0) (a.getD j 0) then min (a.getD i 0) (a.getD j 0) else x)
  |_=>.non) (by rw[kF];symm) trivial ?_ ?_
 .ext d p r L g h
  let⟨x,_,rfl⟩:11:=Bk.mp p;simp!;cases q:aD (.int x) (.int (max (a.getD i 0) (a.getD j 0)))
  .let:¬ x=max (a.getD i 0) (a.getD j 0):=λz=>by rw[z,iV] at q;cases q
   erw[this,Z8] at h;exact⟨g,h⟩
  .let:=Xg q
   erw[this,q0c] at h;exact⟨g,h⟩
 .refine bg ?_
  let e:(a.map D.int).map (λd=>match d with
   |.int x=>D.int (if x=max (a.getD i 0) (a.getD j 0) then min (a.getD i 0) (a.getD j 0) else x)
   |_=>.non)=(fP a i j).map D.int:=by
   unfold fP;rw[Xd,Xd];rfl
  rw[e];calc k
meta def de(ws:-(Int×Int×Int))(n:Int):Nat×Nat:=((ws.getD n.toNat (0,0,0)).1.toNat,(ws.getD n.toNat (0,0,0)).2.1.toNat)
meta def fj(ws:-(Int×Int×Int))(fs:-Int)(ns:-Int):-Int:=ns.foldl (λa n=>fP a (de ws n).1 (de ws n).2) fs
theorem sD(ws:-(Int×Int×Int)):∀ns fs,↑(fj ws fs ns)=fs.length
 |[],a=>Y
 |n::r,a=>by
  show↑(fj ws (fP a _ _) r)=_;rw[sD ws r,qd]
meta def eV(m:Int)(ws:-(Int×Int×Int))(ns:-Int):-Int:=fj ws (aZ m.toNat) ns
def Nums(ws:-(Int×Int×Int))(ns:-Int):Prop:=∀n∈ns,0<=n/\n<(↑ws:Int)
theorem lK{m}{ws:-(Int×Int×Int)}(W:ak m ws){n}(e:0<=n)(f:n<(↑ws:Int)):∃y,ws.getD n.toNat (0,0,0)=y/\y∈ws/\eD (ws.map bc) n=ζ (bc y)/\∃i j:Nat,y.1=i/\y.2.1=j/\i<m.toNat/\j<m.toNat/\i<j:=by
 let⟨k,rfl⟩:∃k:Nat,n=k:=⟨n.toNat,⋯⟩;let d:k<↑ws:=by symm
 refine⟨ws[k],?_,Yk d,iG ?_,?_⟩
 .rw[Xn,o8,mf d];rfl
 .rw[KI,mf d];rfl
 .let⟨a,b,c,_,_⟩:04:=W.ends _ (Yk d)
  calc(zI2 ws[k].1.toNat ws[k].2.1.toNat ⟨⋯,⋯,⋯,⋯,⋯⟩)
inductive n9 (ys:-DV) (aN:-OV) (K:RV->-OV->Prop):Prop
 |mk (m:Int) (ws:-(Int×Int×Int)) (ns:-Int) (q:ak m ws) (q:Nums ws ns) (q:((ys=[.p (az m ws),.p (aK ns)]/\aN=[]/\K (.p (aK (eV m ws ns))) [])\/(ys=[.p (az m ws),.o 0]/\aN=[.lst (ns.map D.int)]/\K (.p (aK (eV m ws ns))) [.lst (ns.map D.int)])))
def Dw:WS:=(ai (ar 2 (n5 (ag (d2 (aa 0) (dC (.int 0)) aE) af))) (ai (cD (aY (aa 1)) (aS 3) (ai (ar 4 (d2 (d2 (aa 0) (dC (.int 1)) aE) (aa 3) aE)) (ar 2 (aj 3 sC (ag (aa 2) (ag (d2 (aa 4) (dC (.int 0)) aE) (ag (d2 (aa 4) (dC (.int 1)) aE) af))))))) (aA (aa 2))))
theorem OQ:Sem 2 3 n9 Dw:=by
 ext ys G K'-⟨m,a,b,W,H,h⟩;let m1:=W.m1;let I:=W.fA;let J:↑(aZ m.toNat)=m.toNat:=by unfold aZ;simp
 let g:∀(x:DV)(c:-(Option OV))(l:aH->Prop)(K:KS),(∀M,l ⟨M,c⟩)->(∀u,u=eV m a b->K.nx ⟨[ζ (.p (az m a)),ζ x,ζ (.p (aK u)),η,η],c⟩)->((∃d,x=.p d)\/∃k,x=.o k/\k<↑c) →
   jg ⟨[ζ (.p (az m a)),ζ x,ζ (.p (aK (aZ m.toNat))),η,η],c⟩ l (aS 3) (ai (ar 4 (d2 (d2 (aa 0) (dC (.int 1)) aE) (aa 3) aE)) (ar 2 (aj 3 sC (ag (aa 2) (ag (d2 (aa 4) (dC (.int 0)) aE) (ag (d2 (aa 4) (dC (.int 1)) aE) af)))))) K (b.map D.int) ⟨[ζ (.p (az m a)),ζ x,ζ (.p (aK (aZ m.toNat))),η,η],c⟩:=by
  ext x c l K z s O;refine hJ (λi v=>v=⟨[ζ (.p (az m a)),ζ x,ζ (.p (aK (fj a (aZ m.toNat) (b.take i)))),η,η],c⟩) rfl ?_ ?_
  .ext j d v L A rfl P
   rw[KI] at A;let⟨n,t,rfl⟩:=My.mp A;let⟨Q,R⟩:=H n (Xw t);let⟨y,S,hy,T,i,k,B,C,h1,h2,_⟩:1324:=lK W Q R;calc⟨z _,?_⟩;erw[aS,XW,XX];calc aI λN f=>?_;simp![cR,az,T];subst f;simp![cQ,cR,bc];let E:↑(fj a (aZ m.toNat) (b.take j))=m.toNat:=by rw[sD,J]
   refine⟨fj a (aZ m.toNat) (b.take j),i,k,by rw[B,C],rfl,⋯,⋯,⋯,?_⟩
   let U:fP (fj a (aZ m.toNat) (b.take j)) i k=fj a (aZ m.toNat) (b.take (j+1)):=by
    let:b.take (j+1)=b.take j++[n]:=by rw[ZI,t];rfl
    rw[this];unfold fj;rw[q3w];show _=fP _ (de a n).1 (de a n).2
    let:de a n=(i,k):=by
     unfold de;rw[S,B,C,Xn,Xn]
    rw[this]
   rw[U]
   let V:(aH.trim ⟨[ζ (.p (az m a)),ζ x,ζ (.p (aK (aZ m.toNat))),η,η],c⟩ ⟨[ζ (.p (az m a)),ζ x,ζ (.p (aK (fj a (aZ m.toNat) (b.take (j+1))))),ζ (.p (.int n)),ζ (.p (bc y))],c⟩)=⟨[ζ (.p (az m a)),ζ x,ζ (.p (aK (fj a (aZ m.toNat) (b.take (j+1))))),η,η],c⟩:=by
    unfold aH.trim;rw[Y3];rcases O with⟨d,rfl⟩|⟨q,rfl,this⟩
    .rfl
    .erw[fO,rV,this,q0c]
   let:=P _ rfl;rw[<-V] at this;exact this
  .ext v rfl
   rw[kF,Yn (vr _)];exact⟨z _,s _ rfl⟩
 let F:=j4 m.toNat;rcases h with⟨rfl,rfl,k⟩|⟨rfl,rfl,k⟩
 .refine aI λN f=>?_
  simp![cQ,az];calc⟨⟨⋯,⋯⟩,?_⟩;subst f;rw[F];calc aI λN f=>iz λX Y Z w r s=>?_;subst w r s;calc g (.p (aK b)) [] _ _ (λ_=>trivial) (λu e=>?_) (.inl ⟨_,rfl⟩);subst e f;exact bg k
 .refine aI λN f=>?_
  simp![cQ,az];calc⟨⟨⋯,⋯⟩,?_⟩;subst f;rw[F];calc aI λN f=>iz λX Y Z w r s=>?_;subst w r s;calc g (.o 0) [ζ (.lst (b.map D.int))] _ _ (λ_=>rfl) (λu e=>?_) (.inr ⟨0,rfl,q34⟩);subst e f;calc⟨[.lst (b.map D.int)],rfl,rfl,k⟩
theorem OR a b:sortI [a,b]=[min a b,max a b]:=by
 refine(pT  ?_ ?_).symm
 .by_cases c:a<=b
  .rw[q35 c,q3N c]
  .rw[q3O ⋯,q36 ⋯]
   exact q06 ..
 .refine List.Pairwise.cons (λx d=>?_) (List.pairwise_singleton _ _)
  rw[W7.mp d];symm
def sE:GD:=n9
def Dy:WS:=(ai (ar 2 (n5 (ag (d2 (aa 0) (dC (.int 0)) aE) af))) (ai (cD (aY (aa 1)) (aS 3) (ai (eJ (dN (ag (bX (aY (dQ (d2 (d2 (aa 0) (dC (.int 1)) aE) (aa 3) aE) dP (iy (dC (.int 2))))) [η,ζ 2] (aS 0) bY (d2 (aa 1) (aa 0) aE)) af) gR) (fN 2 (cH (aS 4) (cH (aS 5) fB)))) (ar 2 (bX (aY (aa 2)) [η,ζ 4,ζ 5] (aS 0) bY (pC (dT (d2 (aa 0) (aa 2) oEq)) (aa 1) (aa 0)))))) (aA (aa 2))))
theorem OS:Sem 2 4 sE Dy:=by
 ext ys P K'-⟨m,b,ns,W,Q,h⟩;let m1:=W.m1;let R:=W.fA;let S:↑(aZ m.toNat)=m.toNat:=by unfold aZ;simp
 let g:∀(x:DV)(c:-(Option OV))(l:aH->Prop)(K:KS),(∀T,l ⟨T,c⟩)->(∀a,a=eV m b ns->K.nx ⟨[ζ (.p (az m b)),ζ x,ζ (.p (aK a)),η,η,η],c⟩)->((∃d,x=.p d)\/∃k,x=.o k/\k<↑c) →
   jg ⟨[ζ (.p (az m b)),ζ x,ζ (.p (aK (aZ m.toNat))),η,η,η],c⟩ l (aS 3) (ai (eJ (dN (ag (bX (aY (dQ (d2 (d2 (aa 0) (dC (.int 1)) aE) (aa 3) aE) dP (iy (dC (.int 2))))) [η,ζ 2] (aS 0) bY (d2 (aa 1) (aa 0) aE)) af) gR) (fN 2 (cH (aS 4) (cH (aS 5) fB)))) (ar 2 (bX (aY (aa 2)) [η,ζ 4,ζ 5] (aS 0) bY (pC (dT (d2 (aa 0) (aa 2) oEq)) (aa 1) (aa 0))))) K (ns.map D.int) ⟨[ζ (.p (az m b)),ζ x,ζ (.p (aK (aZ m.toNat))),η,η,η],c⟩:=by
  ext x c l K G t U;refine hJ (λi C=>C=⟨[ζ (.p (az m b)),ζ x,ζ (.p (aK (fj b (aZ m.toNat) (ns.take i)))),η,η,η],c⟩) rfl ?_ ?_
  .ext j d C L H rfl V
   rw[KI] at H;let⟨n,u,rfl⟩:=My.mp H;let⟨X,Y⟩:=Q n (Xw u);let⟨y,Z,hy,ea,i,k,I,J,h1,h2,_⟩:1324:=lK W X Y;calc⟨G _,?_⟩;let v:↑(fj b (aZ m.toNat) (ns.take j))=m.toNat:=by rw[sD,S]
   let M:fP (fj b (aZ m.toNat) (ns.take j)) i k=fj b (aZ m.toNat) (ns.take (j+1)):=by
    let:ns.take (j+1)=ns.take j++[n]:=by rw[ZI,u];rfl
    rw[this];unfold fj;rw[q3w];show _=fP _ (de b n).1 (de b n).2
    let:de b n=(i,k):=by
     unfold de;rw[Z,I,J,Xn,Xn]
    rw[this]
   generalize VJ:fj b (aZ m.toNat) (ns.take j)=a at v M;let a1:=iY (ns:=a) (i:=i) ⋯;let a2:=iY (ns:=a) (i:=k) ⋯;calc aI λN f=>?_;let ec:cutD [D.int y.1,D.int y.2.1,D.int y.2.2] η (ζ 2)=[D.int i,D.int k]:=by rw[<-I,<-J];rfl
   simp![cR,az,ea,bc,ec]
   refine L2.gT (λd=>match d with
    |.int z=>.int (a.getD z.toNat 0)
    |_=>.non) (by show 2<=1000;decide) trivial ?_ ?_
   .ext d B E L' A r
    erw[KN,XJ,ZR] at B;rcases B with rfl|rfl
    .simp![aK,a1]
     exact⟨A,r⟩
    .simp![aK,a2]
     exact⟨A,r⟩
   .let es:intsOf [D.int (a.getD i 0),D.int (a.getD k 0)]=ζ [a.getD i 0,a.getD k 0]:=rfl
    simp![Xn,gR,es,OR];subst f
    refine L2.gT (λd=>match d with
     |.int x=>.int (if x=max (a.getD i 0) (a.getD k 0) then min (a.getD i 0) (a.getD k 0) else x)
     |_=>.non) (by rw[kF];symm) trivial ?_ ?_
    .ext d B E L' A r
     let⟨z,_,rfl⟩:=Bk.mp B;simp!;cases q:aD (.int z) (.int (max (a.getD i 0) (a.getD k 0)))
     .let:¬ z=max (a.getD i 0) (a.getD k 0):=λw=>by rw[w,iV] at q;cases q
      erw[this,Z8] at r;exact⟨A,r⟩
     .let:=Xg q
      erw[this,q0c] at r;exact⟨A,r⟩
    .let e:(a.map D.int).map (λd=>match d with
      |.int x=>D.int (if x=max (a.getD i 0) (a.getD k 0) then min (a.getD i 0) (a.getD k 0) else x)
      |_=>.non)=(fP a i k).map D.int:=by
      unfold fP;rw[Xd,Xd];rfl
     rw[e,M]
     let eq:(aH.trim ⟨[ζ (.p (az m b)),ζ x,ζ (.p (aK (aZ m.toNat))),η,η,η],c⟩ ⟨[ζ (.p (az m b)),ζ x,ζ (.p (aK (fj b (aZ m.toNat) (ns.take (j+1))))),ζ (.p (.int n)),ζ (.p (.int (min (a.getD i 0) (a.getD k 0)))),ζ (.p (.int (max (a.getD i 0) (a.getD k 0))))],c⟩)=⟨[ζ (.p (az m b)),ζ x,ζ (.p (aK (fj b (aZ m.toNat) (ns.take (j+1))))),η,η,η],c⟩:=by
      unfold aH.trim;rw[Y3];rcases U with⟨d,rfl⟩|⟨q,rfl,this⟩
      .rfl
      .erw[fO,rV,this,q0c]
     let:=V _ rfl;rw[<-eq] at this;exact this
  .ext C rfl
   rw[kF,Yn (vr _)];exact⟨G _,t _ rfl⟩
 let O:=j4 m.toNat;rcases h with⟨rfl,rfl,k⟩|⟨rfl,rfl,k⟩
 .refine aI λN f=>?_
  simp![cQ,az];calc⟨⟨⋯,⋯⟩,?_⟩;subst f;rw[O];calc aI λN f=>iz λg' b' K2 F s t=>?_;subst F s t;calc g (.p (aK ns)) [] _ _ (λ_=>trivial) (λa e=>?_) (.inl ⟨_,rfl⟩);subst e f;exact bg k
 .refine aI λN f=>?_
  simp![cQ,az];calc⟨⟨⋯,⋯⟩,?_⟩;subst f;rw[O];calc aI λN f=>iz λg' b' K2 F s t=>?_;subst F s t;calc g (.o 0) [ζ (.lst (ns.map D.int))] _ _ (λ_=>rfl) (λa e=>?_) (.inr ⟨0,rfl,q34⟩);subst e f;calc⟨[.lst (ns.map D.int)],rfl,rfl,k⟩
inductive qe (ys:-DV) (aN:-OV) (K:RV->-OV->Prop):Prop
 |mk (m:Int) (ws:-(Int×Int×Int)) (q:ak m ws) (q:ys=[.p (az m ws)]) (q:aN=[]) (q:K (.n ((aZ ↑ws).map D.int)) [])
def xb:WS:=(aA (wD (ag (dN (ag (d2 (aa 0) (dC (.int 1)) aE) af) bH) af)))
theorem OT:Sem 1 0 qe xb:=by
 ext b a c-⟨m,d,W,rfl,rfl,k⟩;let:=W.h_;unfold xb;simp![cR,az];calc⟨⟨⋯,⋯⟩,[],Y,Y,.inl ?_⟩;rw[Xn,j4];calc k
meta def n_(a:-Int)(f:Int):-Int:=(aZ ↑a).filter λh=>μ (a.getD h.toNat 0=f)
meta def mM(a:-Int):-(-Int):=(sortI (gb a)).map (n_ a)
meta def sF(ls:-(-Int)):D:=.lst (ls.map aK)
inductive xc (ys:-DV) (aN:-OV) (K:RV->-OV->Prop):Prop
 |mk (m:Int) (ws:-(Int×Int×Int)) (ns:-Int) (q:ak m ws) (q:Nums ws ns) (q:((ys=[.p (az m ws),.p (aK ns)]/\aN=[]/\K (.p (sF (mM (eV m ws ns)))) [])\/(ys=[.p (az m ws),.o 0]/\aN=[.lst (ns.map D.int)]/\K (.p (sF (mM (eV m ws ns)))) [.lst (ns.map D.int)])))
def Dz:WS:=(ai (ar 2 (aj 2 sE (ag (aa 0) (ag (aa 1) af)))) (aA (bX (aY (dN (ag (aa 2) af) n7)) [η,ζ 0,ζ 2] (aS 0) bY (bX (g_ (ag (d2 (aa 1) (dC (.int 0)) aE) af)) [η,ζ 0,ζ 2] (aS 0) (dT (d2 (d2 (aa 2) (aa 0) aE) (aa 1) oEq)) (aa 0)))))
theorem DA{m}{ws:-(Int×Int×Int)}{ns}:↑(eV m ws ns)=m.toNat:=by
 unfold eV;rw[sD];unfold aZ;simp
theorem OU:Sem 2 1 xc Dz:=by
 ext E v F-⟨m,ws,ns,W,n,h⟩;let G:=W.m1;let w:=W.fA;let o:=DA (m:=m) (ws:=ws) (ns:=ns)
 let b:∀x c K,K.rt (.p (sF (mM (eV m ws ns)))) ⟨[ζ (.p (az m ws)),ζ x,ζ (.p (aK (eV m ws ns)))],c⟩ →
   (aA (bX (aY (dN (ag (aa 2) af) n7)) [η,ζ 0,ζ 2] (aS 0) bY (bX (g_ (ag (d2 (aa 1) (dC (.int 0)) aE) af)) [η,ζ 0,ζ 2] (aS 0) (dT (d2 (d2 (aa 2) (aa 0) aE) (aa 1) oEq)) (aa 0)))) K ⟨[ζ (.p (az m ws)),ζ x,ζ (.p (aK (eV m ws ns)))],c⟩:=by
  ext x c K k;generalize eV m ws ns=a at o k;let H:=wH a;erw[aA,bX,aY,dN,ag,af,aa,ZJ,Za,g7,fh,n7,aK,(kO a),nW,dO,Xm,q0y,q3L]
  refine⟨⋯,L2.gT (λd=>match d with
   |.int f=>aK (n_ a f)
   |_=>.non) (by rw[kF,sd];symm) trivial ?_ ?_⟩
  .ext d g y L A h
   let⟨f,_,rfl⟩:=Bk.mp g;simp![cQ,az]
   refine⟨⋯,L2.f_ (λd=>match d with
    |.int z=>μ (a.getD z.toNat 0=f)
    |_=>ι) id (by rw[iU];symm) trivial ?_ ?_⟩
   .ext d g r I j s t
    let⟨i,u⟩:=Vt.mp g;let⟨u,rfl⟩:=iT u;let B:(0+(i:Int))=i:=by symm
    rw[B] at s t ⊢;let C:=iY (ns:=a) (i:=i) ⋯;simp![C];cases q:aD (.int (a.getD i 0)) (.int f)
    .refine t ?_
     show μ (a.getD (i:Int).toNat 0=f)=ι;rw[Xn];calc Bh λz=>?_;rw[z,iV] at q;cases q
    .refine⟨j,s ?_⟩
     show μ (a.getD (i:Int).toNat 0=f)=θ;rw[Xn];erw[aD] at q;symm
   .simp!
    refine⟨A,?_⟩
    let e:((cb 0 m.toNat).filter λd=>match d with
     |.int z=>μ (a.getD z.toNat 0=f)
     |_=>ι).map id=(n_ a f).map D.int:=by
     rw[YI,j4,XP];unfold n_;rw[o];rfl
    rw[e];exact h
  .let e:((sortI (gb a)).map D.int).map (λd=>match d with
    |.int f=>aK (n_ a f)
    |_=>.non)=(mM a).map aK:=by
    unfold mM;rw[Xd,Xd];rfl
   rw[e];exact k
 rcases h with⟨rfl,rfl,k⟩|⟨rfl,rfl,k⟩
 .refine aI λN l=>?_
  simp!;calc⟨m,ws,ns,W,n,.inl ⟨Y,Y,?_⟩⟩;subst l;exact b _ _ _ (bg k)
 .refine aI λN l=>?_
  simp!;calc⟨m,ws,ns,W,n,.inr ⟨Y,Y,?_⟩⟩;subst l;calc b _ _ _ ⟨[.lst (ns.map D.int)],Y,Y,k⟩
theorem OW{n:Nat}{z:Int}(h:z∈aZ n):0<=z/\z<(n:Int):=by
 let⟨i,a,rfl⟩:=Bk.mp h;let:=Xr.mp a;symm
theorem qf n:(aZ n).Nodup:=by
 calc X9.mpr (q0D.imp λ{a b} c e=>c (q1A e))
theorem oa{H a o}(h:H a=η):ay H (upd H a o):=λb u e=>by rw[aG (bU e h)];calc e
structure sG(H:Hp)(p c:Z)(at_ z:Int):Prop where
 lst:H p=ζ (.lst [.ref c,.int at_,.int z])
 cells:∃ns:-Int,H c=ζ (.lst (ns.map V.int))/\ns.length<=63
 pos:0<=at_
theorem sG.ne{H p c k z}(P:sG H p c k z):c≠p:=by
 let⟨a,h,_⟩:=P.cells;ext e;subst e;rw[P.lst] at h;injection (XA h) with DB
 cases a with
 |nil=>cases DB
 |cons n r=>injection DB with h1 _;cases h1
theorem OX{ns:-Int}{k}(b:0<=k)(c:k<(ns.length:Int)):∃n,eD (ns.map V.int) k=ζ (.int n):=by
 let⟨i,rfl⟩:∃i:Nat,k=i:=⟨k.toNat,⋯⟩;let a:i<ns.length:=by symm
 calc⟨ns[i],iG ?_⟩;rw[KI,mf a];rfl
def DC(K:KH):Sp:=λe H Q _=>∃(a:Z)(d:-Int),e=[.ref a]/\bf K H a (d.map V.int)/\↑d<=63/\∀(p c:Z)(b:Hp),ay H b->H p=η->sG b p c 0 0->Q (.ref p) b
def sI(K:KH):Sp:=λc H Q _=>∃(a:Z)(b:-Int),c=[.ref a]/\bf K H a (b.map V.int)/\↑b<=63/\aB.ok H/\∀d,Q (.bl θ) d
theorem xf(ns:-Int) a b:dq (ns.map V.int) a b=((ns.drop (HT.bo ns.length 0 a)).take (HT.bo ns.length ns.length b-HT.bo ns.length 0 a)).map V.int:=by
 unfold dq;rw[kF,q40,q41]
theorem OY{H p c a n}(d:aB.ok H)(N:sG H p c 0 0):∃(F:Hp)(ns:-Int),ns.length<=63/\SR F [p] ⟨η::ζ (.o 0)::Xb n η,[ζ (.lst [.lst (ns.map D.int),.int 0,.int 0])]⟩ (ζ (.ref a)::ζ (.ref p)::Xb n η) H:=by
 let⟨r,g,v⟩:=N.cells
 let m:∀{b},((∃j,H b=ζ (.tbl j))\/∃s,H b=ζ (.lst s))->aB.cs b=η:=λ{b} h=>by
  cases q:aB.cs b with
  |none=>rfl
  |some o =>
   let⟨s,rfl⟩:=aB.ct q;let:=aB.co d _ _ q;rcases h with⟨_,h⟩|⟨_,h⟩<;>rw[this] at h<;>cases h
 refine(zI2 (upd aB.cs c (.lst (r.map V.int))) r ⟨v,⟨λb o e=>?_,λb ⟨k,t,f,u⟩=>?_,Y,λk l a t y f u _ _=>?_,λk t e=>?_,λi x e=>?_,by simp,d,⟨λb w=>by
  let⟨j,q⟩:=aB.tb d w;rw[aG λz=>by subst z;rw[g] at q;cases q]
  calc m (q0f ⟨j,q⟩),λb o e=>by rw[aG λz=>by subst z;rw[m (q2f ⟨_,g⟩)] at e;cases e];calc e⟩⟩⟩)
 .by_cases z:b=c
  .subst z;rw[bj] at e;cases e;exact g
  .rw[aG z] at e;exact aB.co d _ _ e
 .cases k with
  |zero=>cases f⁻¹;rw[aG (YD N.ne)];exact m (q2f ⟨_,N.lst⟩)
  |succ k=>simp at f
 .cases k with
  |zero =>
   cases l with
   |zero=>rfl
   |succ l=>simp at u
  |succ k=>simp at f
 .cases k with
  |zero =>
   cases e⁻¹
   exact(zI2 p _ ⟨Y,N.lst,_,Y,.cons (zI2 c _ ⟨Y,bj,j2⟩) (.cons Y (.cons Y .nil))⟩)
  |succ k=>simp at e
 .cases i with
  |zero=>simp at e
  |succ i =>
   cases i with
   |zero =>
    cases e⁻¹
    exact⟨_,Y,p,Y,Y⟩
   |succ i =>
    let e:=by simpa using e
    rw[ZG] at e;split at e<;>cases e
theorem OZ{B F c b d H Q}(S:SR F c b d H)(h:B ⟨λ_=>False,λx _=>x=.p (.bl θ),λ_=>False,λ_=>False⟩ b)(q:∀H',Q (.bl θ) H'):cB B {nx:=λ_ H'=>Q .non H',rt:=Q} d H :=
 ⟨F,c,b,_,S,h,⟨λa h=>h.elim,λa h=>h.elim,λa h=>h.elim,λx a h v i f g e j k V=>by
  subst h V
  calc q e,trivial⟩⟩
end LJ
namespace L2
open PySem PySem.Spec PyProof.Rows
def xg(c:-(Z×Array ν))(H:Hp):Prop:=∀b,(∃d,c.lookup b=ζ d/\H b=ζ (.tbl d))\/(c.lookup b=η/\(H b=η\/(∃o a,H b=ζ (.frz o (.lst a)))\/∃a,H b=ζ (.tup a)))
meta def df(a H:Hp):Hp:=λb=>match a b with
 |none=>H b
 |some _=>η
theorem xh{a H b u}(h:df a H b=ζ u):a b=η/\H b=ζ u:=by
 unfold df at h
 cases q:a b with
 |none=>rw[q] at h;exact⟨Y,h⟩
 |some o=>rw[q] at h;cases h
meta def jj(a H:Hp):Hp:=λb=>match a b with
 |none=>H b
 |some o=>ζ o
theorem lM{a H b}(h:a b=η):jj a H b=H b:=by unfold jj;rw[h]
theorem sJ{a H b o}(h:a b=ζ o):jj a H b=ζ o:=by unfold jj;rw[h]
structure Cs(P:ψ)(w:ω)(cs:Hp)(h:Α):Prop where
 ct:∀{b:Z}{o:HO},cs b=ζ o->∃xs,o=.tup xs
 ok:∀{b:Z}{xs:-V},cs b=ζ (.tup xs)->↑xs<=sizeLine/\∃ly:-ν,Vals xs ly/\IsTup h b ly.toArray
theorem Cs.no{P w a h}(C:Cs P w a h){b u}(e:h.get? b=ζ u)(n:u.cls≠.type "tuple"):a b=η:=by
 cases q:a b with
 |none=>rfl
 |some o =>
  let⟨g,rfl⟩:=C.ct q;let⟨_,d,_,f⟩:=C.ok q;let⟨o,c,r⟩:=f;rw[e] at c;cases c;calc absurd r.1 n
theorem O0{P:ψ}{w:ω}{K:KH}{L mb:π->Option ν}{CX:iF}{k:Nat}{fa a:ξ}{fd:FuncData}{x:π}{sp:Sp}{c:ο}{vs:-ν}{ns:-Int}(p:-(ξ×Array ν)){j:Hp}(Z:Cs P w j c.heap)
  (G:∀b ps,p.lookup b=ζ ps->c.heap.get? b=ζ {cls:=.none,data:=.fields ps}/\isCodeTable c.heap b/\K.lookup b=η)
  (KX:K.In c.heap) (T:c.heap.Ns mainGlobals L) (y:c.heap.Ns builtinsNs mb) (O1:∀x:π,x≠"__name__" -> mb x=bootBuiltins x) (xi:c.heap.NoLimit) (hg:c.gens = #[])
  (U:c.heap.get? a=ζ {cls:=.type "list",data:=.seq vs.toArray}) (hi:IntsAre vs ns) (hl:ns.length<=sizeLine) (hr:aV k callerA)
  (hB:∃E ob,L "__builtins__" = ζ (.ref E)/\E≠builtinsNs/\c.heap.get? E=ζ ob/\ob.cls=.type "module" /\ ob.dict=ζ builtinsNs/\ob.data=.plain)
  (F:∀A:Α,K.In A->A.Ns mainGlobals L->(∀b ps,p.lookup b=ζ ps->A.BuiltinsAt L b)->bP P w K L A CX k fa fd [x] sp) (X:∀(s:ο)(u:ν),BindsTo s fd ⟨[u],[]⟩ [(x,u)])
  (xj:∀H:Hp,xg p H->ay j H->bf K H a (ns.map V.int)->sp [.ref a] H (λv _=>v=.bl θ) λ_ _ _=>False)
  (O2:∀H e s',CX [] H c (λ_ _ _=>False) e s'->False) :
  codeAny (ς P w) callerA (.call (.ref fa) ⟨[.ref a],[]⟩) (λr s'=>r=.ok (.ret (.bool θ))/\OldK c.heap s'.heap/\s'.os=c.os/\AllBare s'.gens) c:=by
 let rv:=Bg hi;let xk:=↑hi
 let aT:p.lookup a=η:=by
  cases q:p.lookup a with
  |none=>rfl
  |some i =>
   let:=(G a i q).1;rw[U] at this;let z:=congrArg Obj.cls (XA this);cases(show Zb "list" = XY from z)
 let aC:j a=η:=Z.no U (show Zb "list" ≠ Zb "tuple" by decide)
 let tC:∀{b i},p.lookup b=ζ i->j b=η:=λ{b i} t=>Z.no (G b i t).1 nofun
 let N:∀H:Hp,xg p H->ay j H->bf K H a (ns.map V.int)->cF P w H c.heap->(∀b,p.lookup b=η->j b=η->H b≠η->b=a)->(H a≠η->K.lookup a=η) →
   codeAny (ς P w) callerA (.call (.ref fa) ⟨[.ref a],[]⟩) (λr M=>r=.ok (.ret (.bool θ))/\OldK c.heap M.heap/\M.os=c.os/\AllBare M.gens) c:=by
  ext H hO DD hS aM O3 hK
  let hA:∀b,p.lookup b=η->df j H b≠η->b=a:=λb t n=>by
   cases q:df j H b with
   |none=>exact absurd q n
   |some u=>exact O3 b t (xh q).1 (by rw[(xh q).2];simp)
  let l:∀{b:ξ}{o:Γ},c.heap.get? b=ζ o->df j H b=η->(ft c.heap (df j H)).get? b=ζ o:=λe n=>IP e n
  let O4:∀{b:ξ}{o:Γ}{es:Array DictEntry}{ep:Nat},c.heap.get? b=ζ o->o.data=.dict es ep->df j H b=η:=λ{b o es ep} e d=>by
   cases q:df j H b with
   |none=>rfl
   |some u =>
    cases t:p.lookup b with
    |some i =>
     let:=(G b i t).1;rw[e] at this;cases this;cases d
    |none =>
     let e':b=a:=hA b t (by rw[q];simp);subst e';rw[U] at e;cases e;let d':Data.seq vs.toArray _=Data.dict es ep:=d;cases d'
  let I:∀{b:ξ}{m:π->Option ν},c.heap.Ns b m->(ft c.heap (df j H)).Ns b m:=λ{b m} ⟨o,es,ep,e,d,r⟩=>(zI3 o es ep ⟨l e (O4 e d),d,r⟩)
  let DE:K.In (ft c.heap (df j H)):=λb o e=>l (KX b o e) (by
   cases q:df j H b with
   |none=>rfl
   |some u =>
    cases t:p.lookup b with
    |some i=>rw[(G b i t).2.2] at e;cases e
    |none =>
     let e':b=a:=hA b t (by rw[q];simp);subst e'
     rw[hK (by rw[(xh q).2];simp)] at e;cases e)
  let O5:∀b i,p.lookup b=ζ i->(ft c.heap (df j H)).BuiltinsAt L b:=λb i t=>by
   let⟨E,ob,b1,b2,O,b4,b5,b6⟩:25:=hB;refine(zI2 E ob ⟨b1,b2,λz=>?_,λz=>?_,l O ?_,b4,b5,b6⟩)
   .let⟨o,es,ep,Y,B,_⟩:32:=T
    rw[z,Y] at O;cases O;rw[B] at b6;cases b6
   .let:=(G b i t).1
    rw[z,this] at O;cases O;cases b6
   .cases q:df j H E with
    |none=>rfl
    |some u =>
     cases t':p.lookup E with
     |some mO =>
      let:=(G E mO t').1;rw[O] at this;cases this;cases b6
     |none =>
      let e':E=a:=hA E t' (by rw[q];simp);rw[e',U] at O;cases O;cases b6
  let hM:Mod K L (ft c.heap (df j H)):=⟨DE,I T,⟨mb,I y,O1⟩,let⟨mc,h1,h2⟩:=xi;⟨mc,I h1,h2⟩⟩
  let e0:gX P w K L (ft c.heap (df j H)) callerA [] c H:=⟨rfl,hM,λb o e=>⟨(Aj e).1,by
   let z:=(Aj e).2;unfold df at z
   cases q:j b with
   |none=>rw[q] at z;exact .inl z
   |some u =>
    let⟨C,rfl⟩:=Z.ct q
    calc .inr ⟨C,DD b _ q⟩⟩,q5N (IM _ _),trivial,λb y=>absurd (show b∈([]:-ξ) from y) (by simp),aM,.of_eq hg⟩
  refine ZM ((F _ DE (I T) O5).run callerA [] c H ⟨[.ref a],[]⟩ [.ref a] [.ref a] _ _ hr e0 (X c (.ref a)) (.cons rfl .nil) (xj H hO DD hS)) λr M h=>?_
  cases r with
  |error e=>exact(O2 H e M h).elim
  |ok fl =>
   cases fl with
   |next=>exact Xu h
   |brk=>exact Xu h
   |cont=>exact Xu h
   |ret u =>
    let⟨v,H',os,bare,un,Q,r',q⟩:25:=h;let q':v=.bl θ:=q;subst q';obtain rfl:u=Zv θ:=r'
    let all:∀b o,c.heap.get? b=ζ o->asItWas c.heap M.heap b o/\∃o',M.heap.get? b=ζ o':=λb o e=>by
     rcases hO b with⟨i,t,z⟩|⟨t,z|⟨ob,C,z⟩|⟨C,z⟩⟩
     .let⟨S,z2⟩:=un.d7 b i z
      let B:M.heap.get? b=ζ {cls:=.none,data:=.fields (i++S)}:=Q b _ z2;let Y:=(G b i t).1;rw[e] at Y;cases Y;exact⟨.inr (.inl ⟨(G b i t).2.1,rfl,i,S,rfl,B⟩),_,B⟩
     .let B:=un.keep b o e z (by ext z;calc absurd (show b∈([]:-ξ) from z) (by simp)) (by simp)
      exact⟨.inl B,_,B⟩
     .let z2:=un.dF b ob _ z
      let⟨Y,_⟩:=aM b _ z;let⟨B,_⟩:=Q b _ z2;rw[e] at Y;cases Y;exact⟨.inl B,_,B⟩
     .let B:=un.dG b C o z e (by simp)
      exact⟨.inl B,_,B⟩
    exact⟨rfl,⟨λb o e=>(all b o e).1,λb o e=>(all b o e).2⟩,os,bare⟩
 let D:∀H b i,p.lookup b=ζ i->aP P w H c.heap b (.tbl i):=λH b i t=>(G b i t).1
 let J:∀{b R},(∀o,j b=ζ o->R)->(j b=η->R)->R:=λ{b R} f g=>by
  cases q:j b with
  |none=>exact g q
  |some o=>exact f o q
 let DF:∀{H b o u},j b=ζ o->jj j H b=ζ u->aP P w (jj j H) c.heap b u:=λ{H b o u} q z=>by
  rw[sJ q] at z;cases z;let⟨C,rfl⟩:=Z.ct q;exact Z.ok q
 let cO:∀{H b o},j b=ζ o->(∃i,p.lookup b=ζ i/\jj j H b=ζ (.tbl i))\/(p.lookup b=η/\(jj j H b=η\/(∃o C,jj j H b=ζ (.frz o (.lst C)))\/∃C,jj j H b=ζ (.tup C))):=λ{H b o} q=>by
  let⟨C,rfl⟩:1:=Z.ct q;refine .inr ⟨?_,.inr (.inr ⟨C,sJ q⟩)⟩
  cases t:p.lookup b with
  |none=>rfl
  |some i=>rw[tC t] at q;cases q
 cases hk:K.lookup a with
 |some o =>
  let e:=KX a o hk;rw[U] at e;cases e
  refine N (jj j λb=>(p.lookup b).map HO.tbl) (λb=>J (λo q=>cO q) λq=>?_) (λb o q=>sJ q) (.inr (zI3 _ vs.toArray _ ⟨hk,rfl,rfl,rfl,by rw[KJ,xk];calc hl,by simpa using rv⟩)) (λb u z=>J (λo q=>DF q z) λq=>?_) (λb t q z=>?_) λz=>?_
  .rw[lM q]
   cases t:p.lookup b with
   |some i=>exact .inl ⟨i,rfl,rfl⟩
   |none=>exact .inr ⟨rfl,.inl rfl⟩
  .rw[lM q] at z
   let⟨i,t,rfl⟩:=My.mp (z);exact D _ b i t
  .rw[lM q] at z
   exact absurd (by rw[t];rfl) z
  .rw[lM aC] at z
   exact absurd (by rw[aT];rfl) z
 |none =>
  refine N (jj j λb=>if b=a then ζ (.frz {cls:=.type "list",data:=.seq vs.toArray} (.lst (ns.map V.int))) else(p.lookup b).map HO.tbl) (λb=>J (λo q=>cO q) λq=>?_) (λb o q=>sJ q) (.inl (.inr ⟨{cls:=.type "list",data:=.seq vs.toArray},(lM aC).trans (W_ rfl)⟩)) (λb u z=>J (λo q=>DF q z) λq=>?_) (λb t q z=>?_) λ_=>hk
  .rw[lM q]
   by_cases y:b=a
   .subst y
    exact .inr ⟨aT,.inr (.inl ⟨_,_,W_ rfl⟩)⟩
   .cases t:p.lookup b with
    |some i=>exact .inl ⟨i,rfl,Vq y⟩
    |none=>exact .inr ⟨rfl,.inl (Vq y)⟩
  .rw[lM q] at z
   by_cases y:b=a
   .cases ((W_ y).symm.trans z)
    subst y;exact⟨U,by rw[kF];calc hl,vs,_,rv,U⟩
   .let⟨i,t,rfl⟩:=My.mp ((Vq y).symm.trans z)
    exact D _ b i t
  .rw[lM q] at z
   by_cases y:b=a
   .exact y
   .calc absurd ((Vq y).trans (by rw[t];rfl)) z
theorem O6{l:q37}{n k:Nat}{q:ψ}{i:-π}{O:(π->Option ν)->Α->Prop}{y:ω->Α->Prop}{d:DefRec}{K:ω->KH}{CX:ω->iF}{sp:ω->Sp}{x:π}{z:ω->-(ξ×Array ν)}{L:ω->Hp}
  (hn:l.most=ζ n) (P:n<=sizeLine) (B:d.params.defaults=[]) (Q:aV k callerA)
  (R:∀(w:ω)(h:Α),y w h->(K w).In h)
  (S:∀(w:ω)(h:Α),y w h->∀b ps,(z w).lookup b=ζ ps->h.get? b=ζ {cls:=.none,data:=.fields ps}/\isCodeTable h b/\(K w).lookup b=η)
  (U:∀(w:ω)(h:Α),y w h->Cs l.prog w (L w) h)
  (F:∀(w:ω)(j:π->Option ν)(A:ξ)(h:Α),(K w).In h->h.Ns mainGlobals j->j d.name=ζ (.ref A) →
   ∃C:FuncData,(∀(s:ο)(u:ν),BindsTo s C ⟨[u],[]⟩ [(x,u)]) ∧
    ∀c:Α,(K w).In c->c.Ns mainGlobals j->(∀b ps,(z w).lookup b=ζ ps->c.BuiltinsAt j b)->bP l.prog w (K w) j c (CX w) k A C [x] (sp w))
  (D:∀(w:ω)(H:Hp)(a:ξ)(ns:-Int),ns.length<=n->xg (z w) H->ay (L w) H->bf (K w) H a (ns.map V.int)->sp w [.ref a] H (λv _=>v=.bl θ) λ_ _ _=>False)
  (E:∀(w:ω)(H:Hp)(s:ο)(e:ν)(s':ο),CX w [] H s (λ_ _ _=>False) e s'->False) :
  PySem.W.WalkO q i O y l.row.toRowW d [] (λf vs=>q22 f vs):=by
 calc Att.gB hn B λw M p j mb A o pm cd doc a vs X G Y ho hd VL I r m t hg=>?_;let N:=R w _ Y;let⟨C,hb,hF⟩:=F w j A _ N G.T.g I;calc O0 (z w) (U w _ Y) (S w _ Y) N G.T.g G.T.b G.T.builtins G.T.nolimit hg r m ⋯ Q G.T.bmain hF hb (λH hO J hS=>D w H a X t hO J hS) λH e Z=>E w H p e Z
section
variable{X:Cx}{pins:ax}{σ:St}{H:Hp}{s:ο}{h':Α}
theorem Inv.grow{T c f:Z}{ps more oc of t'}(I:Inv X pins σ H s)(g:H T=ζ (.tbl ps))(k:∀b u,b≠T->s.heap.get? b=ζ u->h'.get? b=ζ u)(i:h'.get? T=ζ {cls:=.none,data:=.fields (ps++more)})
  (C:⇑s<=c) (D:⇑s<=f) (E:c≠f) (j:∀H2,aP X.prog X.w H2 h' c oc) (l:∀H2,aP X.prog X.w H2 h' f of) :
  Inv X pins σ (upd (upd (upd H T (.tbl (ps++more))) c oc) f of) {s with heap:=h',toks:=t'}:=by
 let r:=(I.aM T _ g).lt
 let h:∀b,b<⇑s->b≠T->upd (upd (upd H T (.tbl (ps++more))) c oc) f of b=H b:=λb K F=>by
  rw[aG (W8 ⋯),aG (W8 ⋯),aG F]
 let m:upd (upd (upd H T (.tbl (ps++more))) c oc) f of T=ζ (.tbl (ps++more)):=by
  rw[aG (YD (Zd (Xe r D))),aG (YD (Zd (Xe r C))),bj]
 let t:=λb u e=>(I.aM b u e).lt
 let a:∀b u,H b=ζ u->(∀G,u≠.tbl G)->upd (upd (upd H T (.tbl (ps++more))) c oc) f of b=ζ u:=λb u e n=>by
  rw[h b (t b u e) (λz=>by subst z;rw[g] at e;cases e;calc n _ Y)];exact e
 refine I.un  ⟨λb o e n _ _=>k b o (λz=>by subst z;rw[g] at n;cases n) e,λb o e n _ _=>⟨o.slots,k b o (λz=>by subst z;rw[g] at n;cases n) e⟩,λb o e n _=>?_,λb o e _=>?_,λb x e=>a b _ e (λ_ z=>by cases z),λb o u e=>a b _ e (λ_ z=>by cases z),λb qs e=>?_,λb x o q e _=>k b o (λz=>by subst z;rw[g] at q;cases q) e⟩ λb u e=>?_
 .rw[h b (Vo e) (λz=>by subst z;rw[g] at n;cases n)];exact n
 .by_cases z:b=T
  .subst z;exact⟨_,i⟩
  .exact⟨o,k b o z e⟩
 .by_cases z:b=T
  .subst z;rw[g] at e;cases e;exact⟨more,m⟩
  .exact⟨#[],by rw[h b (t b _ e) z,e];simp⟩
 .by_cases A:b=f
  .subst A;rw[bj] at e;cases e;exact l _
  .rw[aG A] at e
   by_cases B:b=c
   .subst B;rw[bj] at e;cases e;exact j _
   .rw[aG B] at e
    by_cases p:b=T
    .subst p;rw[bj] at e;cases e;exact i
    .rw[aG p] at e
     refine aP.dE (I.aM b u e) (λd v J q=>?_) (λd q=>a d _ q (λ_ z=>by cases z)) (λd x q=>a d _ q (λ_ z=>by cases z))
     .refine k d v (λy=>?_) q
      subst y;rcases J with y|y
      .exact p y.symm
      .rw[g] at y;cases y
meta def kS(c:Z)(q:π):HO:=.ext λh=>∃o a b,h.get? c=ζ o/\o.data=.fields a/\a[1]?=ζ (.str q b)
theorem O7{P w H h c q}(e:h.CodeRec (.ref c) q):aP P w H h c (kS c q):=by
 let⟨c',o,b,d,z,f,g,i⟩:43:=e;cases z
 calc⟨(zI3 o b d ⟨f,g,i⟩),⟨o,f⟩,λn p a k=>by let⟨o,b,d,j,l,m⟩:32:=a;calc(zI3 o b d ⟨k o j,l,m⟩)⟩
theorem O8{P w H h c q}(x:aP P w H h c (kS c q)):h.CodeRec (.ref c) q:=by
 let⟨⟨o,a,b,d,e,f⟩,_⟩:01:=x;calc(zI4 c o a b ⟨Y,d,e,f⟩)
end
end L2
namespace L2
open PySem PySem.Spec PyProof.Rows PySem.W
section
variable{X:Cx}{pins:ax}{σ:St}{H:Hp}{s:ο}{params:Arguments}{body:υ}{scope:Δ}{pos:Ε}{kU:-(π×Z)}{cc T:Z}{ps:Array ν}{E:aJ}{Q:aJ}
meta def jJ(f:Z)(name b:π)(a:Arguments)(c:υ)(scope:Δ)(d:-(π×Z))(g i:ν):HO:=.ext λh=>∃e,h.get? f=ζ {cls:=.type "function",data:=.func (kla_fn name b a c scope d g i e)}
def dR(H:Hp)(T:Z)(pos:Ε)(a:π):Prop:=∃b,H T=ζ (.tbl b)/\TriplesOk b.toList/\(codeAmong pos b.toList=η\/∃c,codeAmong pos b.toList=ζ (.ref c)/\H c=ζ (kS c a))
theorem O9(I:Inv X pins σ H s)(V:dR H T pos (X.env.qual++"<lambda>"))(q:defaultsOf params X.env=([],[]))(r:closureFor scope X.env=pure kU)(g:X.env.code=.ref cc)(C:CodeHd s.heap cc T)(K:mainGlobals≠T)(P:s.heap.Ns mainGlobals X.mg)(R:s.heap.BuiltinsAt X.mg T)
  (h:∀f H' s' c,Inv X pins σ H' s'->dR H' T pos (X.env.qual++"<lambda>")->(∀b o,H b=ζ o->b≠T->H' b=ζ o)->H f=η->H' f=ζ (jJ f "<lambda>" (X.env.qual++"<lambda>") params body scope kU ((X.mg "__name__").getD .none) (.ref c))->H' c=ζ (kS c (X.env.qual++"<lambda>"))->Q (.ref f) s') :
  ρ (ς X.prog X.w) X.A (eval (.Lambda params body scope pos) X.env) Q E s:=by
 let⟨p,G,t,J⟩:12:=V;let l:=I.aM T _ G;calc kla_eval q ?_;rcases J with x|⟨c,J,i⟩
 .refine kla_makeFunction r I.ok.glob P g C l t x K R λa m j W Y n L y M=>?_
  let d:⇑s<=j.objs.size:=YJ ⋯;let S:=Vo l;let z:=W8 L;let B:(p ++ #[rawInt pos.line,rawInt pos.col,XH a]).toList=p.toList++[rawInt pos.line,rawInt pos.col,XH a]:=by simp
  let N:upd (upd (upd H T (.tbl (p ++ #[rawInt pos.line,rawInt pos.col,.ref a]))) a (kS a (X.env.qual++"<lambda>"))) j.objs.size (jJ j.objs.size "<lambda>" (X.env.qual++"<lambda>") params body scope kU ((X.mg "__name__").getD .none) (.ref a)) T=ζ (.tbl (p ++ #[rawInt pos.line,rawInt pos.col,.ref a])):=by
   rw[aG (W8 (Xe S d)),aG (W8 (Xe S n)),bj]
  let D:upd (upd (upd H T (.tbl (p ++ #[rawInt pos.line,rawInt pos.col,.ref a]))) a (kS a (X.env.qual++"<lambda>"))) j.objs.size (jJ j.objs.size "<lambda>" (X.env.qual++"<lambda>") params body scope kU ((X.mg "__name__").getD .none) (.ref a)) a=ζ (kS a (X.env.qual++"<lambda>")):=by
   rw[aG z,bj]
  refine h j.objs.size _ _ a (I.grow    G (λb u O e=>mi _ (Y b u O e)) (mi _ M) n d z (λ_=>O7 (y.push _)) λ_=>?_) ⟨_,N,?_,.inr ⟨a,?_,D⟩⟩ (λb o e O=>?_) (I.aM.fresh d) bj D
  .exact⟨⟨m,Vs _ rfl⟩,⟨_,Vs _ rfl⟩,λZ h2 ⟨v,e⟩ k↦⟨v,k _ e⟩⟩
  .rw[B];exact TriplesOk_snoc _ _ _ _ t
  .rw[B];exact codeAmong_snoc _ t x
  .let U:=(I.aM b o e).lt
   rw[aG (W8 (Xe U d)),aG (W8 (Xe U n)),aG O];exact e
 .refine kla_makeFunctionHit r I.ok.glob P g C l t J R λm j W hk d=>?_
  let F:=I.aM.fresh d;refine h j.objs.size _ _ c (I.laid    (λb u e=>mi _ (hk b u e)) d ?_) ⟨p,?_,t,.inr ⟨c,J,?_⟩⟩ (λb o e _=>?_) F bj ?_
  .exact⟨⟨m,Vs _ rfl⟩,⟨_,Vs _ rfl⟩,λZ h2 ⟨v,e⟩ k↦⟨v,k _ e⟩⟩
  .rw[aG (bU G F)];exact G
  .rw[aG (bU i F)];exact i
  .rw[aG (bU e F)];exact e
  .rw[aG (bU i F)];calc i
end
structure LD where
 A:Β
 cl:-(π×Z)
 f:Z
 cd:ν
 s:ο
 H:Hp
@[reducible] noncomputable def kW (X:Cx) (a:π) (scope:Δ) (Nb:-π) (d:LD):Cx where
 prog:=X.prog
 w:=X.w
 K:=X.K
 mg:=X.mg
 base:=X.base
 A:=d.A.deeper (envX a scope ⇑d.s d.f d.cd d.cl)
 N:=Nb
 s₀:=d.s
 H₀:=d.H
 env:=envX a scope ⇑d.s d.f d.cd d.cl
 outer:=X.stack
 stack:=envX a scope ⇑d.s d.f d.cd d.cl::X.stack
 ex:=[]
 fn:=λ_=>ι
 calm:=true
 pn:=[]
 xe:=λ_ _=>False
meta def sL(N:-π)(a scope:Δ)(x:π)(Nb:-π)(cp:-(Option Nat)):Bool :=
 iL N a scope (x::Nb) (η::cp)&&(scope.names.all λy=>μ (y.2≠.cell))&&μ (scope.names.lookup x=ζ .local)&&cp.all (·.isSome)
section
variable{X:Cx}{pins:ax}{σ:St}{H:Hp}{s:ο}{params:Arguments}{body:υ}{scope:Δ}{cl:-(π×Z)}{E:aJ}{Q:VK}{name qual x:π}{f c:Z}{pm:ν}{A:Β}{v:V}{u:ν}{Nb:-π}{cp:-(Option Nat)}{t:TE}
theorem O_(I:Inv X pins σ H s)(hf:H f=ζ (jJ f name qual params body scope cl pm (.ref c)))(hc:H c=ζ (kS c qual))(hA:A.frames=ζ X.stack)(hh:A.handled=η)(hd:A.depth<recursionLimit)
  (U:scope.kind=.function) (G:sL X.N X.env.scope scope x Nb cp=θ) (V:scope.isCoroutine=ι) (K:scope.isGenerator=ι)
  (l:∀y c,cl.lookup y=ζ c->X.env.cells.lookup y=ζ c) (L:∀y∈scope.names,y.2=.free->∃c,cl.lookup y.1=ζ c)
  (hb:∀(ct:ν),bindArgs (kla_fn name qual params body scope cl pm (.ref c) ct) ⟨[u],[]⟩=pure [(x,u)]) (r:RelV v u)
  (J:JE (kW X qual scope (x::Nb) ⟨A,cl,f,.ref c,s,H⟩) body t) (h:t (ζ v::iK cp σ) H Q):ρ (ς X.prog X.w) A (call (.ref f) [u]) (EP X pins σ Q) E s:=by
 unfold sL at G;erw[Xs,XS,Xt] at G;let⟨⟨⟨G,M⟩,hx⟩,cps⟩:=G;let S:=rE U G;let⟨⟨ct,W⟩,_⟩:01:=I.aM f _ hf;calc q0h (kla_callFunE hd W rfl V K rfl (O8 (I.aM c _ hc)) ?_);rw[hb ct];calc nF (wpAny_newFunctionEnv (λy g=>M y g) (λy g=>by rw[W7.mp g];calc hx) (λO Y Z=>?_) U);let a:=λb o e=>Z.extBut b o (W8 (Vo e)) (mi _ e);calc⟨I.nolimit.keeps a,?_⟩;let B:=I.l0;let D:∀b ,b∉(kW X qual scope (x::Nb) ⟨A,cl,f,.ref c,s,H⟩).ex:=λb z=>absurd (z) (by simp);let n:∀{y k},scope.names.lookup y=ζ k->(y,k)∈scope.names:=λe=>Ys e
 let I1:Inv (kW X qual scope (x::Nb) ⟨A,cl,f,.ref c,s,H⟩) [] (ζ v::iK cp σ) H {s with heap:=O,toks:=s.toks+↑[(x,u)]}:=by
  refine⟨⟨B.mod,U,rfl,rfl,vr _,λy z d F C=>I.ok.inj y z d (l y d F) (l z d C),λy g=>?_,λy d z _=>(by cases z),λ_=>hh,q2m hA,.inr ⟨rfl,rfl⟩,λb z=>absurd z (D b),B.bs,B.ja,λb _ _=>D b,λb z=>absurd z (D b),B.cY,B.ju⟩,
   rfl,B.bare,Un.kept a,⟨_,Y,λi y w F C h3=>?_⟩,λy d g=>?_,B.aM.fresh (vr _),λy d g=>I.bI y d (l y d g),λp hp=>absurd (hp) (by simp),B.aM.kept a,?_⟩
  .let g:=g
   rcases g with g|g
   .exact absurd rfl (M _ (n g))
   .exact L _ (n g) rfl
  .cases i with
   |zero =>
    cases F⁻¹
    cases C⁻¹
    exact⟨u,r,.inl ⟨hx,by simp⟩⟩
   |succ j =>
    let F:=by simpa using F
    let C:=by simpa using C
    unfold iK at C;rw[KI] at C;let⟨o,q1,q2⟩:=My.mp C
    match o,q2 with
    |none,q2=>cases q2
    |some P,q2 =>
     let q2:(σ[P]?).join=ζ w:=q2;let⟨n1,n2⟩:01:=S.pa (j+1) P y q1⁻¹ F⁻¹
     let R:σ[P]?=ζ (ζ w):=by
      cases q:σ[P]? with
      |none=>rw[q] at q2;cases q2
      |some z=>rw[q] at q2;cases(q2);rfl
     let kd:=S.free _ (n n2) rfl;let⟨m,hn,hl⟩:=I.loc;let⟨u',rv,lk⟩:=hl P y w n1 R (by rcases kd with z|z;calc .inr (.inl z);calc .inr (.inr z));calc⟨u',rv,?_⟩;rcases lk with⟨z,_⟩|⟨_,d,e1,o,e2,e3⟩
     .rcases kd with k|k<;>(rw[z] at k;cases k)
     .let⟨d',e4⟩:=L _ (n n2) rfl
      let:=l _ _ e4;rw[e1] at this;cases this;exact .inr ⟨.inr n2,d,e4,o,a _ _ e2,e3⟩
  .let⟨z,o,e2,e3⟩:21:=I.cell y d (l y d g)
   exact⟨z,o,a _ _ e2,e3⟩
  .let:=S.len
   unfold iK;simpa using this
 calc kla_codeExpr (Yl (J [] _ _ H Q I1 h) (λu' s' R=>?_) λe s' R=>R.elim);let⟨w,H',T,rv,q⟩:=R;calc I.after (zI2 w H' ⟨T.os,T.bare,T.base,T.aM,rv,q⟩)
end
def iZ(h:Α)(k:LK)(v:ν):Prop:=∃a o b n,v=.ref a/\h.get? a=ζ o/\o.cls=.type "tuple" /\ o.data=.seq b n/\IntsAre b.toList k
section
variable{prog:ψ}{w:ω}{A:Β}{E:aJ}{s:ο}{Q:Bool->ο->Prop}
theorem DG{a:Bool}:∀{us ws:-ν}{ks ls:LK}(i:Nat),IntsAre us ks->IntsAre ws ls->a=μ (↑us<↑ws)->Q (HT.lexLt ks ls) s->KatLex prog w A θ a Q (us.zip ws) i s
 |_,_,_,_,i,.nil,.nil,b,h=>by
  subst b;exact h
 |_,_,_,_,i,.nil,.cons m u r,b,h=>by
  let:a=θ:=by rw[b];simp
  subst this;exact h
 |_,_,_,_,i,.cons n t r,.nil,b,h=>by
  let:a=ι:=by rw[b];simp
  subst this;exact h
 |_,_,_,_,i,.cons n t r,.cons m u c,b,h=>by
  refine kat_cons (q1E (kat_go (λe=>?_) λe=>?_))
  .let e:=Xg e
   subst e;rw[HT.jX,W_ Y] at h;exact kat_yes (DG (i+1) r c (by rw[b];simp) h)
  .rw[HT.jX,Vq (λz=>by subst z;simp at e)] at h
   refine kat_no ?_
   cases q:(θ&&i==0) with
   |true=>exact oneLt_int h
   |false=>calc kat_one _ _ (q0W h)
theorem Pa{k l:LK}{x y:ν}(c:iZ s.heap k x)(d:iZ s.heap l y)(h:Q (HT.lexLt k l) s):ρ (ς prog w) A (keyLt' (tuples' θ) x y) Q E s:=by
 let⟨a,o,p,n,rfl,e,_,f,g⟩:44:=c;let⟨b,q,r,t,rfl,i,_,j,m⟩:44:=d;calc kat_lt e f i j (DG 0 g m (Y) h)
theorem DH{h:Α}:∀{b:-ν}{ks:-LK},(∀k∈ks,k≠[])->↑b=↑ks->(∀(i:Nat)(k:LK)(v:ν),ks[i]?=ζ k->b[i]?=ζ v->iZ h k v)->∃fs,KatTups h b fs/\fs.length=↑b/\∀v∈fs,∃n t,v=YB n t
 |[],[],_,_,_=>⟨[],.nil,Y,λv c=>nomatch c⟩
 |[],_::_,_,d,_=>by simp at d
 |_::_,[],_,d,_=>by simp at d
 |v::b,k::D,e,d,j=>by
  let⟨q,t,w,x⟩:12:=DH    (λk f=>e k (Bi _ f)) d⁻¹ λi k v s u=>j (i+1) k v s⁻¹ u⁻¹;let⟨a,o,l,n,rfl,y,z,A,p⟩:44:=j 0 k v Y Y;let f:=e k Vr;generalize B:l.toList=E at p
  cases p with
  |nil=>exact absurd Y f
  |cons m g r =>
   let C:l[0]?=ζ (.int m g):=by rw[<-XB,B];rfl
   calc⟨.int m g::q,.cons y z A C t,by rw[rC,rC,w],λv c=>?_⟩;rcases KN.mp c with rfl|c
   .exact (zI2 m g Y)
   .calc x v c
theorem Pb{M:Model}{a:-ν}{ks:-LK}{Q:SortKind->ο->Prop}(g:0<↑a)(b:∀k∈ks,k≠[])(c:↑a=↑ks)(d:∀(i:Nat) (k:LK) (v:ν),ks[i]?=ζ k->a[i]?=ζ v->iZ s.heap k v)(h:Q (tuples' θ) s):
  ρ M A (keyKind' a.toArray) Q E s:=by
 let⟨j,t,l,e⟩:12:=DH b c d;refine kat_kind (T:=.type "int") t ⋯ (λv f=>?_) (by decide) ?_
 .let⟨n,m,rfl⟩:2:=e v f
  exact .now
 .calc h
theorem getD_some{a:Type}{l:-a}{i:Nat}{d:a}(h:i<↑l):l[i]?=ζ (l.getD i d):=by
 rw[mf h,o8,mf h];rfl
end
section
variable{X:Cx}{pins:ax}{σ:St}{H:Hp}{s:ο}{A:Β}{E:aJ}{a:Z}{vs:-ν}{f:ν}
theorem Inv.dj{h':Α}{t':Nat}{b:Z}(I:Inv X pins σ H s)(a:bx X pins H b)(k:∀c o,c≠b->s.heap.get? c=ζ o->h'.get? c=ζ o):Inv X pins σ H {s with heap:=h',toks:=t'} :=
 I.turned k a.1 a.2.1 a.2.2.2.1 a.2.2.2.2.1 a.2.2.2.2.2
theorem Inv.eN{b:Z}{o:Γ}(I:Inv X pins σ H s)(a:bx X pins H b)(e:s.heap.get? b=ζ o)(d:∀v,o.data≠.cell v):Inv X ((b,o)::pins) σ H s :=
 I.eP λp c=>by
  rcases KN.mp c with rfl|c
  .exact⟨e,a.1,a.2.1,a.2.2.1,d⟩
  .calc I.pin p (Vp _ c)
theorem Inv.cg{p:Z×Γ}(I:Inv X (p::pins) σ H s):Inv X pins σ H s:=I.eP λq a=>I.pin q (Vp _ (Bi _ a))
theorem bx.cons{b:Z}{p:Z×Γ}(f:bx X pins H b)(n:p.1≠b):bx X (p::pins) H b :=
 ⟨f.1,f.2.1,f.2.2.1,f.2.2.2.1,f.2.2.2.2.1,λq a=>by
  rcases W9.mp a with z|z
  .exact f.2.2.2.2.2 q (Xv _ z)
  .rcases KN.mp z with rfl|z
   .exact n
   .calc f.2.2.2.2.2 q (Vp _ z)⟩
theorem oe{c xs n}:∀v,(seqObj c xs n).data≠.cell v:=λv z=>by cases z
end
section
variable{prog:ψ}{w:ω}{A:Β}{E:aJ}{s:ο}
end
section
variable{X:Cx}{pins:ax}{σ:St}{H:Hp}{s:ο}{E:aJ}
theorem Inv.qg{a:Z}{o:HO}(I:Inv X pins σ H s)(j:bx X pins H a)(k:⇑X.s₀<=a)(g:aP X.prog X.w (upd H a o) s.heap a o):Inv X pins σ (upd H a o) s:=by
 let⟨l,m,E,_,r,t⟩:05:=j;let d:∀{b u},H b=ζ u->b≠a:=λe z=>by rw[z,l] at e;cases e
 refine⟨I.ok,I.os,I.bare,⟨I.base.keep,I.base.slot,λb u e n y=>?_,I.base.there,λb h e=>?_,λb u v e=>?_,λb A e=>?_,I.base.dG⟩,I.loc,I.cell,?_,λx c e=>?_,λp i=>?_,λb u e=>?_,I.len⟩
 .rw[aG (W8 (Xe (Vo e) k))];exact I.base.free b u e n y
 .let:=I.base.cM b h e
  rw[aG (d this)];exact this
 .let:=I.base.dF b u v e
  rw[aG (d this)];exact this
 .let⟨f,this⟩:=I.base.d7 b A e
  exact⟨f,by rw[aG (d this)];calc this⟩
 .rw[aG (YD m)];exact I.free
 .rw[aG (r x c e)];exact I.bI x c e
 .let⟨B,C,D⟩:02:=I.pin p i
  exact⟨B,by rw[aG (t p i)];calc C,D⟩
 .by_cases z:b=a
  .subst z;rw[bj] at e;cases e;exact g
  .rw[aG z] at e
   refine(I.aM b u e).dE (λc v _ q=>q) (λc q=>?_) λc h q=>?_
   .rw[aG (d q)];exact q
   .rw[aG (d q)];calc q
theorem Pc{xs:-V}{vs:-ν}(r:Vals xs vs){p:-Nat}(a:∀i∈p,i<↑vs):Vals (p.map λi=>xs.getD i .non) (p.map λi=>vs.getD i XY):=by
 induction p with
 |nil=>exact .nil
 |cons i q e =>
  calc .cons ?_ (e λj f=>a j (Bi _ f));let b:=a i Vr;let⟨u,c,g⟩:=r.get (getD_some   (by rw[↑r];calc b));let:=getD_some  (d:=XY) b;rw[this] at c;cases c;calc g
theorem dh.mem{n:Nat}{p:Array Nat}(h:dh n p){i:Nat}(a:i∈p.toList):i<n:=by
 let:=(q1f.mp h.perm).mem_iff.mp a;simpa using this
end
theorem ah.at{H ds vs}{i:Nat}{d v}(h:ah H ds vs)(b:ds[i]?=ζ d)(c:vs[i]?=ζ v):Is H d v:=by
 let⟨d',a,e⟩:=h.get c;rw[b] at a;cases a;calc e
theorem ah.qh{H}:∀{ds vs},↑vs=↑ds->(∀(i:Nat) d,ds[i]?=ζ d->∃v,vs[i]?=ζ v/\Is H d v)->ah H ds vs
 |[],[],_,_=>.nil
 |[],_::_,h,_=>by simp at h
 |_::_,[],h,_=>by simp at h
 |d::b,v::c,h,g=>by
  let⟨v',e,a⟩:=g 0 d Y;cases(e)
  calc .cons a (ah.qh h⁻¹ λi d e=>by simpa using g (i+1) d e⁻¹)
structure lN where
 T:Z
 pos:Ε
 qual:π
theorem dR.same{H H' T pos q}(h:dR H T pos q)(s:ay H H'):dR H' T pos q:=by
 let⟨a,e,t,c⟩:12:=h;calc⟨a,s _ _ e,t,c.imp id λb=>by let⟨c,d,f⟩:11:=b;calc⟨c,d,s _ _ f⟩⟩
theorem dR.keep{H H' T a pos q}(h:dR H T pos q)(g:T≠a)(d:∃ps,H a=ζ (.tbl ps))(s:∀b o,H b=ζ o->b≠a->H' b=ζ o):dR H' T pos q:=by
 let⟨i,e,t,c⟩:12:=h;calc⟨i,s _ _ e g,t,c.imp id λ⟨c,j,f⟩=>⟨c,j,s _ _ f λz=>?_⟩⟩;let⟨k,d⟩:=d;rw[z,d] at f;cases f
theorem dR.put{H T a pos q o o'}(h:dR H T pos q)(j:H a=ζ o)(l:(∃vs,o=.lst vs)\/(∃ws,o=.dK ws)\/(∃ws,o=.dT ws)\/∃C f ws,o=.ins C f ws):dR (upd H a o') T pos q:=by
 let⟨m,e,t,c⟩:12:=h
 let g:∀{b u},H b=ζ u->(∀k,u≠.lst k)->(∀d,u≠.dK d)->(∀d,u≠.dT d)->(∀C f d,u≠.ins C f d)->b≠a:=λ{b u} e n p r s z=>by
  subst z;rw[j] at e;cases e;rcases l with⟨_,z⟩|⟨_,z⟩|⟨_,z⟩|⟨_,_,_,z⟩
  .exact n _ z
  .exact p _ z
  .exact r _ z
  .exact s _ _ _ z
 calc⟨m,by rw[aG (g e (λ_ z=>by cases z) (λ_ z=>by cases z) (λ_ z=>by cases z) λ_ _ _ z=>by cases z)];calc e,t,c.imp id λ⟨c,v,i⟩=>⟨c,v,?_⟩⟩;rw[aG (g i (λ_ z=>by cases z) (λ_ z=>by cases z) (λ_ z=>by cases z) λ_ _ _ z=>by cases z)];calc i
structure CC where
 cs:Hp
 ct:∀{a:Z}{o:HO},cs a=ζ o->∃vs,o=.tup vs
@[reducible] noncomputable def i0 (ls:-lN) (C:CC):aB where
 ad:=ls.map (·.T)
 ok:=λH=>(∀l∈ls,dR H l.T l.pos l.qual)/\ay C.cs H
 same:=λh s=>⟨λl a=>(h.1 l a).same s,h.2.trans s⟩
 put:=λh c d=>⟨λl a=>(h.1 l a).put c d,λb o e=>by
  let:=h.2 b o e
  rw[aG λz=>by
   subst z;let⟨g,rfl⟩:=C.ct e;rw[c] at this;cases this
   rcases d with⟨_,z⟩|⟨_,z⟩|⟨_,z⟩|⟨_,_,_,z⟩<;>cases z]
  calc this⟩
 tb:=λh c=>by
  let⟨l,a,rfl⟩:=Bk.mp c;let⟨f,e,_⟩:=h.1 l a;exact⟨f,e⟩
 cs:=C.cs
 ct:=C.ct
 co:=λh=>h.2
@[reducible] noncomputable def xl (ls:-lN):aB:=i0 ls ⟨λ_=>η,λh=>nomatch h⟩
variable[zt:aB]
structure xm(T:Z)(pos:Ε)(q:π):Prop where
 mem:T∈aB.ad
 get:∀H:Hp,aB.ok H->dR H T pos q
 put:∀H H':Hp,aB.ok H->dR H' T pos q->(∀b o,H b=ζ o->b≠T->H' b=ζ o)->aB.ok H'
omit [aB] in
theorem Pd {ls:-lN} {l:lN} (hl:l∈ls) (nd:∀a∈ls,∀b∈ls,a.T=b.T->a=b) {C:CC}:@xm (i0 ls C) l.T l.pos l.qual:=by
 letI:aB:=i0 ls C;refine⟨X0 hl,λH h=>h.1 l hl,λH H' h t k=>⟨λl' xn=>?_,λb o e=>?_⟩⟩
 .by_cases z:l'.T=l.T
  .rw[nd _ xn _ hl z];exact t
  .let⟨ps,e,_⟩:=h.1 l hl
   exact(h.1 l' xn).keep z ⟨ps,e⟩ k
 .refine k b o (h.2 b o e) λz=>?_
  let⟨ps,e2,_⟩:=h.1 l hl;let⟨vs,rfl⟩:=C.ct e;rw[<-z,h.2 b _ e] at e2;cases e2
structure Pe(X:Cx)(T:Z):Prop where
 code:∃cc,X.env.code=.ref cc/\CodeHd X.base cc T
 ng:mainGlobals≠T
 blt:X.base.BuiltinsAt X.mg T
section
variable{F H H':Hp}{ad:-Z}{δ:aH}{σ:St}
theorem SR.qi(S:SR F ad δ σ H)(k:∀b o,H b=ζ o->b∉aB.ad->H' b=ζ o)(tk:aB.ok H'):SR (Nw F H H') ad δ σ H':=by
 let j:=Nw.same (H':=H') S.sub;let p:∀{a o},F a=ζ o->a∉aB.ad:=λ{a o} e t=>by rw[S.nt a t] at e;cases e
 let s:∀{i a d},ad[i]?=ζ a->δ.mu[i]?=ζ (ζ d)->a∉aB.ad:=λ{i a d} c f t=>by
  let⟨a',o,g,m,h⟩:22:=S.mu i d f;rw[c] at g;cases g;let⟨r,q⟩:=aB.tb S.tab t;rw[m] at q;cases q;exact h.kind _ Y
 refine⟨λa o e=>?_,λa l=>?_,S.b7,S.inj,λi d e=>?_,λi x e=>?_,S.len,tk,S.nt.up j λa n=>?_⟩
 .unfold Nw at e
  cases q:H a with
  |none=>rw[q] at e;exact e
  |some u=>rw[q] at e;exact k a o (S.sub a o e) (p e)
 .let⟨i,d,c,f⟩:21:=l
  let⟨a',o,g,m,_⟩:22:=S.mu i d f;rw[c] at g;cases g;unfold Nw;rw[m];exact S.off a (zI2 i d ⟨c,f⟩)
 .let⟨a,o,c,f,h⟩:22:=S.mu i d e
  exact(zI2 a o ⟨c,k a o f (s c e),h.same j⟩)
 .let⟨v,c,h⟩:=S.sl i x e
  exact⟨v,c,h.same j⟩
 .let⟨r,q⟩:=aB.tb S.tab n
  unfold Nw;rw[q];calc S.nt a n
theorem Ext.qi(S:SR F ad δ σ H)(k:∀b o,H b=ζ o->b∉aB.ad->H' b=ζ o)(tk:aB.ok H'):Ext F ad δ.mu H (Nw F H H') ad δ.mu H' where
 same:=Nw.same S.sub
 new:=λa o e=>by
  unfold Nw at e
  cases q:H a with
  |none=>exact .inr (.inl Y)
  |some u=>rw[q] at e;exact .inl e
 keep:=λa o e _ t=>k a o e t
 pre:=λ_ _ e=>e
 b8:=λ_ l=>.inl l
 g5:=λa o e=>by
  by_cases t:a∈aB.ad
  .let⟨c,q⟩:=aB.tb tk t
   exact⟨_,q⟩
  .calc⟨o,k a o e t⟩
theorem SR.qj{a mu b d v}(S:SR F ad ⟨a,mu⟩ b H)(h:Is F d v):SR F ad ⟨ζ (.p d)::a,mu⟩ (ζ v::b) H:=by
 refine⟨S.sub,S.off,S.b7,S.inj,S.mu,λi x e=>?_,by let:=S.len;calc congrArg (· + 1) this,S.tab,S.nt⟩
 cases i with
 |zero=>cases(e);exact⟨v,Y,h⟩
 |succ i=>calc S.sl i x e
theorem Ext.lO{F' H' b c a o}(S:SR F ad δ σ H)(e:Ext F ad δ.mu H F' b c H')(h:H a=ζ o)(g:∀vs,o≠.lst vs)(j:∀ws,o≠.dK ws)(k:∀ps,o≠.tbl ps)(l:∀ws,o≠.dT ws)(n:∀C m ws,o≠.ins C m ws:=by ext _ _ _ z;cases z):H' a=ζ o:=by
 refine e.keep a o h (λ⟨i,p,r,s⟩=>?_) λt=>?_
 .let⟨a',u,d,f,q⟩:22:=S.mu i p s
  rw[r] at d;cases d;rw[h] at f;cases f;rcases q.kd with⟨_,z⟩|⟨_,z⟩|⟨_,z⟩|⟨_,_,_,z⟩
  .exact g _ z
  .exact j _ z
  .exact l _ z
  .exact n _ _ _ z
 .let⟨v,q⟩:=aB.tb S.tab t
  rw[h] at q;calc k _ (XA q)
end
def Pf(cp:-(Option Nat))(e:WE)(b:aH)(ds:-D)(a:D->LK):Prop :=
 ∀d∈ds,a d≠[]/\e ⟨ζ (.p d)::dO cp b.sl,b.mu⟩ λy c=>y=.p (.tup ((a d).map D.int))/\c.mu=b.mu
section
variable{X:Cx}{params:Arguments}{body:υ}{scope:Δ}{fG:Ε}{x:π}{Nb:-π}{cp:-(Option Nat)}{fb:WE}{T:Z}
structure iA(X:Cx)(params:Arguments)(body:υ)(scope:Δ)(fG:Ε)(T:Z)(x:π)(Nb:-π)(cp:-(Option Nat))(fb:WE):Prop where
 env:Pe X T
 tbl:xm T fG (X.env.qual++"<lambda>")
 Pg:defaultsOf params X.env=([],[])
 kind:scope.kind=.function
 names:sL X.N X.env.scope scope x Nb cp=θ
 co:scope.isCoroutine=ι
 gen:scope.isGenerator=ι
 bind:∀(cl:-(π×Z))(pm cd ct u:ν),bindArgs (kla_fn "<lambda>" (X.env.qual++"<lambda>") params body scope cl pm cd ct) ⟨[u],[]⟩=pure [(x,u)]
 room:∃k,aV (k+3) X.A/\∀d:LD,aV k (d.A.deeper (envX (X.env.qual++"<lambda>") scope ⇑d.s d.f d.cd d.cl))->JE (kW X (X.env.qual++"<lambda>") scope (x::Nb) d) body (tD fb)
end
structure gg(mg:π->Option ν)(base:Α)(fd:FuncData)(T:Z)(pos:Ε)(q:π):Prop where
 code:∃cc,fd.code=.ref cc/\CodeHd base cc T
 ng:mainGlobals≠T
 blt:base.BuiltinsAt mg T
 tbl:xm T pos q
theorem fM.xp{P w K C e x c st f n N ps k G}(F:fM K x c st f n)(S:jW N ps (cn st))
  (i:∀d A a s H E,n.code=d->aV k (A.deeper (envOfC c (cn st) ⇑s f d)) →
   ∃B:WS,b3 (bC eS P w K C e N c (cn st) f d A a s H E).jy (dA st) (cB B)/\∀ys b l,↑ys=↑ps->G ys b l->B (iw ↑b l) ⟨ys.map ζ++Xb (↑N-↑ps) η,b.map ζ⟩) :
  bP P w K C e eS (k+1) f n ps (ji G ↑ps):=by
 let⟨oc,od,kV,J,pm,an,d,ct,L,rfl,M,q⟩:92:=F.ex;calc u7 M q S (λO H Q E h=>h.1) λA a s H O Q E R h=>?_;let⟨D,T,U,o,b,l,m,g,I⟩:=h;let⟨B,W,X⟩:=i d A a s H E rfl R
 let Y:↑o=↑ps:=by
  let:=m.len;rw[kF] at this;rw[<-D,this,kF]
 refine⟨_,W.jy,T,U,⟨o.map ζ++Xb (↑N-↑ps) η,b.map ζ⟩,iw ↑b l,by rw[<-D];calc m.start,X o b l Y g,⟨λj h Z r t H' u z=>?_,λj h=>h.elim,λj h=>h.elim,λy j h v Z r t H' u z V=>?_,trivial⟩⟩
 .exact nS  m u z (x:=.p .non)  rfl h I
 .calc nS  m u z V h I
section
variable{X:Cx}{params:Arguments}{body a e:υ}{scope:Δ}{fG p1 p2 q1 q2 l7:Ε}{x:π}{Nb:-π}{cp:-(Option Nat)}{fb f:WE}{fa:WA}{T:Z}
end
end L2
namespace L2
open PySem PySem.Spec PyProof.Rows PySem.W
theorem qk:∀{k l:LK}(n m:Int),k.length=↑l->HT.lexLt (k++[n]) (l++[m])=if k=l then μ (n<m) else HT.lexLt k l
 |[],[],n,m,_=>by
  show(if n=m then HT.lexLt [] [] else μ (n<m))=_;rw[W_ Y]
  by_cases h:n=m
  .subst h;simp[HT.lexLt]
  .rw[Vq h]
 |[],_::_,_,_,h=>by simp at h
 |_::_,[],_,_,h=>by simp at h
 |a::k,b::l,n,m,h=>by
  rw[q1L,q1L,HT.jX,HT.jX,qk n m h⁻¹]
  by_cases e:a=b
  .subst e
   rw[W_ Y,W_ Y]
   by_cases c:k=l
   .subst c;rw[W_ Y,W_ Y]
   .rw[Vq c,Vq λz=>c (q2R z).2]
  .rw[Vq e,Vq e,Vq λz=>e (q2R z).1]
def jK(h:Α)(L:Nat)(k:LK)(v:ν):Prop:=∃a o d n b c m t,v=.ref a/\h.get? a=ζ o/\o.cls=.type "tuple" /\ o.data=.seq d n/\d.toList=[.ref b,.int m t]/\iZ h c (.ref b)/\↑c=L/\k=c++[m]
section
variable{prog:ψ}{w:ω}{A:Β}{E:aJ}{s:ο}{Q:Bool->ο->Prop}
theorem xq:∀{us ns},IntsAre us ns->ItemsAre (intKind prog w) ns us
 |_,_,.nil=>.nil
 |_,_,.cons n t r=>.cons (q0E ..) (xq r)
theorem Ph{L:Nat}{k l:LK}{x y}(r:A.units<cLine)(N:jK s.heap L k x)(O:jK s.heap L l y)(h:Q (HT.lexLt k l) s):ρ (ς prog w) A (keyLt' (tuples' ι) x y) Q E s:=by
 let⟨a,o,P,n,b,kb,m,t,rfl,R,_,S,u,⟨b',v,T,z,U,B,C,D,F⟩,V,rfl⟩:87:=N;let⟨a',o',g,n',c,kc,W,t',rfl,i,_,j,d,⟨c',G,X,H,Y,I,J,K,M⟩,p,rfl⟩:87:=O;cases U
 cases Y
 let Z:P.size=2:=by rw[<-Xa,u];rfl
 let q:g.size=2:=by rw[<-Xa,d];rfl
 rw[qk m W (by rw[V,p])] at h;calc kat_lt R S i j ?_;rw[u,d,Z,q,YL,YL,q1q];refine kat_cons (wpAny_eqBool_tuple r (zI3 v T z ⟨B,C,D,xq F⟩) (zI3 G X H ⟨I,J,K,xq M⟩) (kat_go (λe=>?_) λe=>?_))
 .let e:=by simpa using e
  rw[W_ e] at h;refine kat_yes (kat_cons (q1E (kat_go (λf=>?_) λf=>?_)))
  .let f:=Xg f
   subst f;calc kat_yes (kat_nil ?_);simpa using h
  .exact kat_no (kat_one _ _ (q0W h))
 .let e:=by simpa using e
  rw[Vq e] at h;calc kat_no (kat_one _ _ (HT.u_ ⟨v,B,C,z,D⟩ ⟨G,I,J,H,K⟩ F M r h))
theorem Pj{M:Model}{L:Nat}{vs:-ν}{ks:-LK}{Q:SortKind->ο->Prop}(q:0<↑vs)(g:↑vs=↑ks)(e:∀(i:Nat) (k:LK) (v:ν),ks[i]?=ζ k->vs[i]?=ζ v->jK s.heap L k v)(h:Q (tuples' ι) s):
  ρ M A (keyKind' vs.toArray) Q E s:=by
 let l:∀c (d:-LK),↑c=↑d->(∀(i:Nat) k v,d[i]?=ζ k->c[i]?=ζ v->jK s.heap L k v)->∃f,KatTups s.heap c f/\↑f=↑c/\∀v∈f,Looks M s.heap (typeOf v) (.type "tuple"):=by
  ext c
  induction c with
  |nil=>exactλd _ _=>⟨[],.nil,Y,λv j=>nomatch j⟩
  |cons v c u =>
   ext d g e
   match d,g,e with
   |k::d,g,e =>
    let⟨f,t,r,p⟩:12:=u d g⁻¹ λi k v w x=>e (i+1) k v w⁻¹ x⁻¹;let⟨a,o,y,n,b,I,m,J,rfl,z,B,C,D,⟨b',K,N,O,F,G,H,P,R⟩,_⟩:86:=e 0 k v Y Y;cases F
    let q:y[0]?=ζ (.ref b):=by rw[<-XB,D];rfl
    calc⟨.ref b::f,.cons z B C q t,by rw[rC,rC,r],λv j=>?_⟩;rcases KN.mp j with rfl|j
    .rw[<-H];exact(Looks.ld G).andThen .now
    .exact p v j
 let⟨f,t,r,p⟩:12:=l vs ks g e;calc kat_kind  t ⋯ p (by decide) h
end
section
variable{X:Cx}{pins:ax}{σ:St}{H:Hp}{s:ο}{A:Β}{E:aJ}{a:Z}{vs:-ν}{ks:-LK}{κ:SortKind}
theorem Pk{n0:Nat}{R:PySem.Fin->ο->Prop}(I:Inv X pins σ H s)(V:bx X pins H a)(L:s.heap.get? a=ζ (seqObj "list" vs.toArray n0))(M:↑vs<64)
  (kind:∀s':ο,Inv X pins σ H s'->2<=↑vs->∀Q:SortKind->ο->Prop,Q κ s'->ρ (ς X.prog X.w) A (keyKind' vs.toArray) Q E s')
  (N:∀s':ο,Inv X pins σ H s'->∀(i j:Nat)(C:Bool->ο->Prop),i<↑vs->j<↑vs->C (HT.lexLt (ks.getD i []) (ks.getD j [])) s'->ρ (ς X.prog X.w) A (keyLt' κ (vs.getD i XY) (vs.getD j XY)) C (λ_ _=>False) s')
  (O:∀(p:Array Nat)(s':ο)(c:Nat),dh ↑vs p->Up (λi=>ks.getD i []) p ↑vs->Inv X pins σ H s'->s'.heap.get? a=ζ (seqObj "list" (ZQ (p.toList.map λi=>vs.getD i XY)) c)->R (.done (.ret .none)) s') :
  ρ (ς X.prog X.w) A (Builtin.«list.sort» ⟨[.ref a],[]⟩) R E s:=by
 let P:=XE s.heap a (X7 λ_ => #[]);let⟨B,l⟩:∃B,(s.heap.update a (X7 λ_ => #[])).get? a=ζ (seqObj "list" #[] B):=⟨_,q0U L λ_ => #[]⟩;let W:Inv X pins σ H {s with heap:=s.heap.update a (X7 λ_ => #[])}:=I.dj  V λc o n e=>(P.2 c n).trans e;rw[list_sort_plain];calc dV (listItems_at L rfl (dV (listUpdate_at L rfl (dV (seqEpoch_at l rfl (dV (wpAny_newTuple (dV (q0L (Xy ?_) (XZ _))) (by show ↑vs<=_;rw[YZ];symm))))) (by rw[KJ,YZ];symm) (XZ _))));generalize VM:s.heap.update a (X7 λ_ => #[])=D at l W P;let F:Inv X pins σ H {s with heap:=(D.push (seqObj "tuple" vs.toArray 0)).push (seqObj "list" #[] 0)}:=W.kept   λb u e=>mi _ (mi _ e)
 let h:((D.push (seqObj "tuple" vs.toArray 0)).push (seqObj "list" #[] 0)).get? a=ζ (seqObj "list" #[] B):=mi _ (mi _ l);let kp:∀b o,b≠a->s.heap.get? b=ζ o->((D.push (seqObj "tuple" vs.toArray 0)).push (seqObj "list" #[] 0)).get? b=ζ o:=λb o n e=>mi _ (mi _ ((P.2 b n).trans e));generalize(D.push (seqObj "tuple" vs.toArray 0)).push (seqObj "list" #[] 0)=m at F h kp
 let k:∀r p,(arrOf r).map (·.2)=ZQ (p.toList.map λi=>vs.getD i XY)->failedOf r=η->dh ↑vs p->Up (λi=>ks.getD i []) p ↑vs->ρ (ς X.prog X.w) A (do
   let d:=(<- seqEpoch a) != B
   Builtin.List.listUpdate (.ref a) λ_=>(arrOf r).map (·.2)
   if let ζ e:=failedOf r then rule "list.sort.comparison-raised";throw e
   if d then rule "list.sort.modified";raiseError "ValueError" "list modified during sort"
   ret .none) R E {s with heap:=m}:=by
  ext r p t hf Y up;let hz:↑(p.toList.map λi=>vs.getD i XY)=↑vs:=by rw[kF,Xa,Y.size]
  rw[t];let s2:=XE m a (X7 λ_=>ZQ (p.toList.map λi=>vs.getD i XY));let⟨S,T⟩:∃S,(m.update a (X7 λ_=>ZQ (p.toList.map λi=>vs.getD i XY))).get? a=ζ (seqObj "list" (ZQ (p.toList.map λi=>vs.getD i XY)) S):=⟨_,q0U h λ_=>ZQ (p.toList.map λi=>vs.getD i XY)⟩;let J:Inv X pins σ H {s with heap:=m.update a (X7 λ_=>ZQ (p.toList.map λi=>vs.getD i XY))}:=F.dj   V λc o n e=>(s2.2 c n).trans e;calc dV (seqEpoch_at h rfl (dV (listUpdate_at h rfl ?_ (XZ _) (XQ (q5N ⋯) (by rw[YZ];symm)))));rw[hf];erw[bne_self_eq_false,Zk,Z8];exact nF (O p _ S Y up J T)
 by_cases q:vs.toArray.size<2
 .rw[W_ q,W_ q]
  rw[KJ] at q;refine k (SortSt.mk' general' (vs.toArray.zip vs.toArray) #[] 7 η) (Xz ↑vs).toArray ?_ rfl ⟨q32 _⟩ λi j OD Z=>?_
  .let U:arrOf (SortSt.mk' general' (vs.toArray.zip vs.toArray) #[] 7 η)=(ZQ (Xz ↑vs)).map (kas_item (vs.toArray.zip vs.toArray)):=by
    let e:=kas_range (vs.toArray.zip vs.toArray);rw[show(vs.toArray.zip vs.toArray).size=↑vs by simp] at e;rw[e]
   exact kat_snds rfl U
  .let:i=j:=by symm
   subst this;exact kle_refl _
 .rw[Vq q,Vq q]
  rw[KJ] at q
  refine dV (kind _ F ⋯ _ (dV (Yl (kat_run   (Q:=λf g=>g={s with heap:=m}/\∃p:Array Nat,arrOf f=p.map (kas_item (vs.toArray.zip vs.toArray))/\failedOf f=η/\dh ↑vs p/\Up (λi=>ks.getD i []) p ↑vs)
   (G:=λp g=>g={s with heap:=m}/\dh ↑vs p/\Up (λi=>ks.getD i []) p ↑vs) rfl ⋯ M (λp f g K v y z=>⟨z.1,p,v,y,z.2.1,z.2.2⟩) ?_) ?_ λ_ _ x=>x)))
  .refine NZ  (I:=λg=>g={s with heap:=m}) (λi j C g hi Z e hC=>?_) ⋯ rfl λp g K v y=>⟨y,K,v⟩
   subst e;exact N _ F i j C hi Z (hC _ rfl)
  .ext ⟨⟨⟩,f⟩ g ⟨rfl,p,K,v,y,z⟩
   calc k f p (kat_snds rfl K) v y z
theorem DI{l:Z}{xs:-V}{Q:aJ}(I:Inv X pins σ H s)
  (r:∀k:-ν->ο->Prop,(∀h' tk vs,(∀b o,s.heap.get? b=ζ o->h'.get? b=ζ o)->Vals xs vs->k vs {s with heap:=h',toks:=tk})->ρ (ς X.prog X.w) X.A.in1 (collect (.ref l)) k E s) (F:↑xs<64)
  (kind:∀(s':ο)(vs:-ν),Vals xs vs->Inv X pins σ H s'->2<=↑vs->∀Q:SortKind->ο->Prop,Q κ s'->ρ (ς X.prog X.w) X.A.in1.in1 (keyKind' vs.toArray) Q E s')
  (t:∀(s':ο)(vs:-ν),Vals xs vs->Inv X pins σ H s'->∀(i j:Nat)(C:Bool->ο->Prop),i<↑vs->j<↑vs->C (HT.lexLt (ks.getD i []) (ks.getD j [])) s'->ρ (ς X.prog X.w) X.A.in1.in1 (keyLt' κ (vs.getD i XY) (vs.getD j XY)) C (λ_ _=>False) s')
  (v:∀(p:Array Nat)(s':ο)(a:Z),dh ↑xs p->Up (λi=>ks.getD i []) p ↑xs->H a=η->Inv X pins σ (upd H a (.lst (p.toList.map λi=>xs.getD i .non))) s'->Q (.ref a) s') :
  ρ (ς X.prog X.w) X.A (call (.builtin "sorted") [.ref l]) Q E s:=by
 calc q1l kind_sorted plain_sorted entry_sorted (args_sorted1 _) (dV  (nF (dV (r _ λf z d G m=>?_))));let B:=m.length.symm;calc dV (q0L ?_ (by rw[YZ];symm));let n:Inv X pins σ H {s with heap:=f,toks:=z}:=I.kept G;let x:=n.fz (vr _) (n.aM.fresh (vr _));let K:Inv X pins σ H {s with heap:=f.push (seqObj "list" d.toArray 0),toks:=z}:=n.kept   λb u e=>mi _ e;let h:(f.push (seqObj "list" d.toArray 0)).get? f.objs.size=ζ (seqObj "list" d.toArray 0):=Vs _ Y;refine dV (Xy (YC slot_list_sort ⟨_,h,Y⟩ entry_list_sort ?body (args_list_sort _)))
 case body =>
  calc Pk   K x h ⋯ (λg J L k M=>kind g d m J L k M) (λg J i j C y N O=>t g d m J i j C y N O) λp g c q D J e=>⟨_,Y,?_⟩;rw[B] at q D;calc nF ⟨_,Y,v p g f.objs.size q D x.1 (J.qg x n.sz ?_)⟩;let P:↑(p.toList.map λi=>xs.getD i V.non)=↑xs:=by rw[kF,Xa,q.size]
  calc⟨by rw[P,YZ];symm,_,c,Pc m λi y=>by rw[B];calc q.mem y,e⟩
end
def xt(ds:-D)(a:D->LK):Prop :=
 (∀d∈ds,a d≠[]/\d=.tup ((a d).map D.int))\/∃L:Nat,∀d∈ds,∃(k:LK)(n:Int),k.length=L/\d=.tup [.tup (k.map D.int),.int n]/\a d=k++[n]
def sM:-D->(D->Prop)->Prop
 |[.lst c],K=>↑c<64/\∃b:D->LK,xt c b/\∀a:-D,a.Perm c->(a.map b).Pairwise kle->K (.lst a)
 |[.tup c],K=>↑c<64/\∃b:D->LK,xt c b/\∀a:-D,a.Perm c->(a.map b).Pairwise kle->K (.lst a)
 |_,_=>False
theorem Pl{ds:-D}{a:D->LK}{p:Array Nat}{n:Nat}(hn:↑ds=n)(c:dh n p)(k:Up (λi=>(ds.map a).getD i []) p n):(p.toList.map λi=>ds.getD i .non).Perm ds/\((p.toList.map λi=>ds.getD i .non).map a).Pairwise kle:=by
 subst hn
 constructor
 .let e:=(q1f.mp c.perm).map λi=>ds.getD i D.non
  let l:(Xz ↑ds).map (λi=>ds.getD i D.non)=ds:=by
   calc Zr λi=>?_;rw[KI]
   by_cases b:i<↑ds
   .rw[YG b,q13,mf b,o8,mf b];rfl
   .rw[Yt (by rw[Ye];symm),Yt ⋯];rfl
  rw[show(Xz ↑ds).toArray.toList=Xz ↑ds from Y,l] at e;exact e
 .rw[Xd,Z6]
  ext i j b d m;rw[kF,Xa,c.size] at b d;let:=k i j ⋯ d;unfold KA at this;rw[Z5,Z5]
  let f:∀{i} h,p.getD i 0=p.toList[i]:=λ{i} h=>by
   let o:i<p.size:=by symm
   simp[q2X,o]
  let g:∀{i},i<↑ds->(ds.map a).getD i []=a (ds.getD i .non):=λ{i} h=>by
   rw[o8,KI,mf h,o8,mf h];rfl
  dsimp only at this;rw[g (c.lt b),g (c.lt d),f (by rw[Xa,c.size];calc b),f (by rw[Xa,c.size];calc d)] at this;calc this
theorem Pm{F:Hp}{ds:-D}{xs:-V}{p:-Nat}(h:ah F ds xs)(c:∀i∈p,i<↑ds):ah F (p.map λi=>ds.getD i .non) (p.map λi=>xs.getD i .non):=by
 calc ah.qh (by rw[kF,kF]) λi d e=>?_;rw[KI] at e ⊢;let⟨z,a,rfl⟩:11:=My.mp e;rw[a];let b:=c z (Xw a);calc⟨_,Y,ah.at h (getD_some b) (getD_some (by rw[↑h];calc b))⟩
section
variable[zt:aB]{X:Cx}
theorem sN{b:ax}{d:St}{H F:Hp}{s:ο}{k:LK}{v:V}{u:ν}(I:Inv X b d H s)(c:ay F H)(h:Is F (.tup (k.map D.int)) v)(r:RelV v u):iZ s.heap k u:=by
 let⟨a,p,rfl,e,i⟩:22:=h;cases r
 rw[jZ i] at e;let⟨f,g,⟨o,j,l,n,m⟩,_⟩:12:=I.tuple (bE.of (c _ _ e));calc(zI4 a o _ n ⟨Y,j,l,m,by simpa using intsAre_of g⟩)
theorem xu{c:ax}{i:St}{H F:Hp}{s:ο}{k:LK}{m:Int}{v:V}{u:ν}(I:Inv X c i H s)(d:ay F H)(h:Is F (.tup [.tup (k.map D.int),.int m]) v)(r:RelV v u):jK s.heap k.length (k++[m]) u:=by
 let⟨a,A,rfl,e,B,C,rfl,j,E,G,rfl,l,rfl⟩:222222:=h;cases r
 let⟨p,f,⟨o,q,w,n,x⟩,_⟩:12:=I.tuple (bE.of (d _ _ e));subst l
 cases f with
 |cons y f =>
  cases f with
  |cons z f =>
   cases f
   let g:=sN I d j y;let⟨b,_,_,_,rfl,_⟩:41:=id g;let⟨t,rfl⟩:=z;calc(zI7 a o _ n b k m ⟨t,Y,q,w,x,Y,g,Y,Y⟩)
theorem DJ{r:ax}{σ:St}{H F:Hp}{s:ο}{E:aJ}{l:ξ}{ds:-D}{us:-V}{f:D->LK}{Q:aJ}(hu:X.A.units+64<cLine)(I:Inv X r σ H s)(q:ay F H)(R:H l=ζ (.lst us)\/H l=ζ (.tup us))(hi:ah F ds us)(VN:↑ds<64)(z:xt ds f)
  (fin:∀(out:-D)(ws:-V)(a:ξ)(s':ο),out.Perm ds->(out.map f).Pairwise kle->ah F out ws->H a=η->Inv X r σ (upd H a (.lst ws)) s'->Q (.ref a) s'):ρ (ς X.prog X.w) X.A (call (.builtin "sorted") [.ref l]) Q E s:=by
 let W:∀S:-ν->ο->Prop,(∀N tk m,(∀b o,s.heap.get? b=ζ o->N.get? b=ζ o)->Vals us m->S m {s with heap:=N,toks:=tk})->ρ (ς X.prog X.w) X.A.in1 (collect (.ref l)) S E s:=λS hQ=>by
  rcases R with R|R
  .let⟨ly,c,pl,hz⟩:=I.list (bf.of R)
   let⟨o,T,U,n,o3⟩:=pl.isList;exact q3x l (.inl rfl) T U o3 (λN kp=>hQ N s.toks _ kp c⁻¹) (by rw[KJ,<-↑c];calc hz)
  .let⟨ly,c,⟨o,T,U,n,o3⟩,hz⟩:=I.tuple (bE.of R)
   exact q3x l (.inr rfl) T U o3 (λN kp=>hQ N s.toks _ kp c⁻¹) (by rw[KJ,<-↑c];calc hz)
 let lu:=↑hi;let Pn:X.A.in1.in1.units<cLine:=by show X.A.units+1+1<cLine;symm
 let Y:∀{i:Nat},i<↑ds->(ds.map f).getD i []=f (ds.getD i .non):=λ{i} h=>by
  rw[o8,KI,mf h,o8,mf h];rfl
 let g:∀{i},i<↑ds->∀{m},Vals us m->∃v,Is F (ds.getD i .non) v/\RelV v (m.getD i XY):=λ{i} h {m} c=>by
  let⟨u,O,Z⟩:11:=c.get (getD_some  (d:=V.non) (i:=i) ⋯);let:=getD_some  (d:=XY) (i:=i) (by rw[<-↑c];symm);rw[this] at O;cases O;exact⟨_,ah.at hi (getD_some h) (getD_some ⋯),Z⟩
 let t:∀{i},i<↑ds->ds.getD i .non∈ds:=λ{i} h=>Xw (getD_some h)
 let ke:∀{i k},(ds.map f)[i]?=ζ k->i<↑ds/\k=f (ds.getD i .non):=λ{i k} e=>by
  let h:=by let:=(mj.mp e).1;rwa [kF] at this
  calc⟨h,?_⟩;let:=getD_some (l:=ds.map f) (d:=[])  (by rw[kF];calc h);rw[e,Y h] at this;exact XA this
 let ve:∀{i v}{m:-ν},m[i]?=ζ v->v=m.getD i XY:=λ{i v m} e=>by
  rw[o8,e];rfl
 let K:∀p G a,dh ↑us p->Up (λi=>(ds.map f).getD i []) p ↑us->H a=η->Inv X r σ (upd H a (.lst (p.toList.map λi=>us.getD i .non))) G->Q (.ref a) G:=λp G a hp up ha J=>by
  let⟨T,U⟩:=Pl lu.symm hp up;exact fin _ _ a G T U (Pm hi λi x=>by rw[<-lu];calc hp.mem x) ha J
 rcases z with z|⟨L,z⟩
 .refine DI (κ:=tuples' θ)  I W ⋯ (λG m c J h2 S hq=>?_) (λG m c J i j C x M P=>?_) K
  .refine Pb (ks:=ds.map f) ⋯ (λk hk=>?_) (by rw[kF,<-↑c];symm) (λi k v O Z=>?_) hq
   .let⟨d,hd,rfl⟩:=Bk.mp hk
    exact(z d hd).1
   .let⟨h,rfl⟩:=ke O
    let⟨w,y,B⟩:=g h c;rw[(z _ (t h)).2] at y;rw[<-ve Z] at B;exact sN J q y B
  .rw[<-↑c] at x M
   rw[Y ⋯,Y ⋯] at P;let⟨w,y,B⟩:=g (i:=i) ⋯ c;let⟨w',i2,r2⟩:=g (i:=j) ⋯ c;rw[(z _ (t ⋯)).2] at y i2;exact Pa (sN J q y B) (sN J q i2 r2) P
 .refine DI (κ:=tuples' ι)  I W ⋯ (λG m c J h2 S hq=>?_) (λG m c J i j C x M P=>?_) K
  .refine Pj (L:=L) (ks:=ds.map f) ⋯ (by rw[kF,<-↑c];symm) (λi k v O Z=>?_) hq
   let⟨h,rfl⟩:=ke O;let⟨w,y,B⟩:=g h c;let⟨k,n,hk,e3,e4⟩:22:=z _ (t h);rw[e3] at y;rw[<-ve Z] at B;rw[e4,<-hk];exact xu J q y B
  .rw[<-↑c] at x M
   rw[Y ⋯,Y ⋯] at P;let⟨w,y,B⟩:=g (i:=i) ⋯ c;let⟨w',i2,r2⟩:=g (i:=j) ⋯ c;let⟨k,n,hk,e3,e4⟩:22:=z _ (t (i:=i) ⋯);let⟨k',n',Po,Pp,Pq⟩:22:=z _ (t (i:=j) ⋯);rw[e3] at y;rw[Pp] at i2;rw[e4,Pq] at P;let t1:=xu J q y B;let t2:=xu J q i2 r2;rw[hk] at t1;rw[Po] at t2;calc Ph Pn t1 t2 P
theorem Pr(t:X.A.units+64<cLine):cG X (.builtin "sorted") sM:=by
 ext w s D H E G Q I r ⟨F,L,K,c,x,q,y⟩;unfold sM at q;split at q
 .let⟨d,g,i,j⟩:=q
  let⟨v,rfl,a,z,rfl,k,l⟩:=f9 x;let⟨u,rfl,m⟩:=vals1 r;cases m
  exact DJ t I c (.inl k) l d i λe B b C n o p f J=>⟨.ref b,_,J,Y,y _ _ _ (j e n o) (b_ f) (j3 c f p)⟩
 .let⟨d,g,i,j⟩:=q
  let⟨v,rfl,h⟩:=f9 x;let⟨a,z,rfl,k,l⟩:=h;let⟨u,rfl,m⟩:=vals1 r;cases m
  exact DJ t I c (.inr (c _ _ k)) l d i λe B b C n o p f J=>⟨.ref b,_,J,Y,y _ _ _ (j e n o) (b_ f) (j3 c f p)⟩
 .calc q.elim
end
end L2
namespace LJ
open PySem L2 PySem.W
theorem Pt{ls:-lN}{b ps}:(ls.map λl=>(l.T,(#[]:Array ν))).lookup b=ζ ps->(∃l∈ls,l.T=b)/\ps = #[]:=by
 induction ls with
 |nil=>ext h;cases h
 |cons l g a =>
  ext h;rw[Xm,Xx] at h
  cases q:b==l.T with
  |true =>
   rw[q] at h;exact⟨⟨l,Vr,(Xg q).symm⟩,(XA h).symm⟩
  |false =>
   rw[q] at h;let⟨⟨c,d,e⟩,f⟩:=a h;calc⟨⟨c,Bi _ d,e⟩,f⟩
theorem xv{ls:-lN}{l}(h:l∈ls):(ls.map λl=>(l.T,(#[]:Array ν))).lookup l.T=ζ #[]:=by
 induction ls with
 |nil=>cases h
 |cons a c b =>
  rw[Xm,Xx]
  cases q:l.T==a.T with
  |true=>rfl
  |false =>
   rcases KN.mp h with rfl|h
   .simp at q
   .calc b h
theorem Pu{l:OpenLaw}{q g}{L:(π->Option ν)->Α->Prop}{d K as}{e:∀P,as=(K P).map (·.1)}{E kk} ls C (p:ls.map (·.T)=E) (hn:l.most=ζ 63) (r:d.params.defaults=[]) (M:aV kk callerA)
  (v:∀w h,(K w.params).In h->Cs l.prog w C.cs h) (y:∀(w:ω) h,(K w.params).In h->∀t∈ls,∃x,CodeHd h x t.T) (A:∀P,noTabs (K P)=θ)
  (F:∀w i m h,(K w.params).In h->h.Ns mainGlobals i->i d.name=ζ (.ref m) →
   ∃n:FuncData,(∀s u,BindsTo s n ⟨[u],[]⟩ [("script",u)])/\∀c:Α,(K w.params).In c->c.Ns mainGlobals i->(∀t∈ls,c.BuiltinsAt i t.T)->bP l.prog w (K w.params) i c eS kk m n ["script"] (@sI (i0 ls C) (K w.params))) :
  WalkO q g L (kmHook K as e E).says l.row.toRowW d [] (λf vs=>q22 f vs) :=
 L2.O6         hn (by decide) r M (λw h Y=>km_in_of Y)
  (λw h Y b O B=>by
   let⟨⟨t,j,rfl⟩,rfl⟩:=Pt B;let I:=km_tabs_of Y t.T (by rw[<-p];calc X0 j);refine⟨I,?_,?_⟩
   .let⟨x,o,N,_,_,_,_,_,_,_,Q,R,S,U,_⟩:9014:=y w h (km_in_of Y) t j
    exact(zI3 x o N ⟨Q,R,S,U⟩)
   .cases z:(K w.params).lookup t.T with
    |none=>rfl
    |some o =>
     let J:=km_in_of Y t.T o z;rw[I] at J;cases J
     calc absurd ((XS.mp (A w.params) (t.T,tabObj #[]) (mem_of_lookupK z))) Xh)
  (λw h Y=>v w h (km_in_of Y))
  (λw i m h V G D=>by
   let⟨n,W,X⟩:=F w i m h V G D
   calc⟨n,W,λc Z k2 k3=>X c Z k2 λt j=>k3 t.T #[] (xv j)⟩)
  (λw H a ns B hO hQ hS=>by
   calc(zI2 a ns ⟨rfl,hS,B,⟨λt j=>?_,hQ⟩,λ_=>rfl⟩);rcases hO t.T with⟨O,k,z2⟩|⟨k,_⟩
   .rw[xv j] at k;cases k
    exact⟨#[],z2,trivial,.inl rfl⟩
   .rw[xv j] at k;cases k)
  λ_ _ _ _ _ z=>z
theorem Pw{l:OpenLaw}{q b}{p:(π->Option ν)->Α->Prop}{d K as}{e:∀P,as=(K P).map (·.1)}{m kk} ls (g:ls.map (·.T)=m) (hn:l.most=ζ 63) (i:d.params.defaults=[]) (r:aV kk callerA)
  (j:∀(w:ω) h,(K w.params).In h->∀t∈ls,∃v,CodeHd h v t.T) (k:∀P,noTabs (K P)=θ)
  (F:∀w c n h,(K w.params).In h->h.Ns mainGlobals c->c d.name=ζ (.ref n) →
   ∃o:FuncData,(∀s u,BindsTo s o ⟨[u],[]⟩ [("script",u)])/\∀a:Α,(K w.params).In a->a.Ns mainGlobals c->(∀t∈ls,a.BuiltinsAt c t.T)->bP l.prog w (K w.params) c a eS kk n o ["script"] (@sI (xl ls) (K w.params))) :
  WalkO q b p (kmHook K as e m).says l.row.toRowW d [] (λf vs=>q22 f vs) :=
 Pu ls ⟨λ_=>η,λh=>nomatch h⟩ g hn i r (λ_ _ _=>⟨λh=>(nomatch h),λh=>(nomatch h)⟩) j k F
end LJ
namespace LJ
open PySem L2
variable[zt:aB]
inductive xw (ys:-DV) (aN:-OV) (K:RV->-OV->Prop):Prop
 |mk (m:Int) (ws:-(Int×Int×Int)) (q:ak m ws) (q:ys=[.p (az m ws)]) (q:aN=[]) (q:K (.p .non) [])
def xx:WS:=(aO (cu (dT (aj 1 w_ (ag (aa 0) af)))) v7 bQ)
theorem Px:Sem 1 0 xw xx:=by
 ext c a d-⟨m,b,W,rfl,rfl,k⟩;unfold xx;simp!;calc⟨m,b,W,Y,Y,bg k⟩
inductive sO (ys:-DV) (aN:-OV) (K:RV->-OV->Prop):Prop
 |mk (y:Int×Int×Int) (q:ys=[.p (bc y)]) (q:aN=[]) (q:K (.p (.tup [.int y.2.2,.int y.1,.int y.2.1])) [])
def xy:WS:=(aA (bN (ag (d2 (aa 0) (dC (.int 2)) aE) (ag (d2 (aa 0) (dC (.int 0)) aE) (ag (d2 (aa 0) (dC (.int 1)) aE) af)))))
theorem Py:Sem 1 0 sO xy:=by
 ext b a c-⟨y,rfl,rfl,k⟩;unfold xy;simp![bc,cQ,cR,at2];calc bg k
meta def bJ(ws:-(Int×Int×Int))(n:Int):LK:=[(ws.getD n.toNat (0,0,0)).2.2,(ws.getD n.toNat (0,0,0)).1,(ws.getD n.toNat (0,0,0)).2.1]
theorem sP{m}{ws:-(Int×Int×Int)}(W:ak m ws){a b}(f:0<=a/\a<(↑ws:Int))(g:0<=b/\b<(↑ws:Int))(e:bJ ws a=bJ ws b):a=b:=by
 let⟨i,rfl⟩:∃i:Nat,a=i:=⟨a.toNat,⋯⟩;let⟨j,rfl⟩:∃j:Nat,b=j:=⟨b.toNat,⋯⟩;let c:i<↑ws:=by symm
 let d:j<↑ws:=by symm
 unfold bJ at e;rw[Xn,Xn,o8,mf c,o8,mf d] at e;erw[Option.getD_some,q18,and_true] at e
 let q:(ws.map λy=>(y.1,y.2.1))[i]'(by rw[kF];calc c)=(ws.map λy=>(y.1,y.2.1))[j]'(by rw[kF];calc d):=by
  rw[Z5,Z5,e.2.1,e.2.2]
 let:=(q0H W.unlike).mp q;rw[this]
inductive sQ (ys:-DV) (aN:-OV) (K:RV->-OV->Prop):Prop
 |mk (m:Int) (ws:-(Int×Int×Int)) (n:Int) (q:ak m ws) (q:(0<=n/\n<(↑ws:Int))) (q:ys=[.p (az m ws),.p (.int n)]) (q:aN=[]) (q:K (.p (.tup ((bJ ws n).map D.int))) [])
def xA:WS:=(ai (eJ (d2 (d2 (aa 0) (dC (.int 1)) aE) (aa 1) aE) (fN 3 (cH (aS 2) (cH (aS 3) (cH (aS 4) fB))))) (aA (bN (ag (aa 4) (ag (aa 2) (ag (aa 3) af))))))
theorem Pz:Sem 2 3 sQ xA:=by
 ext f a g-⟨m,h,n,W,⟨b,c⟩,rfl,rfl,k⟩;let⟨y,d,i,e,_⟩:13:=lK W b c;unfold xA;simp![cR,az,e,bc];unfold bJ at k;rw[d] at k;calc bg k
meta def i5(ws:-(Int×Int×Int))(n:Int):D:=.tup [.tup ((bJ ws n).map D.int),.int n]
theorem PA{a b n m}(c:↑a=↑b)(h:kle (a++[n]) (b++[m])):kle a b:=by
 unfold kle at h ⊢;rw[qk _ _ c.symm] at h
 by_cases e:b=a
 .rw[e];exact pW a
 .rw[Vq e] at h;calc h
end LJ
namespace L2
open PySem PySem.Spec PyProof.Rows
variable[zt:aB]
meta def bK{a:Type}(au:-(Key×a))(k:Key):Option a:=(au.find? λb=>μ (b.1=k)).map (·.2)
meta def putD{b:Type}(au:-(Key×b))(k:Key)(d:b):-(Key×b) :=
 if(au.any λa=>μ (a.1=k))=θ then au.map (λa=>if a.1=k then(a.1,d) else a) else au++[(k,d)]
section
omit [aB]
variable{α:Type}{R:α->V->Prop}
theorem e7.val k:∀{a ws},e7 R a ws->(bK a k=η/\dM ws k=η)\/∃d v,bK a k=ζ d/\dM ws k=ζ v/\R d v
 |[],_,h=>by subst h;exact .inl ⟨Y,Y⟩
 |b::r,_,⟨v,t,e,f,g⟩=>by
  subst e
  by_cases c:b.1=k
  .refine .inr ⟨b.2,v,?_,rK c,f⟩
   unfold bK;rw[List.find?_cons_of_pos c⁻¹];rfl
  .rw[rL c]
   let e:bK (b::r) k=bK r k:=by unfold bK;rw[List.find?_cons_of_neg c⁻¹]
   rw[e];calc e7.val k g
theorem e7.length{κ}:∀{a:-(κ×α)}{ws},e7 R a ws->↑ws=↑a
 |[],_,h=>by subst h;rfl
 |c::r,_,⟨v,t,e,d,b⟩=>by subst e;rw[rC,rC,↑b]
theorem e7.any(k:Key):∀{a ws},e7 R a ws->(ws.any λb=>μ (b.1=k))=a.any λb=>μ (b.1=k)
 |[],_,h=>by subst h;rfl
 |d::r,_,⟨v,t,e,f,c⟩=>by subst e;rw[Zg,Zg,c.any k]
theorem e7.g4(k:Key){d v}(hd:R d v):∀{b ws},e7 R b ws->e7 R (b.map λa=>if a.1=k then(a.1,d) else a) (ws.map λa=>if a.1=k then(a.1,v) else a)
 |[],_,h=>by subst h;rfl
 |g::r,_,⟨u,t,e,i,f⟩=>by
  subst e
  by_cases c:g.1=k
  .rw[Xm,Xm,W_ c,W_ c]
   exact(zI2 v _ ⟨Y,hd,f.g4 k hd⟩)
  .rw[Xm,Xm,Vq c,Vq c]
   calc(zI2 u _ ⟨Y,i,f.g4 k hd⟩)
theorem e7.snoc{k:Key}{d v}(hd:R d v):∀{a ws},e7 R a ws->e7 R (a++[(k,d)]) (ws++[(k,v)])
 |[],_,h=>by subst h;exact(zI2 v [] ⟨Y,hd,Y⟩)
 |f::r,_,⟨u,t,e,b,c⟩=>by subst e;calc(zI2 u _ ⟨Y,b,c.snoc hd⟩)
theorem e7.put{a ws k d v}(h:e7 R a ws)(hd:R d v):e7 R (putD a k d) (putK ws k v):=by
 unfold putD putK;rw[h.any k];split
 .exact h.g4 k hd
 .calc h.snoc hd
end
def eu(x:DV)(c:aH)(K:Nat->(-(Key×D)->OV)->-(Key×D)->Prop):Prop:=match x with
 |.o k=>match c.mu[k]? with
  |some (some (.dct b))=>K k OV.dct b
  |some (some (.ac a b))=>K k (OV.ac a) b
  |_=>False
 |_=>False
theorem og{F H g j q x v}{K:Nat->(-(Key×D)->OV)->-(Key×D)->Prop}(S:SR F g j q H)(p:dB F g x v)(h:eu x j K):∃k B au a ws,x=.o k/\K k B au/\v=.ref a/\g[k]?=ζ a/\H a=ζ (.dK ws)/\rO F au ws/\j.mu[k]?=ζ (ζ (B au))/\∀{F' es us},rO F' es us->eT F' a (B es) (.dK us):=by
 unfold eu at h;split at h
 .rename_i k
  split at h
  .rename_i c e
   let⟨a,d,rfl⟩:11:=p;let⟨a',o,f,m,l,rfl,n⟩:2211:=S.mu k _ e;rw[d] at f;cases f;exact(zI5 k _ c a l ⟨Y,h,Y,d,m,n,e,λi=>⟨_,Y,i⟩⟩)
  .rename_i b c e
   let⟨a,d,rfl⟩:=p;let⟨a',o,f,m,z,l,rfl,n⟩:2311:=S.mu k _ e;rw[d] at f;cases f;exact(zI5 k _ c a l ⟨Y,h,Y,d,m,n,e,λi=>⟨z,_,Y,i⟩⟩)
  .exact h.elim
 .calc h.elim
def eO(x:DV)(P:Int->Prop):Prop:=match x with
 |.p (.int i)=>P i
 |_=>False
theorem qm{F a x v P}(b:dB F a x v)(h:eO x P):∃i,v=kV (.inl i)/\P i:=by
 unfold eO at h;split at h
 .rename_i i;exact⟨i,b,h⟩
 .calc h.elim
def jL(b:Bool)(e f:WE):WE:=λg K=>e g λx c=>f c λy a=>eO x λi=>eu y a λ_ _ d=>K (.p (.bl (b != (bK d (.inl i)).isSome))) a
def mP(e f:WE):WE:=λg K=>e g λx b=>f b λy a=>eO y λi=>eu x a λ_ _ c=>match bK c (.inl i) with
 |some d=>K (.p d) a
 |none=>False
def xB(f g h:WE):WE:=λj K=>f j λx b=>eu x b λ_ _ _=>g b λy c=>h c λz a=>eO y λi=>eu x a λ_ _ e=>match bK e (.inl i) with
 |some d=>K (.p d) a
 |none=>K z a
def sR(g h j:WE):WS:=λK l=>g l λz c=>h c λx e=>j e λy f=>jE z f λd a=>eO y λi=>eu x a λk B b=>↑b<1000/\K.nx ⟨a.sl,a.mu.set k (ζ (B (putD b (.inl i) d)))⟩
def xC(g h:WE):WE:=λb K=>g ⟨b.sl,b.mu++[ζ (.dct [])]⟩ λx c=>h c λy e=>jE y e λd a=>eO x λi=>eu (.o ↑b.mu) a λ_ B f=>f=[]/\K (.o ↑b.mu) ⟨a.sl,a.mu.set ↑b.mu (ζ (B [(.inl i,d)]))⟩
section
variable{X:Cx}{o i e v:υ}{fo fi fv fk fe:WE}{pos:Ε}
theorem PB{c}(l:TE)(hn:∀b H Q,(tD fi b H λy m=>tD fo b m λx H2=>∃a o,x=.ref a/\eh H2 a y o/\Q (.bl (c != o.isSome)) H2)->l b H Q):∀b H Q,tD (jL c fi fo) b H Q->l b H Q:=λb H Q ⟨F,r,s,K,S,q,k⟩=>hn b H Q ⟨F,r,s,_,S,q,λx e t v w f m z A C=>⟨w,f,e,_,A,t,λy D E u U G T n p I=>by
  let⟨i,rfl,J⟩:=qm (C.ext n) E;let⟨V,B,g,a,L,rfl,M,rfl,W,N,O,X,P⟩:57:=og p I J;refine(zI2 a _ ⟨Y,eh.k N,?_⟩)
  let R:(dM L (q1p i)).isSome=(bK g (.inl i)).isSome:=by
   rcases O.val (.inl i) with⟨h,j⟩|⟨d,v,h,j,_⟩
   .rw[h,j];rfl
   .rw[h,j];rfl
  rw[R]
  calc k _ _ M _ _ _ _ (z.trans n) p Y⟩⟩
theorem PC{t f}(h:∀a H Q,tD f a H Q->t a H Q):∀a H Q,cq (dT f) a H Q->tB t a H Q:=λa H Q ⟨F,c,d,K,S,q,k⟩↦h a H _ ⟨F,c,d,_,S,q,λx e g v o i p j l m=>by
  let⟨b,rfl,n⟩:=pD m g
  calc⟨b,Y,k _ _ n _ _ _ j l⟩⟩
theorem PD(d:X.A.units+64<cLine)(a:JE X i (tD fi))(b:JE X o (tD fo))(c:‹behindInMarks .NotIn o=ι›):JT X (.Compare i [.NotIn] [o] pos) (cq (dT (jL θ fi fo))) :=
 (Ao (LW ⋯ a b) c).weak (PC (PB (BL (tD fi) (tD fo)) λe H Q h=>by erw[Bool.true_bne] at h;calc h))
theorem PE(R:X.A.units+64<cLine)(l:JE X o (tD fo))(m:JE X i (tD fi))(n:mr i:=by ext _ _;rfl):JE X (.Subscript o i pos) (tD (mP fo fi)) :=
 (LV ⋯ l m n).weak λT H Q ⟨F,p,r,K,S,q,k⟩↦⟨F,p,r,_,S,q,λx c s v t e U w z C=>⟨t,e,c,_,z,s,λy D E u V G W g h I=>by
  let⟨i,rfl,J⟩:=qm I E;let⟨Y,B,L,a,Z,rfl,b,rfl,e1,M,N,m1,O⟩:57:=og h (C.ext g) J;rcases N.val (.inl i) with⟨f,j⟩|⟨d,v,f,j,P⟩
  .rw[f] at b;exact b.elim
  .rw[f] at b
   calc⟨a,v,rfl,by rw[<-j];calc eh.k M,k _ _ b _ _ _ _ (w.trans g) h P⟩⟩⟩
theorem PF{c}(hu:X.A.units+64<cLine)(I:JE X o (tD fo))(J:JE X i (tD fi))(he:JE X e (tD fe))(m:M2 X o "get" c i e pos:=by calc⟨rfl,rfl,rfl,rfl⟩):JE X (.Call (.Attribute o "get" c) [i,e] [] pos) (tD (xB fo fi fe)) :=
 (L9 ⋯ I J he m).weak fun σ H Q ⟨F,L,M,K,S,q,k⟩=>⟨F,L,M,_,S,q,λx g N v O h H1 C D E=>by
  let⟨k0,B,P,a,R,rfl,T,rfl,e1,U,i1,m1,V⟩:57:=og D E N;calc⟨a,rfl,.inl ⟨R,.inl U⟩,O,h,g,_,D,T,λy j W u Y l H2 n Z V2=>⟨Y,l,j,_,Z,W,λz δ3 h4 w F3 Cf H3 p r V3=>?_⟩⟩;let⟨i,rfl,h5⟩:=qm V2 h4;let⟨k1,B',G,b,VO,ek,f,eb,f1,f2,j1,n1,VP⟩:57:=og r ((E.ext n).ext p) h5;cases eb
  calc⟨_,eh.k f2,?_⟩;rcases j1.val (.inl i) with⟨s,t⟩|⟨d,v,s,t,z3⟩
  .rw[s] at f
   rw[t];exact k _ _ f _ _ _ _ ((C.trans n).trans p) r V3
  .rw[s] at f
   rw[t]
   calc k _ _ f _ _ _ _ ((C.trans n).trans p) r z3⟩
theorem PG[bV]{b}(hu:X.A.units+64<cLine)(C:JE X o (tD fo))(E:JE X i (tD fi))(G:JE X v (tD fv))(I:‹swapsWith v (ζ (.Subscript o i b)) pos.line X.env=pure ι›):JS X (.Assign [.Subscript o i b] v pos) (cB (sR fv fo fi)) :=
 (LX ⋯ C E G I).weak λD σ H ⟨F,J,L,K,S,q,k⟩↦⟨F,J,L,_,S,q,λz c M w N e H1 O P Q=>⟨N,e,c,_,P,M,λx f R u T g H2 m U V=>⟨T,g,f,_,U,R,λy W Y t F3 Z H3 h S3 V3=>by
  let⟨d,δ4,F4,h4,n,j,i4⟩:33:=mB S3 ((Q.ext m).ext h) Y;let⟨i,rfl,h5⟩:=qm V3 h4;let⟨k0,B,au,a,ws,rfl,h6,rfl,p,e2,r,s,l⟩:57:=og j ((V.ext h).ext n) h5;let oi:=l  (us:=putK ws (.inl i) w) (r.put i4)
  calc(zI2 a _ ⟨rfl,jB.k e2 (lz (by rw[↑r];symm)),k.nx _ h6.2 _ _ _ _ ((((O.trans m).trans h).trans n).trans (Ext.put j s p)) (j.put s p oi)⟩)⟩⟩⟩
theorem PH(z:JE X i (tD fk))(A:JE X v (tD fv)):JE X (.Dict [ζ i] [v] pos) (tD (xC fk fv)) :=
 (L4 (L0 z A LZ) rfl rfl (by simp) (by simp)).weak fun σ H Q ⟨F,m,n,K,S,q,k⟩ p l=>by
  let C:∀{c},eT F c (.dct []) (.dK []):=λ{c}=>⟨[],rfl,rfl⟩;let r:(m++[p])[↑n.mu]?=ζ p:=by rw[<-S.b7,Xi (vr _),YE];rfl
  calc⟨F,m++[p],_,_,S.own l C,q,λx e D u E f H1 G I J=>⟨E,f,e,_,I,D,λy L M w F2 g H2 N O P=>?_⟩⟩;let⟨d,R,T,U,V,h,W⟩:33:=mB O P M;let⟨i,rfl,Y⟩:=qm J U;let b:=(G.trans N).trans V;let Z:dB T g (.o ↑n.mu) (.ref p):=⟨p,b.pre _ _ r,rfl⟩;let⟨k0,B,au,a,ws,ek,⟨h5,h6⟩,ea,s,e2,i1,t,j⟩:57:=og h Z Y;cases ek
  cases ea
  subst h5 i1;let oj:=j  (es:=[(.inl i,d)])  (zI2 w [] ⟨rfl,W,rfl⟩);calc⟨e2,[(.inl i,w)],rfl,by simp,k _ _ h6 _ _ _ _ (((Ext.own S l).trans b).trans (Ext.put h t s)) (h.put t s oj) ⟨p,b.pre _ _ r,rfl⟩⟩
end
def kX(a:aH)(t:WT)(b:WS)(K:KS):Nat->aH->Prop
 |0,_=>False
 |n+1,e=>t e λf d=>if f=θ then b {nx:=λc=>kX a t b K n (a.trim c),ct:=λc=>kX a t b K n (a.trim c),bk:=K.nx,rt:=K.rt} d else K.nx d
def DK(t:WT)(b:WS):WS:=λK a=>∃n,kX a t b K n a
theorem PJ[bV]{X c i t b pos}(L:PassesOwn (ς X.prog X.w) X.A X.env X.xe)(M:JT X c (cq t))(N:b3 X i (cB b)):JS X (.While c i [] pos) (cB (DK t b)) :=
 (Jg L M N).weak λD Y H ⟨F,x,o,K,S,⟨n,q⟩,k⟩=>by
 calc⟨λm p y=>∃v f e,Ext F x o.mu H v f e.mu y/\SR v f e p y/\kX o t b K m e,(zI4 n F x o ⟨.refl,S,q⟩),?_⟩;ext m p y r;let⟨v,f,e,O,P,h⟩:32:=r
 cases m with
 |zero=>exact h.elim
 |succ m =>
  calc⟨v,f,e,_,P,h,λQ z I R B Z T J=>?_⟩;let l:=O.trans T
  cases Q with
  |false =>
   exact k.nx _ I _ _ _ _ l J
  |true =>
   calc⟨λg s=>∃j d a,Ext F x o.mu H j d a.mu s/\SR j d a g s/\kX o t b K m a,λg s u=>by let⟨j,d,a,U,V,W⟩:32:=u;calc⟨m,⋯,j,d,a,U,V,W⟩,⟨R,B,z,_,J,I,⟨λa C j d g s E G=>⟨j,_,_,(l.trans E).trim S.b7,G.trim,C⟩,k.nx.ext l,λa C j d g s E G=>⟨j,_,_,(l.trans E).trim S.b7,G.trim,C⟩,(k.ext l).rt,(k.ext l).kp⟩⟩⟩
end L2
namespace LJ
open PySem L2
variable[zt:aB]
theorem xD{au:-(Key×D)}{k l d}(h:bK au k=η):bK (putD au k d) l=if l=k then ζ d else bK au l:=by
 let b:(au.any λa=>μ (a.1=k))=ι:=by
  cases q:au.any λa=>μ (a.1=k) with
  |false=>rfl
  |true =>
   let⟨a,f,g⟩:=Zh.mp q;unfold bK at h;rw[Option.map_eq_none_iff] at h;exact absurd g (q2S.mp h a f)
 unfold putD;rw[b,Vq Xh];unfold bK;rw[List.find?_append]
 cases q:au.find? λa=>μ (a.1=l) with
 |some a =>
  let e:=q11 q;let e:=by simpa using e
  rw[Vq]
  .rfl
  .ext z
   subst z;let:=Y8.mp b a (List.mem_of_find?_eq_some q);exact this e⁻¹
 |none =>
  by_cases c:l=k
  .subst c
   simp
  .rw[Vq c]
   simp[show ¬ k=l fromλz=>c z.symm]
end LJ
namespace L2
open PySem PySem.Spec PyProof.Rows PySem.W
section
open PySem.SeqAt
open PySem.AutoSeq1 (wpAny_loadPart')
open PySem.MeetsSeq PySem.MeetsSeq2 PySem.MeetsSeq3
end
section
variable{prog:ψ}{w:ω}{A:Β}{E:aJ}{s:ο}{Q:Bool->ο->Prop}
end
section
variable[zt:aB]{X:Cx}
end
end L2
namespace LJ
open PySem L2
meta def xE(g:-(Int×-Int))(x h:Int):-(Int×-Int):=if x∈g.map (·.1) then g.map (λe=>if e.1=x then(e.1,e.2++[h]) else e) else g++[(x,[h])]
meta def i7(fs:-Int):Nat->-(Int×-Int)
 |0=>[]
 |i+1=>xE (i7 fs i) (fs.getD i 0) i
variable[zt:aB]
end LJ
namespace L2
open PySem
variable[zt:aB]
section
variable{F F' H H':Hp}{ad bL:-Z}{δ δ':aH}{σ σ':St}
end
section
variable{X:Cx}{VQ VR VS VT:χ}{i n:Nat}{G:GD}{fa:WA}{t:WT}{B:TS}{E:XK}
end
end L2
namespace LJ
open PySem L2
variable[zt:aB]
meta def xF(p q:Int)(fs:-Int):-Int:=fs.map λx=>if x=p then q else x
theorem PK{p q x y:Int}:(if x=p then q else x)=(if y=p then q else y)↔x=y\/((x=p\/x=q)/\(y=p\/y=q)):=by
 symm
theorem DL{f:Int->Int}{fs:-Int}{i}(h:i<fs.length):(fs.map f).getD i 0=f (fs.getD i 0):=by
 rw[o8,KI,mf h,o8,mf h];rfl
theorem hU{a b}:aD (.int a) (.int b)=μ (a=b):=by
 cases q:aD (.int a) (.int b)
 .exact (Bh λz=>by rw[z,iV] at q;cases q).symm
 .calc (Bj (Xg q)).symm
end LJ
namespace LJ
open PySem L2
abbrev Wy:=Int×Int×Int
def sS(S:Wy->Prop)(a b:Int):Prop:=∃w,S w/\((w.1=a/\w.2.1=b)\/(w.1=b/\w.2.1=a))
inductive aq (S:Wy->Prop) (a:Int):Int->Prop
 |rf:aq S a a
 |st {b c:Int}:aq S a b->sS S b c->aq S a c
section
variable{S S':Wy->Prop}{a b c:Int}
theorem sS.symm(h:sS S a b):sS S b a:=let⟨w,c,d⟩:=h;⟨w,c,d.symm⟩
theorem aq.trans(h:aq S a b)(h':aq S b c):aq S a c:=by
 induction h' with
 |rf=>exact h
 |st _ e d=>calc .st d e
theorem aq.symm(h:aq S a b):aq S b a:=by
 induction h with
 |rf=>exact .rf
 |st _ e c=>calc(aq.st .rf e.symm).trans c
theorem aq.bind(h:aq S a b)(k:∀w,S w->aq S' w.1 w.2.1):aq S' a b:=by
 induction h with
 |rf=>exact .rf
 |st _ e c =>
  let⟨w,d,f⟩:=e;rcases f with⟨rfl,rfl⟩|⟨rfl,rfl⟩
  .exact c.trans (k w d)
  .calc c.trans (k w d).symm
theorem aq.one{w}(h:S w):aq S w.1 w.2.1:=.st .rf ⟨w,h,.inl ⟨Y,Y⟩⟩
theorem aq.mono(h:aq S a b)(k:∀w,S w->S' w):aq S' a b:=h.bind λw c=>.one (k w c)
theorem aq.none(h:aq S a b)(k:∀w,¬ S w):a=b:=by
 cases h with
 |rf=>rfl
 |st _ e=>let⟨w,c,_⟩:=e;calc absurd c (k w)
theorem aq.add{w}(k:∀v,S' v↔S v\/v=w):aq S' a b↔aq S a b\/(aq S a w.1/\aq S w.2.1 b)\/(aq S a w.2.1/\aq S w.1 b):=by
 constructor
 .ext h
  induction h with
  |rf=>exact .inl .rf
  |st _ e f =>
   rename_i b c _;let⟨v,g,n⟩:=e;rcases(k v).mp g with g|rfl
   .let l:aq S b c:=.st .rf ⟨v,g,n⟩
    rcases f with i|⟨i,j⟩|⟨i,j⟩
    .exact .inl (i.trans l)
    .exact .inr (.inl ⟨i,j.trans l⟩)
    .exact .inr (.inr ⟨i,j.trans l⟩)
   .rcases n with⟨rfl,rfl⟩|⟨rfl,rfl⟩
    .rcases f with i|⟨i,j⟩|⟨i,j⟩
     .exact .inr (.inl ⟨i,.rf⟩)
     .exact .inr (.inl ⟨i,.rf⟩)
     .exact .inl i
    .rcases f with i|⟨i,j⟩|⟨i,j⟩
     .exact .inr (.inr ⟨i,.rf⟩)
     .exact .inl i
     .exact .inr (.inr ⟨i,.rf⟩)
 .let d:∀{x y},aq S x y->aq S' x y:=λh=>h.mono λv p=>(k v).mpr (.inl p)
  let o:aq S' w.1 w.2.1:=.one ((k w).mpr (.inr Y));ext(h|⟨h,m⟩|⟨h,m⟩)
  .exact d h
  .exact ((d h).trans o).trans (d m)
  .calc ((d h).trans o.symm).trans (d m)
end
variable[zt:aB]
def bF(n:Nat)(fs:-Int)(S:Wy->Prop):Prop:=fs.length=n/\∀i j:Nat,i<n->j<n->(fs.getD i 0=fs.getD j 0↔aq S i j)
theorem DM{n i}(h:i<n):(aZ n).getD i 0=i:=by
 unfold aZ;rw[o8,KI,YG h];rfl
theorem bF.start n:bF n (aZ n) (λ_=>False):=by
 calc⟨by unfold aZ;simp,λi j a b=>?_⟩;rw[DM a,DM b];calc⟨λe=>by rw[e];calc .rf,λh=>h.none λ_ z=>z⟩
theorem bF.join{n i j:Nat}{fs:-Int}{S S':Wy->Prop}{w:Wy}{p q:Int}(h:bF n fs S)(e:i<n)(hj:j<n)(f:w.1=i)(g:w.2.1=j)(k:∀v,S' v↔S v\/v=w)(l:(p=fs.getD i 0/\q=fs.getD j 0)\/(p=fs.getD j 0/\q=fs.getD i 0)):bF n (xF p q fs) S':=by
 calc⟨by unfold xF;rw[kF,h.1],λx y c d=>?_⟩;unfold xF;rw[DL (by rw[h.1];calc c),DL (by rw[h.1];calc d),PK,aq.add k,f,g,<-h.2 x y c d,<-h.2 x i c e,<-h.2 x j c hj,<-h.2 j y hj d,<-h.2 i y e d];rcases l with⟨rfl,rfl⟩|⟨rfl,rfl⟩
 .constructor
  .ext (h|⟨a|a,b|b⟩)
   .exact .inl h
   .exact .inl (a.trans b.symm)
   .exact .inr (.inl ⟨a,b.symm⟩)
   .exact .inr (.inr ⟨a,b.symm⟩)
   .exact .inl (a.trans b.symm)
  .ext (h|⟨a,b⟩|⟨a,b⟩)
   .exact .inl h
   .exact .inr ⟨.inl a,.inr b.symm⟩
   .exact .inr ⟨.inr a,.inl b.symm⟩
 .constructor
  .ext (h|⟨a|a,b|b⟩)
   .exact .inl h
   .exact .inl (a.trans b.symm)
   .exact .inr (.inr ⟨a,b.symm⟩)
   .exact .inr (.inl ⟨a,b.symm⟩)
   .exact .inl (a.trans b.symm)
  .ext (h|⟨a,b⟩|⟨a,b⟩)
   .exact .inl h
   .exact .inr ⟨.inr a,.inl b.symm⟩
   .calc .inr ⟨.inl a,.inr b.symm⟩
meta def ae(ws:-Wy)(n:Int):Wy:=ws.getD n.toNat (0,0,0)
meta def jk(w:Wy):LK:=[w.2.2,w.1,w.2.1]
def kY(v w:Wy):Prop:=HT.lexLt (jk v) (jk w)=θ
def iB(ws:-Wy)(w:Wy):Prop:=w∈ws/\¬ aq (λv=>v∈ws/\kY v w) w.1 w.2.1
theorem sT(ws:-Wy) n:bJ ws n=jk (ae ws n):=rfl
theorem gi{ws:-Wy}{n:Int}(a:0<=n)(b:n<(↑ws:Int)):ae ws n∈ws:=by
 calc Xw (getD_some ⋯)
theorem PL{ws:-Wy}{w:Wy}(h:w∈ws):∃n:Int,(0<=n/\n<(↑ws:Int))/\ae ws n=w:=by
 let⟨i,a⟩:=Vt.mp h;let b:=(mj.mp a).1;calc⟨i,⟨⋯,⋯⟩,?_⟩;unfold ae;rw[Xn,o8,a];rfl
theorem PM{a b:LK}(h:kle a b)(n:a≠b):HT.lexLt a b=θ:=by
 cases q:HT.lexLt a b with
 |true=>rfl
 |false=>calc absurd (pX q h) n
theorem PN{m}{ws:-Wy}(W:ak m ws):ws.Nodup:=by
 let:=W.unlike;unfold List.Nodup at this ⊢;rw[X9] at this;calc this.imp λ{a b} h e=>h (by rw[e])
meta def kZ(ws:-Wy)(w:Wy):Nat:=ws.countP λv=>HT.lexLt (jk v) (jk w)
theorem DN{e:Type}{p q x}:∀{l:-e},(∀y∈l,p y=θ->q y=θ)->x∈l->q x=θ->p x=ι->l.countP p<l.countP q
 |y::l,h,a,c,d=>by
  let g:=List.countP_mono_left λz b=>h z (Bi _ b);rw[Yz,Yz];rcases KN.mp a with rfl|a
  .rw[c,d];simp;symm
  .let:=DN (λz b=>h z (Bi _ b)) a c d
   cases f:p y with
   |false=>simp;split<;>symm
   |true=>rw[(h y Vr) f];symm
theorem xG{ws u v}(a:u∈ws)(h:kY u v):kZ ws u<kZ ws v :=
 DN (λy _ b=>sf b h) a h (pW _)
theorem gj n:↑(aZ n)=n:=by unfold aZ;simp
structure Good(fs:-Int):Prop where
 le:∀h:Nat,h<fs.length->0<=fs.getD h 0/\fs.getD h 0<=h
 own:∀h:Nat,h<fs.length->fs.getD (fs.getD h 0).toNat 0=fs.getD h 0
theorem getD_at{fs:-Int}{h} a:fs.getD h 0=fs[h]:=by rw[o8,mf a];rfl
theorem PQ{fs i j h}(a:h<fs.length):(fP fs i j).getD h 0=if fs.getD h 0=max (fs.getD i 0) (fs.getD j 0) then min (fs.getD i 0) (fs.getD j 0) else fs.getD h 0:=by
 rw[getD_at (by rw[qd];calc a),getD_at a];unfold fP;rw[Z5]
theorem PR n:Good (aZ n):=by
 let e:∀h ,h<↑(aZ n)->(aZ n).getD h 0=h:=λh a=>by
  rw[gj] at a;rw[aZ,o8,KI,YG a];rfl
 calc⟨λh a=>by rw[e h a];symm,λh a=>?_⟩;rw[e h a,Xn,e h a]
theorem Good.join{fs}(G:Good fs){i j}(f:i<fs.length)(hj:j<fs.length):Good (fP fs i j):=by
 let o:=G.le i f;let p:=G.le j hj;let q:=G.own i f;let r:=G.own j hj;generalize l:max (fs.getD i 0) (fs.getD j 0)=g;generalize m:min (fs.getD i 0) (fs.getD j 0)=k
 let n:0<=k/\k<=g/\k.toNat<fs.length/\fs.getD k.toNat 0=k:=by
  rw[<-l,<-m];rcases Int.le_total (fs.getD i 0) (fs.getD j 0) with c|c
  .rw[q35 c,q3N c];symm
  .rw[q3O c,q36 c];symm
 let e:∀h,h<fs.length->(fP fs i j).getD h 0=if fs.getD h 0=g then k else fs.getD h 0:=λh a=>by rw[PQ a,l,m]
 refine⟨λh a=>?_,λh a=>?_⟩
 .rw[qd] at a
  let:=G.le h a;rw[e h a];split<;>symm
 .rw[qd] at a
  let b:=G.le h a;rw[e h a]
  by_cases d:fs.getD h 0=g
  .rw[W_ d,e _ n.2.2.1,n.2.2.2]
   split<;>rfl
  .rw[Vq d,e _ ⋯,(G.own h a),Vq d]
theorem DO{m}{ws:-Wy}(W:ak m ws){n}(e:0<=n)(a:n<(↑ws:Int)):∃i k:Nat,de ws n=(i,k)/\(ae ws n).1=i/\(ae ws n).2.1=k/\i<m.toNat/\k<m.toNat:=by
 let⟨y,b,g,_,i,k,c,d,a,f,_⟩:1324:=lK W e a;calc(zI2 i k ⟨?_,by unfold ae;rw[b];calc c,by unfold ae;rw[b];calc d,a,f⟩);unfold de;rw[b,c,d,Xn,Xn]
theorem DP{m}{ws:-Wy}(W:ak m ws):∀ns fs,Nums ws ns->fs.length=m.toNat->Good fs->Good (fj ws fs ns)
 |[],_,_,_,G=>G
 |n::c,d,a,f,G=>by
  let b:=a n (Vr ..);let⟨i,k,e,_,_,h,j⟩:24:=DO W b.1 b.2;calc DP W c _ (λx g=>a x (Bi _ g)) (by rw[qd];calc f) ?_;show Good (fP d (de ws n).1 (de ws n).2);rw[e];calc G.join ⋯ ⋯
theorem DQ{m}{ws:-Wy}(W:ak m ws):∀ns fs S,Nums ws ns->bF m.toNat fs S->bF m.toNat (fj ws fs ns) (λv=>S v\/∃k∈ns,v=ae ws k)
 |[],f,S,_,h=>by
  let:(λv=>S v\/∃k∈[],v=ae ws k)=S:=funext λv=>propext (by simp);rw[this];exact h
 |n::d,f,S,g,h=>by
  let b:=g n (Vr ..);let⟨i,k,e,j,l,o,p⟩:24:=DO W b.1 b.2
  let a:bF m.toNat (fP f i k) (λv=>S v\/v=ae ws n):=by
   calc bF.join    h o p j l (λv=>Iff.rfl) ?_;symm
  let:=DQ W d _ _ (λx q=>g x (Bi _ q)) a
  let r:(λv=>(S v\/v=ae ws n)\/∃k∈d,v=ae ws k)=(λv=>S v\/∃k∈n::d,v=ae ws k):=funext λv=>propext (by
   constructor
   .ext ((h|h)|⟨k,c,h⟩)
    .exact .inl h
    .exact .inr ⟨n,Vr,h⟩
    .exact .inr ⟨k,Bi _ c,h⟩
   .ext (h|⟨k,c,h⟩)
    .exact .inl (.inl h)
    .rcases KN.mp c with rfl|c
     .exact .inl (.inr h)
     .calc .inr ⟨k,c,h⟩)
  rw[r] at this;show bF _ (fj ws (fP f (de ws n).1 (de ws n).2) d) _;rw[e];calc this
def bA(ws:-Wy)(ns:-Int):Wy->Prop:=λv=>∃k∈ns,v=ae ws k
theorem qo{m}{ws:-Wy}(W:ak m ws){ns}(hn:Nums ws ns):bF m.toNat (eV m ws ns) (bA ws ns):=by
 let:=DQ W ns _ _ hn (bF.start m.toNat);let a:(λv=>False\/∃k∈ns,v=ae ws k)=bA ws ns:=funext λv=>propext (by unfold bA;simp);rw[a] at this;calc this
theorem DR{m}{ws:-Wy}(W:ak m ws){ns}(hn:Nums ws ns):Good (eV m ws ns):=DP W ns _ hn (gj _) (PR _)
meta def cm(fs:-Int)(i:Nat)(x:Int):-Int:=((Xz i).filter λh=>μ (fs.getD h 0=x)).map λh:Nat=>(h:Int)
meta def roots(fs:-Int)(i:Nat):-Nat:=(Xz i).filter λh=>μ (fs.getD h 0=(h:Int))
theorem xH{fs:-Int}(G:Good fs):∀i,i<=fs.length->i7 fs i=(roots fs i).map λr:Nat=>((r:Int),cm fs i (r:Int))
 |0,_=>Y
 |i+1,p=>by
  let m:=G.le i ⋯;let f:=G.own i ⋯;show xE (i7 fs i) (fs.getD i 0) i=_;rw[(xH G i ⋯)];let g:((roots fs i).map λr:Nat=>((r:Int),cm fs i r)).map (·.1)=(roots fs i).map λr:Nat=>(r:Int):=by rw[Xd];rfl
  let a:∀x,cm fs (i+1) x=if fs.getD i 0=x then cm fs i x++[(i:Int)] else cm fs i x:=λx=>by
   unfold cm;rw[q0d,ZP]
   by_cases c:fs.getD i 0=x
   .rw[W_ c,Xj,q1M c⁻¹];rfl
   .rw[Vq c,q1N c⁻¹,q38,Yx]
  let b:∀r,r∈roots fs i↔r<i/\fs.getD r 0=r:=λr=>by
   unfold roots;rw[Xf,Xr,Xt]
  unfold xE;rw[g]
  by_cases c:fs.getD i 0=i
  .let n:fs.getD i 0∉(roots fs i).map λr:Nat=>(r:Int):=λz=>by
    let⟨r,j,e⟩:=Bk.mp z;let:=((b r).mp j).1;symm
   rw[Vq n]
   let k:roots fs (i+1)=roots fs i++[i]:=by
    unfold roots;rw[q0d,ZP,q1M c⁻¹];rfl
   rw[k,Xj];congr 1
   .refine YH λr j=>?_
    let:=((b r).mp j).1;rw[a,Vq ⋯]
   .show [(fs.getD i 0,[(i:Int)])]=[((i:Int),cm fs (i+1) i)]
    rw[a,W_ c,c]
    let:cm fs i i=[]:=by
     unfold cm;rw[q0z.mpr λh o=>?_]
     .rfl
     .let q:=Xr.mp o
      let:=G.le h ⋯;rw[Xt];symm
    rw[this];rfl
  .let⟨x,l⟩:∃x:Nat,fs.getD i 0=x:=⟨(fs.getD i 0).toNat,⋯⟩
   rw[l] at f m c ⊢;rw[W_ (Bk.mpr ⟨x,((b x).mpr ⟨⋯,f⟩),Y⟩)]
   let k:roots fs (i+1)=roots fs i:=by
    unfold roots;rw[q0d,ZP,q1N (by rw[l];simpa using c),q38,Yx]
   rw[k,Xd];calc YH λr j=>?_;show(if(r:Int)=x then((r:Int),cm fs i r++[(i:Int)]) else(r,cm fs i r))=((r:Int),cm fs (i+1) r);rw[a,l]
   by_cases d:(r:Int)=x
   .rw[W_ d,W_ d.symm]
   .rw[Vq d,Vq (YD d)]
theorem sU:∀{a b:-Int},a.Pairwise (· < ·)->b.Pairwise (· < ·)->(∀x,x∈a↔x∈b)->a=b
 |[],[],_,_,_=>Y
 |[],y::_,_,_,h=>absurd ((h y).mpr (Vr ..)) (by simp)
 |x::_,[],_,_,h=>absurd ((h x).mp (Vr ..)) (by simp)
 |x::a,y::b,j,k,h=>by
  let⟨g,l⟩:=Ya.mp j;let⟨i,m⟩:=Ya.mp k
  let d:x=y:=by
   rcases KN.mp ((h x).mp (Vr ..)) with e|e
   .exact e
   .rcases KN.mp ((h y).mpr (Vr ..)) with f|f
    .exact f.symm
    .let:=i x e
     let:=g y f;symm
  subst d;rw[sU l m λz=>?_]
  constructor
  .ext c
   rcases KN.mp ((h z).mp (Bi _ c)) with e|e
   .let:=g z c;symm
   .exact e
  .ext c
   rcases KN.mp ((h z).mpr (Bi _ c)) with e|e
   .let:=i z c;symm
   .calc e
theorem PS{fs}(G:Good fs){S}(f:S.Pairwise (· < ·))(c:∀x,x∈S↔x∈fs):S=(roots fs fs.length).map λr:Nat=>(r:Int):=by
 refine sU f ?_ λx=>?_
 .exact X9.mpr (((Yo).filter _).imp λh=>by symm)
 .rw[c]
  constructor
  .ext h
   let⟨i,d,e⟩:=Zs.mp h;let g:fs.getD i 0=x:=by rw[getD_at d,e]
   let j:=G.le i d;let a:=G.own i d;rw[g] at j a;calc Bk.mpr ⟨x.toNat,?_,⋯⟩;unfold roots;rw[Xf,Xr,Xt,a];symm
  .ext h
   let⟨r,b,rfl⟩:=Bk.mp h;unfold roots at b;rw[Xf,Xr,Xt] at b;rw[<-b.2,getD_at b.1];calc Yk b.1
theorem PT{fs}(G:Good fs){S:-Int}(b:S.Pairwise (· < ·))(a:∀x,x∈S↔x∈fs):(i7 fs fs.length).map (·.2)=S.map λx=>cm fs fs.length x:=by
 rw[xH G fs.length (vr _),PS G b a,Xd,Xd];rfl
open Classical in
meta def cls (n:Nat) (S:Wy->Prop) (h:Int):List Int:=(aZ n).filter λx=>decide (aq S h x)
theorem aF{n x}:x∈aZ n↔0<=x/\x<n:=by
 constructor
 .ext h
  let⟨k,a,rfl⟩:=Bk.mp h;let:=Xr.mp a;symm
 .calc λh=>Bk.mpr ⟨x.toNat,Xr.mpr ⋯,⋯⟩
theorem DT n:(aZ n).Pairwise (· < ·):=by
 exact X9.mpr ((Yo).imp λh=>by symm)
open Classical in
theorem bt {n:Nat} {S:Wy->Prop} {h x:Int}:x∈cls n S h↔(0<=x/\x<n)/\aq S h x:=by
 unfold cls;rw[Xf,aF,Xt]
open Classical in
theorem sV (n:Nat) (S:Wy->Prop) (h:Int):(cls n S h).Pairwise (· < ·):=(DT n).filter _
structure oh(n:Nat)(S:Wy->Prop)(L:-(-Int)):Prop where
 nd:L.Nodup
 mem:∀l,l∈L↔∃h:Int,(0<=h/\h<n)/\l=cls n S h
theorem xI{n S a b}(h:aq S a b):cls n S a=cls n S b :=
 sU (sV _ _ _) (sV _ _ _) λx=>by
  rw[bt,bt];calc⟨λ⟨c,d⟩↦⟨c,h.symm.trans d⟩,λ⟨c,d⟩↦⟨c,h.trans d⟩⟩
theorem xJ{n:Nat}{S}{a:Int}(h:0<=a/\a<n):a∈cls n S a:=bt.mpr ⟨h,.rf⟩
theorem PU{x y xs ys}(h:x<y):kle (x::xs) (y::ys):=by
 unfold kle;rw[HT.jX,Vq ⋯];calc Bh ⋯
theorem DU{n fs S}(M:bF n fs S){r}(b:r<n)(e:fs.getD r 0=r):cm fs n r=cls n S r:=by
 refine sU ?_ (sV _ _ _) λx=>?_
 .exact X9.mpr (((Yo).filter _).imp λh=>by symm)
 .rw[bt]
  constructor
  .ext h
   let⟨k,a,rfl⟩:=Bk.mp h;rw[Xf,Xr,Xt] at a;exact⟨⋯,(M.2 r k b a.1).mp (by rw[e,a.2])⟩
  .ext ⟨⟨d,f⟩,c⟩
   let⟨k,rfl⟩:∃k:Nat,x=k:=⟨x.toNat,⋯⟩;calc Bk.mpr ⟨k,?_,Y⟩;rw[Xf,Xr,Xt];let:=(M.2 r k b ⋯).mpr c;symm
meta def sW(fs:-Int)(n:Nat):-(-Int):=(roots fs n).map λr:Nat=>cm fs n (r:Int)
theorem PV{fs}(G:Good fs):(i7 fs fs.length).map (·.2)=sW fs fs.length:=by
 rw[xH G fs.length (vr _),Xd];rfl
theorem sX{n fs}(G:Good fs)(g:fs.length=n){r}(c:r<n)(e:fs.getD r 0=r):∃t,cm fs n r=(r:Int)::t:=by
 let a:(r:Int)∈cm fs n r:=by
  calc Bk.mpr ⟨r,?_,Y⟩;rw[Xf,Xr,Xt];exact⟨c,e⟩
 let b:(cm fs n r).Pairwise (· < ·):=by
  exact X9.mpr (((Yo).filter _).imp λh=>by symm)
 cases q:cm fs n r with
 |nil=>rw[q] at a;simp at a
 |cons x t =>
  calc⟨t,?_⟩;let d:x∈cm fs n r:=by rw[q];exact Vr
  let⟨k,f,rfl⟩:=Bk.mp d;rw[Xf,Xr,Xt] at f;let l:=G.le k ⋯;rw[q] at a b;rcases KN.mp a with z|z
  .rw[z]
  .let:=(Ya.mp b).1 _ z
   symm
theorem PW{fs}(G:Good fs):(sW fs fs.length).Pairwise kle:=by
 refine X9.mpr ?_
 let:(roots fs fs.length).Pairwise λa b=>a<b/\(a<fs.length/\fs.getD a 0=a)/\b<fs.length/\fs.getD b 0=b:=by
  let f:(roots fs fs.length).Pairwise (· < ·):=(Yo).filter _
  let d:∀a∈roots fs fs.length,a<fs.length/\fs.getD a 0=a:=λa c=>by
   unfold roots at c;rw[Xf,Xr,Xt] at c;exact c
  exact f.imp_of_mem λc g h=>⟨h,d _ c,d _ g⟩
 calc this.imp λ{a b} h=>?_;let⟨t,e⟩:=sX G Y h.2.1.1 h.2.1.2;let⟨u,i⟩:=sX G Y h.2.2.1 h.2.2.2;rw[e,i];calc PU ⋯
theorem PX{n fs S}(G:Good fs)(M:bF n fs S):oh n S (sW fs n):=by
 let i:=M.1
 let f:∀a∈roots fs n,a<n/\fs.getD a 0=a:=λa d=>by
  unfold roots at d;rw[Xf,Xr,Xt] at d;exact d
 refine⟨?_,λl=>?_⟩
 .refine X9.mpr ?_
  let g:(roots fs n).Pairwise (· < ·):=(Yo).filter _;calc g.imp_of_mem λ{a b} d j h z=>?_;let⟨t,e⟩:=sX G i (f a d).1 (f a d).2;let⟨u,o⟩:=sX G i (f b j).1 (f b j).2;rw[e,o] at z;let:=(q2R z).1;symm
 .constructor
  .ext h
   let⟨r,p,rfl⟩:=Bk.mp h;let⟨g,q⟩:=f r p;exact⟨r,⋯,DU M g q⟩
  .ext ⟨h,v,rfl⟩
   let⟨k,rfl⟩:∃k:Nat,h=k:=⟨h.toNat,⋯⟩;let s:=G.le k ⋯;let c:=G.own k ⋯;let⟨r,m⟩:∃r:Nat,fs.getD k 0=r:=⟨(fs.getD k 0).toNat,⋯⟩;rw[m] at s c;rw[Xn] at c;refine Bk.mpr ⟨r,?_,?_⟩
   .unfold roots
    rw[Xf,Xr,Xt];symm
   .rw[DU M ⋯ c]
    calc xI ((M.2 r k ⋯ ⋯).mp (by rw[c,m]))
meta def jl(m:Int)(ws:-Wy)(ns:-Int):-(-Int):=(i7 (eV m ws ns) m.toNat).map (·.2)
theorem DW{m}{ws:-Wy}(W:ak m ws){ns}(hn:Nums ws ns):oh m.toNat (bA ws ns) (jl m ws ns)/\(jl m ws ns).Pairwise kle:=by
 let M:=qo W hn;let G:=DR W hn
 let e:jl m ws ns=sW (eV m ws ns) m.toNat:=by
  let:=PV G;rw[M.1] at this;exact this
 rw[e];calc⟨PX G M,?_⟩;let:=PW G;rw[M.1] at this;calc this
theorem PY{n S L}(h:oh n S L){l l' x}(e:l∈L)(c:l'∈L)(f:x∈l)(d:x∈l'):l=l':=by
 let⟨a,_,rfl⟩:=(h.mem l).mp e;let⟨b,_,rfl⟩:=(h.mem l').mp c;calc xI ((bt.mp f).2.trans (bt.mp d).2.symm)
theorem DX{n S}:∀{L c:-(-Int)},oh n S c->(∀l∈L,l∈c)->L.Nodup->L.flatten.Nodup
 |[],_,_,_,_=>Zj
 |l::L,c,h,b,d=>by
  rw[Y9,XT];rw[XU] at d;refine⟨?_,DX h (λx f=>b x (Bi _ f)) d.2,λx f y i e=>?_⟩
  .let⟨a,_,rfl⟩:=(h.mem l).mp (b l Vr)
   exact(sV _ _ _).imp λh=>by symm
  .subst e
   let⟨j,g,k⟩:=Zi.mp i;calc d.1 (by rw[PY h (b l Vr) (b j (Bi _ g)) f k];calc g)
theorem PZ{l:-Int}(h:l.Pairwise (· < ·)):l.Nodup:=h.imp λh=>by symm
theorem P0{xs ys}(b:xs.Nodup)(a:ys.Pairwise (· < ·))(h:∀x,x∈xs↔x∈ys):sortI xs=ys :=
 (pT ((q1g (PZ a) b).mpr λx=>(h x).symm) (a.imp λh=>by symm)).symm
theorem P7{n S L}(h:oh n S L):sortI L.flatten=aZ n:=by
 calc P0 (DX h (λ_ b=>b) h.nd) (DT n) λx=>?_;rw[Zi,aF]
 constructor
 .ext ⟨l,c,b⟩
  let⟨a,_,rfl⟩:=(h.mem l).mp c;exact(bt.mp b).1
 .calc λb=>⟨_,(h.mem _).mpr ⟨x,b,Y⟩,xJ b⟩
theorem sY:∀a b:-Int,bw (a.map D.int) (b.map D.int)=μ (a=b)
 |[],[]=>by simp[bw]
 |[],_::_=>by simp[bw]
 |_::_,[]=>by simp[bw]
 |x::a,y::b=>by
  rw[Xm,Xm];erw[bw];rw[hU,sY a b]
  by_cases e:x=y<;>by_cases c:a=b<;>simp[e,c]
theorem DY a b:aD (aK a) (aK b)=μ (a=b):=by
 calc sY a b
theorem ew:∀us:-Int,bD (us.map D.int)=0
 |[]=>by simp[bD]
 |u::r=>by rw[Xm];erw[bD,dep];rw[ew r];rfl
theorem fQ(l:-Int)(x:Int):((l.map D.int).any λe=>aD e (.int x))=μ (x∈l):=by
 rw[List.any_map]
 cases q:μ (x∈l) with
 |true=>exact Zh.mpr ⟨x,Xq q,iV _⟩
 |false =>
  calc Y8.mpr λy a=>?_;show ¬ aD (.int y) (.int x)=θ;rw[hU];ext z;let:=Xq z;subst this;calc q01 q a
theorem P8{m}{ws:-Wy}(W:ak m ws){ns}(hn:Nums ws ns):↑(jl m ws ns)<=12/\(jl m ws ns).flatten.length<=12:=by
 let c:=W.fA;let⟨h,_⟩:=DW W hn
 let i:=by
  let:=sd (jl m ws ns).flatten;rw[(P7 h),gj] at this;exact this.symm
 let b:∀L:-(-Int),(∀l∈L,l≠[])->↑L<=↑L.flatten:=by
  ext L
  induction L with
  |nil=>ext _;simp
  |cons l r d =>
   ext h;let j:=d λx e=>h x (Bi _ e);let k:=List.length_pos_iff.mpr (h l Vr);rw[Y9,KG,rC];symm
 let:=b (jl m ws ns) λl f=>by
  let⟨a,g,rfl⟩:=(h.mem l).mp f;exact List.ne_nil_of_mem (xJ g)
 symm
end LJ
namespace HT
open PySem PySem.Spec PyProof.Rows
theorem DZ A s a t c u prog w (E:aJ) (Q:aJ) (h:Q (.bool (μ (c<a))) s) :
  ρ (ς prog w) A (richCompare .Gt (.int a t) (.int c u)) Q E s :=
 (PyProof.Rows.gt_int h)
section
open PySem.SeqAt
open PySem.AutoSeq1 (wpAny_loadPart')
open PySem.MeetsSeq PySem.MeetsSeq2 PySem.MeetsSeq3
theorem P9(l b:ξ)(items f:Array ν)(n U:Nat)(V M:Option ξ)(W N:Array (Option ν))(ns ms:-Int)(S:IntsAre items.toList ns)(hj:IntsAre f.toList ms):
  Meets (Builtin.«tuple.__gt__» ⟨[.ref l,.ref b],[]⟩)
   (λ_ R s=>s.heap.get? l=ζ {cls:=.type "tuple",dict:=V,data:=.seq items n,slots:=W}/\s.heap.get? b=ζ {cls:=.type "tuple",dict:=M,data:=.seq f U,slots:=N} ∧
    R (.ok (.ret (.bool (lexLt ms ns)))) s) :=
 .of_wp λp w A R s h=>by
  let⟨H,g,d,I,J⟩:=s;let⟨hl,hb,h⟩:02:=h;let Z:=Z9;let z1:items.size=ns.length:=by rw[<-↑S];simp
  let z2:f.size=↑ms:=by rw[<-↑hj];simp
  wp_walk using X_ hl,X_ hb,q0F _ (λr b O=>b.1=η/\O=⟨H,g,d,I,J⟩/\∃(K L:-ν)(j k:-Int),r=K.zip L ∧
   IntsAre K j/\IntsAre L k/\↑j+f.size=k.length+items.size/\R (.ok (.ret (.bool (lexLt k j)))) ⟨H,g,d,I,J⟩) _
  case turn =>
   ext P r b O D;let⟨y,x⟩:=P;let⟨B,rfl,K,L,j,k,m,C,o,i,v⟩:0244:=D
   cases C with
   |nil=>rw[q1q] at m;cases m
   |cons a t E =>
    cases o with
    |nil=>rw[q2Z] at m;cases m
    |cons c u F =>
     rw[YL] at m;injection m with oY gz;injection oY with hy hx;subst hy hx;rw[jX] at v;erw[rC] at i;let⟨e,X,z⟩:=u9 A.in1 ⟨H,g,d,I,J⟩ a t c u;refine dV (X p w _ _ ?_)
     cases e with
     |true =>
      rw[W_ (z.mp rfl).symm] at v
      wp_walk
      exact⟨rfl,rfl,_,_,_,_,gz,E,F,⋯,v⟩
     |false =>
      rw[Vq (λq=>absurd (z.mpr q.symm) Xh)] at v;let Q:=DZ A.in1 ⟨H,g,d,I,J⟩ a t c u p w
      wp_walk using Q
      exact⟨_,rfl,by simpa using v⟩
  case fin =>
   ext P O G;let⟨b1,b2⟩:=P;let⟨B,rfl,K,L,j,k,m,C,o,i,v⟩:0244:=G;simp only at B;subst B
   let T:lexLt k j=μ (f.size<items.size):=by
    cases C with
    |nil =>
     cases o with
     |nil =>
      erw[XO] at i;rw[AK];exact(Bh ⋯).symm
     |cons c u Y =>
      erw[XO,rC] at i;rw[AM];exact(Bh ⋯).symm
    |cons a t T =>
     cases o with
     |nil =>
      erw[XO,rC] at i;rw[AL];exact(Bj ⋯).symm
     |cons c u Y =>
      rw[YL] at m;cases m
   rw[T] at v
   wp_walk
   exact⟨_,rfl,by simpa[Zz] using v⟩
  case h =>
   calc⟨rfl,rfl,items.toList,f.toList,ns,ms,rfl,S,hj,⋯,h⟩
end
section
variable{prog:ψ}{w:ω}{A:Β}{E:aJ}{s:ο}
theorem D0{l b:Z}{items a:Array ν}{ns ms:-Int}{Q:aJ}(q:IsTup s.heap l items)(r:IsTup s.heap b a)(t:IntsAre items.toList ns)(hj:IntsAre a.toList ms)
  (u:A.units<cLine) (h:Q (.bool (lexLt ms ns)) s):ρ (ς prog w) A (compareOp .Gt (.ref l) (.ref b)) Q E s:=by
 let⟨⟨v,y,j,z⟩,k,m,n,o⟩:121:=id q;let⟨⟨p,f,g,i⟩,c,d,B,e⟩:121:=id r;simp only at m o d e;subst m o d e
 exact q0u (op:=.Gt) ⟨_,k,Y⟩ ⟨_,c,Y⟩ q2d q1Z (q1O _ _) (P9 l b items a n B y f z i ns ms t hj)
  ⟨k,c,show Zv (lexLt ms ns)≠q2n/\Q (.bool (lexLt ms ns)) s from⟨(λx=>nomatch x),h⟩⟩ u
end
end HT
namespace L2
open PySem PySem.Spec PyProof.Rows PySem.W
meta def gv:Bool->String
 |false=>"min"
 |true=>"max"
meta def j5:Bool->String
 |false=>"min.loop"
 |true=>"max.loop"
meta def xK:Bool->CmpOp
 |false=>.Lt
 |true=>.Gt
meta def P_:String->CmpOp->Builtin:=(λ(f:String->CmpOp->Builtin) (_:f "min" .Lt=Builtin.«min.loop»)=>f) _ Y
meta def Qa:String->Builtin:=(λ(f:String->Builtin) (_:f "min" = Builtin.«min»)=>f) _ Y
theorem sZ(mx:Bool):entryFor table (j5 mx)=ζ (P_ (gv mx) (xK mx)):=by cases mx;calc PySem.F.entry_min_loop;calc PySem.F.entry_max_loop
theorem D2(mx:Bool):entryFor table (gv mx)=ζ (Qa (gv mx)):=by cases mx;calc PySem.F.entry_min;calc PySem.F.entry_max
theorem D3 mx:builtinKind (gv mx)=η:=by cases mx;calc PySem.F.kind_min;rfl
theorem D4(mx:Bool):plainId (gv mx)=θ:=by cases mx;calc PySem.F.plain_min;calc PySem.F.plain_max
theorem jm(mx:Bool):plainId (j5 mx)=θ:=by cases mx;calc PySem.F.plain_min_loop;calc PySem.F.plain_max_loop
def i8:Bool->LK->LK->Prop
 |false,a,b=>kle a b
 |true,a,b=>kle b a
meta def qp:Bool->LK->LK->Bool
 |false,a,b=>HT.lexLt a b
 |true,a,b=>HT.lexLt b a
theorem s_(mx:Bool)(a:LK):i8 mx a a:=by cases mx<;>calc kle_refl _
theorem D5{mx:Bool}{a b c:LK}(h:qp mx a b=θ)(k:i8 mx b c):i8 mx a c:=by
 cases mx
 .exact kle_trans (lG h) k
 .calc kle_trans k (lG h)
theorem D6{mx a b}(h:¬ qp mx a b=θ):i8 mx b a:=by cases mx<;>calc q3s.mpr h
theorem Qb{prog:ψ}{w:ω}{A:Β}{E:aJ}{s:ο}{mx:Bool}{l b:Z}{items a:Array ν}{ns ms:-Int}{Q:aJ}(c:IsTup s.heap l items)(d:IsTup s.heap b a)(e:IntsAre items.toList ns)(hj:IntsAre a.toList ms)
  (f:A.units<cLine) (h:Q (.bool (qp mx ns ms)) s):ρ (ς prog w) A (richCompare (xK mx) (.ref l) (.ref b)) Q E s:=by
 cases mx
 .exact HT.u_ c d e hj f h
 .calc HT.D0 c d e hj f h
theorem Qc mx a v d:argsOk (gv mx) ⟨[a],[(YX "key",v),(YX "default",d)]⟩:=by cases mx<;>(kernel_rfl)
section
variable{X:Cx}{pins:ax}{σ:St}{H:Hp}{s:ο}{E:aJ}{l q I S:Z}{P:-V->Hp->Prop}{xs:-V}{d:ν}{R:Result->ο->Prop}
def Qd(mx:Bool)(c:Nat->LK)(xs au:-V)(a:Array ν):Prop :=
 (au=[]/\a = #[])\/∃(b:Nat)(x:V)(d:ν)(t:Z),b<↑au/\xs[b]?=ζ x/\RelV x d/\au[b]?=ζ (.ref t)/\a = #[d,.ref t]/\∀j,j<↑au->i8 mx (c b) (c j)
theorem Qe(mx:Bool)(L:Nat->LK)(hh:X.A.handled=η)(hu:X.A.units+1<cLine)(D7:l≠I)(D:S≠I)(fI:∀H',H' I=η->bx X pins H' I)(fS:∀H',H' S=η->bx X pins H' S)
  (hl:∀au H',P au H'->H' l=ζ (.lst xs)) (hP:∀au H',P au H'->∀i,i<↑au->∃t,au[i]?=ζ (.ref t)/\H' t=ζ (.tup ((L i).map V.int)))
  (xM:∀(E:ax)(x:V)(u:ν)(au:-V)(H':Hp)(s':ο),xs[↑au]?=ζ x->RelV x u->Inv X E σ H' s'->P au H'->ρ (ς X.prog X.w) X.A.in1 (call (.ref q) [u]) (EP X E σ λk rP=>P (au++[k]) rP) (λ_ _=>False) s')
  (fin:∀au H' s',↑au=↑xs->P au H'->Inv X pins σ H' s'->(xs=[]->R (.ok (.ret d)) s')/\∀(b:Nat)(x:V)(u:ν),xs[b]?=ζ x->RelV x u->(∀j,j<↑xs->i8 mx (L b) (L j))->R (.ok (.ret u)) s') :
  ∀(r:Nat)(au:-V)(H':Hp)(s':ο)(h:Array ν)(c:Nat)(G:Γ),↑au+r=↑xs->Inv X ((S,seqObj "list" h c)::(I,G)::pins) σ H' s'->P au H'->G.cls=.type "list_iterator" -> G.data=.fields #[.ref l,.int ↑au 0]->Qd mx L xs au h →
   codeAny (ς X.prog X.w) X.A (.builtin (j5 mx) ⟨[.ref I,.ref q,.ref S],[(YX "default",d)]⟩) R s':=by
 let m:(toString (gv mx)++toString ".loop" : String)=j5 mx:=by cases mx<;>decide
 ext r
 induction r with
 |zero =>
  ext a B s' h c G hr J pk U Y M;let Z:=J.pin (S,seqObj "list" h c) (Vp _ (.head _));let pI:=J.pin (I,G) (Vp _ (.tail _ (.head _)));let Jn:=J.cg.cg;let⟨g,rv,pl,_⟩:12:=Jn.list (bf.of (hl a B pk));let lv:↑g=↑xs:=rv.length.symm;let xN:↑a=↑g:=by symm
  calc Yj (sZ mx) ?_;rw[Zt (jm mx) _];show ρ _ X.A.in1 (seqItems? (.ref S) >>= _) _ _ _;calc dV (ZD Z.1 rfl ?_);show ρ _ X.A.in1 (tryCatch (pyNext (.ref I)) _ >>= _) _ _ _;let W:=ZZ (prog:=X.prog) (w:=X.w) (A:=X.A.in1) hh I l D7 g.toArray;calc dV (ZK (W.done _ _ _ ⟨⟨G,pI.1,U,by rw[Y,KJ,<-xN]⟩,q0b pl⟩ λh' jo F=>?_));let J1:Inv X pins σ B {s' with heap:=h',toks:=jo}:=Jn.dj (fI B pI.2.1) λc o n e=>F c o n⁻¹ e;let xO:=F S _ D⁻¹ Z.1;rcases M with⟨qq,rfl⟩|⟨b,x,vb,t,M,hx,rx,ht,rfl,f⟩
  .refine dV (q07 (nF ?_))
   refine(fin a B _ ⋯ pk J1).1 ?_
   cases xs with
   |nil=>rfl
   |cons _ _=>rw[qq] at hr;simp at hr
  .let s1:=XE h' S (X7 λ_=>(#[]:Array ν))
   show ρ _ X.A.in1 (updateSeq S (λ_ => #[]) >>= _) _ _ _;calc dV (Zc xO rfl (dV (Z2 (nF ?_))));exact(fin a B _ ⋯ pk (J1.dj (fS B Z.2.1) λc o n e=>(s1.2 c n).trans e)).2 b x vb hx rx λj H=>f j ⋯
 |succ r ih =>
  ext a B s' h c G hr J pk U Y M;let Z:=J.pin (S,seqObj "list" h c) (Vp _ (.head _));let pI:=J.pin (I,G) (Vp _ (.tail _ (.head _)));let Jn:=J.cg.cg;let⟨g,rv,pl,_⟩:12:=Jn.list (bf.of (hl a B pk));let lv:↑g=↑xs:=rv.length.symm;let ti:↑a<↑g:=by symm
  calc Yj (sZ mx) ?_;rw[Zt (jm mx) _];show ρ _ X.A.in1 (seqItems? (.ref S) >>= _) _ _ _;calc dV (ZD Z.1 rfl ?_);show ρ _ X.A.in1 (tryCatch (pyNext (.ref I)) _ >>= _) _ _ _;let W:=ZZ (prog:=X.prog) (w:=X.w) (A:=X.A.in1) hh I l D7 g.toArray;calc dV (ZK (W.item ↑a _ _ _ (by rw[KJ];calc ti) ⟨⟨G,pI.1,U,Y⟩,q0b pl⟩ λv h' jo hv mQ F=>?_));let hv:g[↑a]?=ζ v:=by simpa using hv
  let⟨s,xP,N,O⟩:12:=id mQ.1;let hi:↑a<↑xs:=by symm
  let⟨u,e1,rx⟩:11:=rv.get (mf hi);rw[hv] at e1;cases e1
  let hx:=mf hi;generalize xs[↑a]=x at hx rx;let xO:=F S _ D⁻¹ Z.1;let nI:∀z,s.data≠.cell z:=λz e=>by rw[O] at e;cases e
  let J1:Inv X pins σ B {s' with heap:=h',toks:=jo}:=Jn.dj (fI B pI.2.1) λc o n e=>F c o n⁻¹ e;let J2:=(J1.eN (fI B pI.2.1) xP nI).eN ((fS B Z.2.1).cons (p:=(I,s)) D.symm) xO oe;show ρ _ X.A.in1 (tryCatch (holding [v] (call (.ref q) [v])) _ >>= _) _ _ _;calc dV (ZK (Xy (Yl (xM _ x v a B _ hx rx J2 pk) (λkv s2 he=>?_) λ_ _ hF=>hF.elim)));let⟨kx,Q,J3,rk,K⟩:=he;let⟨C,et,Qf⟩:=hP _ Q K ↑a (by rw[KG];calc Y2 _)
  let ek:kx=.ref C:=by
   rw[Xi (vr _),YE] at et;simpa using et
  subst ek;cases rk
  let qS:=J3.pin (S,seqObj "list" h c) (Vp _ (.head _));let qI:=J3.pin (I,s) (Vp _ (.tail _ (.head _)));let Jm:=J3.cg.cg;let D8:↑(a++[V.ref C])+r=↑xs:=by rw[KG,XG];symm
  let T:s.data=.fields #[.ref l,.int (↑(a++[V.ref C]):Nat) 0]:=by rw[O,KG];rfl
  let put:∀(b:Nat),b<↑a+1->b=↑a->(∀j,j<↑a+1->i8 mx (L b) (L j))->codeAny (ς X.prog X.w) X.A (.builtin (j5 mx) ⟨[.ref I,.ref q,.ref S],[(YX "default",d)]⟩) R {s2 with heap:=s2.heap.update S (X7 λ_ => #[v,.ref C])}:=λb M eb f=>by
   subst eb;let s1:=XE s2.heap S (X7 λ_ => #[v,XH C]);let⟨c2,xQ⟩:∃c2,(s2.heap.update S (X7 λ_ => #[v,XH C])).get? S=ζ (seqObj "list" #[v,.ref C] c2):=⟨_,q0U qS.1 λ_ => #[v,XH C]⟩;let J4:Inv X pins σ Q {s2 with heap:=s2.heap.update S (X7 λ_ => #[v,XH C])}:=Jm.dj (t':=s2.toks) (fS Q qS.2.1) λc o n e=>(s1.2 c n).trans e;let J5:=(J4.eN (fI Q qI.2.1) ((s1.2 I D.symm).trans qI.1) nI).eN ((fS Q qS.2.1).cons (p:=(I,s)) D.symm) xQ oe;refine ih _ Q _ _ c2 s D8 J5 K N T (.inr (zI4 ↑a x v C ⟨by rw[KG];calc Y2 _,hx,rx,et,rfl,λj H=>f j (by rw[KG] at H;calc H)⟩))
  rcases M with⟨qq,rfl⟩|⟨b,y,vb,t,M,hy,ry,ht,rfl,f⟩
  .show ρ _ X.A.in1 (updateSeq S (λ_ => #[v,.ref C]) >>= _) _ _ _
   calc dV (Zc qS.1 rfl ?_);rw[m];calc nF ⟨Yy (jm mx) _,put ↑a (Y2 _) rfl λj H=>?_⟩;rw[qq] at H ⊢;let:j=0:=by simp at H;symm
   subst this;exact s_ _ _
  .let⟨t',D9,Qg⟩:=hP _ Q K b (by rw[KG];symm)
   rw[Xc M,ht] at D9;cases D9
   let⟨i1,r1,Qh,_⟩:12:=Jm.tuple (bE.of Qf);let⟨i2,r2,Qi,_⟩:12:=Jm.tuple (bE.of Qg);show ρ _ X.A.in1 (tryCatch (holding [v,.ref C] (richCompare _ (.ref C) (.ref t) >>= _)) _ >>= _) _ _ _;calc dV (ZK (Xy (dV ?_)));calc Qb (A:=X.A.in1) (mx:=mx) (ns:=L ↑a) (ms:=L b) Qh Qi (intsAre_of r1)⁻¹ (intsAre_of r2)⁻¹ hu ?_;calc dV (Xy (Yu ?_));calc dV (Z2 (nF ?_));split
   .rename_i hq
    calc dV (Zc qS.1 rfl (dV (Z2 ?_)));rw[m];refine nF ⟨Yy (jm mx) _,put ↑a (Y2 _) rfl λj H=>?_⟩
    by_cases e:j=↑a
    .subst e;exact s_ _ _
    .exact D5 hq (f j ⋯)
   .rename_i hq
    calc dV (Z2 ?_);rw[m];refine nF ⟨Yy (jm mx) _,ih _ Q _ _ c s D8 J3 K N T (.inr (zI4 b y vb t ⟨by rw[KG];symm,hy,ry,by rw[Xc M];calc ht,rfl,λj H=>?_⟩))⟩
    by_cases e:j=↑a
    .subst e;exact D6 hq
    .calc f j (by rw[KG,XG] at H;symm)
theorem Qj mx {Q:aJ} (n:Nat->LK) (J:Inv X pins σ H s) (L:X.A.handled=η) (M:X.A.units+1<cLine) (D:P [] H)
  (F:∀au H',P au H'->H' l=ζ (.lst xs)) (N:∀au H',P au H'->∀i,i<↑au->∃t,au[i]?=ζ (.ref t)/\H' t=ζ (.tup ((n i).map V.int)))
  (g:∀a x u au H' s',xs[↑au]?=ζ x->RelV x u->Inv X a σ H' s'->P au H'->ρ (ς X.prog X.w) X.A.in1 (call (.ref q) [u]) (EP X a σ λk v=>P (au++[k]) v) (λ_ _=>False) s')
  (y:∀au H' s',↑au=↑xs->P au H'->Inv X pins σ H' s'->(xs=[]->Q d s')/\∀b x u,xs[b]?=ζ x->RelV x u->(∀j,j<↑xs->i8 mx (n b) (n j))->Q u s') :
  ρ (ς X.prog X.w) X.A (call (.builtin (gv mx)) [.ref l] [(YX "key",.ref q),(YX "default",d)]) Q E s:=by
 let f:(toString (gv mx)++toString ".loop")=j5 mx:=by cases mx<;>decide
 let⟨O,S,G,_⟩:12:=J.list (bf.of (F _ _ D));calc kmk_tree (D3 mx) (D4 mx) (D2 mx) (Qc _ _ _ _) (dV (q1n (Y) (dV (nF (dV (YW (q0b G) (dV (q0L ?_ (XZ _)))))))));rw[f];calc nF ⟨Yy (jm mx) _,?_⟩;let o:Inv X pins σ H {s with heap:=s.heap.push {cls:=.type "list_iterator",data:=.fields #[.ref l,.int 0 0]}}:=J.kept   λb u e=>mi _ e;let p:(s.heap.push {cls:=.type "list_iterator",data:=.fields #[.ref l,.int 0 0]}).get? ⇑s=ζ {cls:=.type "list_iterator",data:=.fields #[.ref l,.int 0 0]}:=Vs _ Y;let r:(s.heap.push {cls:=.type "list_iterator",data:=.fields #[.ref l,.int 0 0]}).objs.size≠⇑s:=λz=>Zf _ (q24 (Vo p) z)
 let B:∀c,c ⇑s=η->bx X pins c ⇑s:=λc e=>J.fz (vr _) e;let h:=J.aM.fresh (vr _);let m:=W8 (PlainL.lt G);generalize ⇑s=I at p r B h m;generalize s.heap.push {cls:=.type "list_iterator",data:=.fields #[.ref l,.int 0 0]}=C at o p r;let K:∀c,c C.objs.size=η->bx X pins c C.objs.size:=λc e=>o.fz (vr _) e;let R:Inv X pins σ H {s with heap:=C.push (seqObj "list" #[] 0)}:=o.kept   λb u e=>mi _ e;calc Qe mx n L M m r B K F N g y ↑xs [] H _ #[] 0 _ (by simp) ((R.eN (B H h) (mi _ p) (λz e=>by cases e)).eN ((K H (o.aM.fresh (vr _))).cons  r.symm) (Vs _ Y) oe) D Y Y (.inl ⟨Y,Y⟩)
end
variable[zt:aB]
def k4(mx:Bool)(cp:-(Option Nat))(b:WE)(c:aH)(ds:-D)(K:D->Prop):Prop :=
 ∃a:D->LK,Pf cp b c ds a/\(ds=[]->K .non)/\∀d∈ds,(∀e∈ds,i8 mx (a d) (a e))->K d
def jM(mx:Bool)(cp:-(Option Nat))(b:WE)(x:DV)(c:aH)(K:D->Prop):Prop:=∃a,x=.p (.lst a)/\k4 mx cp b c a K
theorem Qk{mx cp a x b K}(h:jM mx cp a x b K):∃ds,x=.p (.lst ds)/\k4 mx cp a b ds K:=h
def qr(mx:Bool)(f:WE)(cp:-(Option Nat))(b:WE):WE:=λc K=>f c λx a=>jM mx cp b x a λd=>K (.p d) a
meta def tj(mx:Bool):π:=YX (gv mx)
section
variable{X:Cx}{params:Arguments}{body:υ}{scope:Δ}{fG:Ε}{x:π}{Nb:-π}{cp:-(Option Nat)}{fb:WE}{T:Z}
theorem Ql{mx:Bool}{G:ax}{σ:St}{H:Hp}{s:ο}{E:aJ}{l:ξ}{F:Hp}{m:-ξ}{M:aH}{ds:-D}{xs:-V}{N O pos j p2}{Q:VK}(L:iA X params body scope fG T x Nb cp fb)(hu:X.A.units+64<cLine)
  (I:Inv X G σ H s) (S:SR F m M σ H) (hl:F l=ζ (.lst xs)) (hx:ah F ds xs)
  (hs:k4 mx cp fb M ds λd=>∀v F' H',Ext F m M.mu H F' m M.mu H'->SR F' m M σ H'->Is F' d v->Q v H') :
  ρ (ς X.prog X.w) X.A (evalAll ((backToKw pos (keywordEach [⟨ζ "key",.Lambda params body scope fG,N⟩,⟨ζ "default",.Constant .none j p2,O⟩] X.env)).map (·.2))) (λau s₂=>ρ (ς X.prog X.w) X.A (call (.builtin (gv mx)) [.ref l] (((backToKw pos (keywordEach [⟨ζ "key",.Lambda params body scope fG,N⟩,⟨ζ "default",.Constant .none j p2,O⟩] X.env)).filterMap (·.1)).zip au)) (EP X G σ Q) E s₂) E s:=by
 let⟨key,hk,K0,K⟩:12:=hs;let⟨k,U,J⟩:=L.room;let⟨cc,W,hC⟩:=L.env.code;show ρ _ _ (evalAll [do let v <- eval (.Lambda params body scope fG) X.env;standAt pos;pure v,do let v <- eval (.Constant .none j p2) X.env;standAt pos;pure v]) _ _ _;calc evalAll_cons (dV ?_);let Y:=L.names;unfold sL at Y;erw[Xs,XS,Xt] at Y;let SC:=rE L.kind Y.1.1.1;let⟨cl,xS,Qm,Qn⟩:12:=Bl (scope:=scope) (env:=X.env) λy hy e=>I.ok.has y.1 (SC.free y hy e);refine O9 I (L.tbl.get H S.tab) L.Pg xS W (hC.keeps I.bk) L.env.ng (I.mod.glob.keeps I.bk) (L.env.blt.keeps I.bk) λf H1 s1 c I1 t1 k1 VU hf hc=>?_
 calc dV (Zw (nF ?_));calc evalAll_cons (dV (nF ?_));calc dV (Zw (nF ?_));calc evalAll_nil ?_;show ρ _ _ (call (.builtin (gv mx)) [.ref l] [(YX "key",.ref f),(YX "default",.none)]) _ _ _;let kT:∀b o,H b=ζ o->b∉aB.ad->H1 b=ζ o:=λb o e t=>k1 b o e λz=>t (by rw[z];calc L.tbl.mem);let D_:=L.tbl.put H H1 S.tab t1 k1;let S1:=S.qi kT D_;let E1:=Ext.qi S kT D_;let lx:=↑hx;let r1:aV (k+2) X.A.in1:=aV.in1 (k:=k+2) U;let gd:∀{i:Nat}{d:D},ds[i]?=ζ d->ds.getD i .non=d:=λ{i d} e=>by rw[o8,e];rfl
 refine Qj mx (l:=l) (xs:=xs) (d:=.none) (λi=>key (ds.getD i .non)) (P:=λa g=>∃n,Ext F m M.mu H n m M.mu g/\SR n m M σ g/\g f=ζ (jJ f "<lambda>" (X.env.qual++"<lambda>") params body scope cl ((X.mg "__name__").getD .none) (.ref c))/\g c=ζ (kS c (X.env.qual++"<lambda>"))/\↑a<=↑ds/\∀(i:Nat)(d:D)(kv:V),ds[i]?=ζ d->a[i]?=ζ kv->Is n (.tup ((key d).map D.int)) kv)
  I1 r1.hd ⋯ ⟨_,E1,S1,hf,hc,XZ _,λi d kv _ e=>by simp at e⟩ (λa g jG=>by let⟨n,p,h,_⟩:12:=jG;calc h.sub _ _ (p.same _ _ hl)) (λa g ⟨n,p,h,r,B,hle,C⟩ i q=>?_) (λjN v u a g s' hv rv I' ⟨n,p,h,r,B,hle,C⟩=>?_) λa g s' xn ⟨n,p,h,r,B,hle,C⟩ I'=>⟨λh0=>?_,λb y u hy ry best=>?_⟩
 .let R:=mf (show i<↑ds by symm)
  let is:=C i _ _ R (mf q);let⟨t,us,e1,e2,e3⟩:22:=is;calc⟨t,by rw[mf q,e1],?_⟩;rw[gd R,<-jZ e3];exact h.sub _ _ e2
 .let q:↑a<↑ds:=by rw[<-lx];exact(mj.mp hv).1
  let R:=mf q;let⟨VW,Qo⟩:=hk _ (Yk q);calc O_ I' r B (I'.ok.frames) r1.hd (aV.depth (r1.mono (by symm:k+1<=k+2))) L.kind L.names L.co L.gen Qm Qn (λct=>L.bind cl _ _ ct u) rv (J ⟨X.A.in1,cl,f,.ref c,s',g⟩ ((r1.mono ⋯).deeper _)) (⟨n,m,_,_,(h.pG).qj (ah.at (hx.same p.same) R hv),Qo,?_⟩);ext y δ' ⟨ey,em⟩ w F2 xT H2 Z S2 V2;subst ey
  let ea:xT=m:=by
   let l2:↑xT=↑m:=by rw[S2.b7,em,h.b7]
   refine Zr λi=>?_
   by_cases q:i<↑m
   .rw[mf q];exact Z.pre i _ (mf q)
   .rw[Yt ⋯,Yt ⋯]
  subst ea;let⟨VX,e8⟩:=δ';subst em;refine⟨F2,p.trans Z,SR.back h Z S2,Z.lO h r (λ_ z=>by cases z) (λ_ z=>by cases z) (λ_ z=>by cases z) (λ_ z=>by cases z),Z.lO h B (λ_ z=>by cases z) (λ_ z=>by cases z) (λ_ z=>by cases z) (λ_ z=>by cases z),by rw[KG,XG];calc q,λi d kv e1 e2=>?_⟩
  by_cases Qp:i<↑a
  .rw[Xc Qp] at e2
   exact Is.same Z.same (C i d kv e1 e2)
  .let:i=↑a:=by
    let:=(mj.mp e2).1;rw[KG,XG] at this;symm
   subst this;rw[Xi (vr _),YE] at e2;cases(e2)
   rw[R] at e1;cases e1;exact V2
 .exact⟨.non,g,I',rfl,K0 (Yb.mp (by rw[<-lx,h0];rfl)) _ n g p h (by erw[Is])⟩
 .let hb:b<↑ds:=by rw[<-lx];exact(mj.mp hy).1
  let R:=mf hb;calc⟨y,g,I',ry,K ds[b] (Yk hb) (λe he=>?_) _ n g p h (ah.at (hx.same p.same) R hy)⟩;let⟨j,hj,rfl⟩:=Zs.mp he;let:=best j ⋯;rw[gd R,gd (mf hj)] at this;calc this
variable{e:υ}{f:WE}{p1 q1 l7 qt:Ε}
theorem Ea{j W}(mx:Bool)(L:iA X params body scope fG T x Nb cp fb)(Y:X.A.units+64<cLine)(w:Gl X (tj mx))(Z:X.mg (tj mx)=η)(y:bootBuiltins (tj mx)=ζ (.builtin (gv mx)))(ha:JA X [e] (bM (ag f af)))
  (he:‹starEach [e] X.env=[(ι,eval e X.env)]›):JE X (.Call (.Name (tj mx) p1) [e] [⟨ζ "key",.Lambda params body scope fG,l7⟩,⟨ζ "default",.Constant .none j W,qt⟩] q1) (tD (qr mx f cp fb)) :=
 ⟨λh s P H Q I ⟨F,R,U,K,S,q,k⟩=>by
  refine ZN (lh I w Z y (callWith_kw (aX (ha q1 h s P H (λz o=>∃(l:ξ)(g:Hp)(c:-ξ)(b:aH)(i:-D)(m:-V),z=[.ref l]/\g l=ζ (.lst m)/\ah g i m/\Ext F R U.mu H g c b.mu o/\SR g c b P o/\k4 mx cp fb b i λd=>K (.p d) b) I ?_) λm s1 B=>?_) (he:=by rw[he];rfl) (hplain:=by rw[he];rfl)) (hn:=by cases mx<;>decide) (hd:=by cases mx<;>decide))
  .refine⟨F,R,U,λn b=>match n with
    |[x]=>jM mx cp fb x b λd=>K (.p d) b
    |_=>False,S,q,λn b C z g c o t E V1=>?_⟩
   cases n with
   |nil=>exact C.elim
   |cons x n =>
    cases n with
    |cons _ _=>exact C.elim
    |nil =>
     let⟨v,r,rfl,W1,W2⟩:22:=V1;subst W2;let⟨i,rfl,h2⟩:=Qk C;let⟨a,m,rfl,g1,g2⟩:22:=W1;exact(zI6 a g c b i m ⟨rfl,g1,g2,t,E,h2⟩)
  .let⟨z,o,I1,r1,l,g,c,b,i,ws,ev,hl,hi,t,E,G⟩:=B
   subst ev;let⟨u,rfl,rx⟩:=vals1 r1;cases rx
   calc Ql L Y I1 E hl hi ?_;let⟨J,hk,K0,hK⟩:12:=G
   calc⟨J,hk,λh0 v F' H' M N O=>k _ _ (K0 h0) _ _ _ _ (t.trans M) N O,λd hd hb v F' H' M N O=>k _ _ (hK d hd hb) _ _ _ _ (t.trans M) N O⟩⟩
end
end L2
namespace LJ
open PySem L2
variable[zt:aB]
meta def qu:D->D
 |.tup [.int i,_]=>.int i
 |_=>.non
meta def qv(p:Int->Bool):D->Bool
 |.tup [.int i,_]=>p i
 |_=>ι
theorem xU p:∀ds i,((jY i ds).filter (qv p)).map qu=((q3S i ↑ds).filter λk:Nat=>p k).map λk:Nat=>D.int k
 |[],_=>Y
 |d::r,i=>by
  let a:=xU p r (i+1);show(((D.tup [.int i,d])::jY (i+1) r).filter _).map _=_;rw[rC,List.range'_succ,q1P,q1P];show(if p i=θ then _ else _:-D).map _=_
  cases q:p i with
  |true=>erw[q0c,Xm,a];rfl
  |false=>erw[Zk,Z8,a]
meta def cV(l:-Int)(y:Wy):Bool:=μ (y.1∈l) != μ (y.2.1∈l)
meta def eA(ws:-Wy)(l:-Int):-Int:=(aZ ↑ws).filter λn=>cV l (ae ws n)
inductive xV (ys:-DV) (aN:-OV) (K:RV->-OV->Prop):Prop
 |mk (y:Wy) (l:-Int) (q:ys=[.p (bc y),.p (aK l)]) (q:aN=[]) (q:K (.p (.bl (cV l y))) [])
def xW:WS:=(aA (d2 (d2 (d2 (aa 0) (dC (.int 0)) aE) (aa 1) (dt ι)) (d2 (d2 (aa 0) (dC (.int 1)) aE) (aa 1) (dt ι)) hD))
theorem Qq:Sem 2 0 xV xW:=by
 ext b a c-⟨y,l,rfl,rfl,k⟩;unfold xW;simp![bc,aK,cQ,cR];let d:=ew l;calc⟨⋯,⋯,?_⟩;rw[fQ,fQ];unfold cV at k;generalize μ (y.1∈l)=p at k;generalize μ (y.2.1∈l)=q at k;cases p<;>cases q<;>calc bg k
inductive xX (ys:-DV) (aN:-OV) (K:RV->-OV->Prop):Prop
 |mk (m:Int) (ws:-Wy) (l:-Int) (q:ak m ws) (q:ys=[.p (az m ws),.p (aK l)]) (q:aN=[]) (q:K (.p (aK (eA ws l))) [])
def Eb:WS:=(aA (bX (iS (ag (d2 (aa 0) (dC (.int 1)) aE) af)) [η,η,ζ 1] (fN 2 (cH (aS 0) (cH (aS 1) fB))) (dT (aj 2 xV (ag (aa 1) (ag (aa 2) af)))) (aa 0)))
theorem Qr:Sem 2 0 xX Eb:=by
 ext v h w-⟨m,a,l,W,rfl,rfl,k⟩;let j:=W.h_;refine f_ (qv λi=>cV l (ae a i)) qu (by rw[mE,kF];symm) trivial ?_ ?_
 .ext d n o x p b c
  let⟨z,r⟩:1:=Vt.mp n;let⟨e,f,g⟩:=mF r;rw[KI] at f;let⟨y,s,rfl⟩:=My.mp f;rw[Yd] at g;subst g;let t:ae a z=y:=by unfold ae;rw[Xn,o8,s];rfl
  erw[qv,qu] at b c;rw[t] at b c;simp!;refine⟨y,l,Y,Y,?_⟩
  cases q:cV l y with
  |true=>exact⟨p,b q⟩
  |false=>exact c q
 .let e:=xU (λi=>cV l (ae a i)) (a.map bc) 0
  let u:(eA a l).map D.int=((q3S 0 ↑(a.map bc)).filter λk:Nat=>cV l (ae a k)).map λk:Nat=>D.int k:=by
   unfold eA aZ;rw[XP,Xd,kF,<-q2t];rfl
  rw[<-u] at e;rw[e];calc bg k
inductive xY (ys:-DV) (aN:-OV) (K:RV->-OV->Prop):Prop
 |mk (m:Int) (ws:-Wy) (ns:-Int) (q:ak m ws) (q:Nums ws ns) (q:ys=[.p (az m ws),.p (aK ns)]) (q:aN=[]) (q:(ns=[]->K (.p .non) [])) (q:∀n∈ns,(∀e∈ns,kle (bJ ws n) (bJ ws e))->K (.p (.int n)) [])
def Ec:WS:=(aA (qr ι (aa 1) [ζ 0] (aj 1 sO (ag (d2 (d2 (aa 1) (dC (.int 1)) aE) (aa 0) aE) af))))
theorem Qs:Sem 2 0 xY Ec:=by
 ext t c u-⟨m,f,g,W,i,rfl,rfl,j,k⟩;simp![qr,jM,az,aK]
 refine⟨g.map D.int,Y,λd=>match d with
  |.int n=>bJ f n
  |_=>[],λd b=>?_,λl=>?_,λd b a=>?_⟩
 .let⟨n,h,rfl⟩:11:=Bk.mp b
  let⟨o,p⟩:=i n h;let⟨y,q,v,r,_⟩:13:=lK W o p;calc⟨(by ext z;cases z),?_⟩;simp![cR,r];calc⟨y,Y,Y,?_⟩;simp!;unfold bJ;rw[q];rfl
 .exact bg (j (q0X.mp l))
 .let⟨n,h,rfl⟩:=Bk.mp b
  calc bg (k n h λe s=>a _ (Bk.mpr ⟨e,s,Y⟩))
theorem Qt{ws l}:↑(eA ws l)<=↑ws:=by
 let:=Yi (λn=>cV l (ae ws n)) (aZ ↑ws);rw[gj] at this;calc this
theorem Ed ns:∀i,i<=ns.length->(LJS.gr ns i).Nodup/\∀x,x∈LJS.gr ns i↔x∈ns.take i
 |0,_=>⟨Zj,λx=>by simp[LJS.gr]⟩
 |i+1,h=>by
  let⟨n,m⟩:=Ed ns i ⋯
  let e:ns.take (i+1)=ns.take i++[ns.getD i 0]:=by
   rw[ZI,o8,mf ⋯];rfl
  rw[e];unfold LJS.gr LJS.once;split
  .rename_i c
   calc⟨n,λx=>?_⟩;rw[m x,W9,W7];calc⟨.inl,λz=>z.elim id λz=>?_⟩;subst z;exact(m _).mp c
  .rename_i c
   refine⟨XT.mpr ⟨n,by simp,λa d b f z=>?_⟩,λx=>?_⟩
   .subst z;rw[W7.mp f] at d;exact c d
   .rw[W9,W9,m x]
theorem Qu{m}{ws:-Wy}(W:ak m ws){ns}(hn:Nums ws ns):mM (eV m ws ns)=jl m ws ns:=by
 let⟨b,a⟩:=Ed (eV m ws ns) _ (vr _);rw[Y3] at a
 let c:(sortI (gb (eV m ws ns))).Pairwise (· < ·):=by
  exact((sb _).and ((sortI_perm _).nodup_iff.mpr b)).imp λz=>by symm
 let:=PT (DR W hn) c λx=>((sortI_perm _).mem_iff).trans (a x);unfold jl mM;rw[<-DA,this];calc YH λx _=>?_;unfold n_ cm aZ;rw[XP];rfl
theorem xZ{ws:-Wy}:∀{ns},ns≠[]->∃n,n∈ns/\∀e∈ns,kle (bJ ws n) (bJ ws e)
 |[],h=>absurd Y h
 |[a],_=>⟨a,Vr,λe c=>by rw[W7.mp c];calc kle_refl _⟩
 |a::b::r,_=>by
  let⟨n,f,d⟩:=xZ  (ns:=b::r) (by simp)
  cases q:HT.lexLt (bJ ws n) (bJ ws a) with
  |true=>exact⟨n,Bi _ f,λe c=>(KN.mp c).elim (λz=>by rw[z];calc lG q) (d e)⟩
  |false=>calc⟨a,Vr,λe c=>(KN.mp c).elim (λz=>by rw[z];calc kle_refl _) λz=>kle_trans q (d e z)⟩
theorem jn{ws:-Wy}{us}(a:Nums ws us)(b:us.Nodup):↑us<=↑ws:=by
 let h:=λn h=>by
  let:=a n h;exact aF.mpr this
 let:=YF b h;rw[gj] at this;calc this
end LJ
namespace L2
open PySem PySem.Spec PyProof.Rows PySem.W
section
variable{X:Cx}
end
variable[zt:aB]{X:Cx}
end L2
namespace LJ
open PySem L2
variable[zt:aB]
theorem Ee:∀fs:-Int,(fs.map D.int).all cf.eF=θ
 |[]=>Y
 |_::r=>by rw[Xm,ZU,Ee r];rfl
def Indep(A:Wy->Prop):Prop:=∀a,A a->¬ aq (λv=>A v/\v≠a) a.1 a.2.1
omit [aB] in
theorem Indep.add {A B:Wy->Prop} {w:Wy} (h:Indep A) (k:∀v,B v↔A v\/v=w) (n:¬ aq A w.1 w.2.1):Indep B:=by
 ext a ha c;rcases(k a).mp ha with ha|rfl
 .let aw:a≠w:=λe=>n (by rw[<-e];calc .one ha)
  let c':aq (λv=>(A v/\v≠a)\/v=w) a.1 a.2.1:=c.mono λv hv=>by
   rcases(k v).mp hv.1 with z|z
   .exact .inl ⟨z,hv.2⟩
   .exact .inr z
  let m:∀{x y:Int},aq (λv=>A v/\v≠a) x y->aq A x y:=λz=>z.mono λv hv=>hv.1;rcases(aq.add λv=>Iff.rfl).mp c' with z|⟨z1,z2⟩|⟨z1,z2⟩
  .exact h a ha z
  .exact n (((m z1).symm.trans (.one ha)).trans (m z2).symm)
  .exact n (((m z2).trans (aq.one ha).symm).trans (m z1))
 .exact n (c.mono λv hv=>by
   rcases(k v).mp hv.1 with z|z
   .exact z
   .calc absurd z hv.2)
theorem x_{m}{ws:-Wy}(W:ak m ws){u v}(g:u∈ws)(h:v∈ws)(a:u≠v):kY u v\/kY v u:=by
 by_cases c:kY u v
 .exact .inl c
 .refine .inr ?_
  let c:kle (jk v) (jk u):=by
   unfold kle
   cases q:HT.lexLt (jk u) (jk v) with
   |false=>rfl
   |true=>exact absurd q c
  calc PM c λe=>a ?_;let⟨i,j,k⟩:=u;unfold jk at e;erw[q18,and_true] at e;let⟨b,d,f⟩:02:=e;subst b d f;rfl
theorem Qv{m}{ws:-Wy}(W:ak m ws):Indep (iB ws):=by
 let g:∀k,Indep λu=>iB ws u/\kZ ws u<k:=by
  ext k
  induction k with
  |zero=>ext a r;symm
  |succ k n =>
   by_cases e:∃w,iB ws w/\kZ ws w=k
   .let⟨w,d,s⟩:=e
    refine n.add (w:=w) (λv=>?_) λc=>?_
    .constructor
     .ext ⟨f,q⟩
      by_cases z:v=w
      .exact .inr z
      .refine .inl ⟨f,?_⟩
       rcases x_ W f.1 d.1 z with y|y
       .let:=xG f.1 y;symm
       .let:=xG d.1 y;symm
     .ext (⟨f,q⟩|rfl)
      .exact⟨f,⋯⟩
      .exact⟨d,⋯⟩
    .refine d.2 (c.mono λv o=>⟨o.1.1,?_⟩)
     by_cases z:v=w
     .subst z;symm
     .rcases x_ W o.1.1 d.1 z with y|y
      .exact y
      .let:=xG d.1 y;symm
   .let j:(λu=>iB ws u/\kZ ws u<k+1)=λu=>iB ws u/\kZ ws u<k:=funext λu=>propext ⟨λi=>by let⟨a,b⟩:01:=i;exact⟨a,by
     by_cases z:kZ ws u=k
     .exact absurd ⟨u,a,z⟩ e
     .omega⟩,λi=>by let⟨a,b⟩:01:=i;calc⟨a,⋯⟩⟩
    rw[j];exact n
 let j:(λu=>iB ws u/\kZ ws u<↑ws+1)=iB ws:=funext λu=>propext ⟨λh=>h.1,λh=>⟨h,by
  let:=List.countP_le_length (p:=λv=>HT.lexLt (jk v) (jk u)) (l:=ws)
  unfold kZ;symm⟩⟩
 let:=g (↑ws+1);rw[j] at this;calc this
theorem qw{m}{ws:-Wy}(W:ak m ws){a b}(f:0<=a/\a<(↑ws:Int))(g:0<=b/\b<(↑ws:Int))(e:ae ws a=ae ws b):a=b:=by
 unfold ae at e;let c:a.toNat<↑ws:=by symm
 let d:b.toNat<↑ws:=by symm
 rw[o8,o8,mf c,mf d] at e;let:=(q0H   (PN W)).mp e⁻¹;symm
theorem lP{S l a b}(h:aq S a b)(g:a∈l)(f:b∉l):∃v,S v/\cV l v=θ:=by
 induction h with
 |rf=>exact absurd g f
 | @st c d m i j =>
  by_cases c:c∈l
  .let⟨w,k,e⟩:=i
   calc⟨w,k,?_⟩;unfold cV;rcases e with⟨rfl,rfl⟩|⟨rfl,rfl⟩
   .rw[Bj c,Bh f];rfl
   .rw[Bj c,Bh f];rfl
  .calc j c
theorem Qw{l v}(h:cV l v=θ):(v.1∈l/\v.2.1∉l)\/(v.2.1∈l/\v.1∉l):=by
 unfold cV at h
 by_cases p:v.1∈l
 .by_cases q:v.2.1∈l
  .rw[Bj p,Bj q] at h;cases h
  .exact .inl ⟨p,q⟩
 .by_cases q:v.2.1∈l
  .exact .inr ⟨q,p⟩
  .rw[Bh p,Bh q] at h;cases h
theorem bh{ws l n}:n∈eA ws l↔(0<=n/\n<(↑ws:Int))/\cV l (ae ws n)=θ:=by
 unfold eA;rw[Xf,aF]
theorem Qx{ws l n}(h:n∈eA ws l)(a:∀e∈eA ws l,kle (bJ ws n) (bJ ws e)):iB ws (ae ws n):=by
 let⟨⟨d,f⟩,g⟩:=bh.mp h;refine⟨gi d f,λc=>?_⟩
 let:∃v,(v∈ws/\kY v (ae ws n))/\cV l v=θ:=by
  rcases Qw g with⟨p,q⟩|⟨p,q⟩
  .exact lP c p q
  .exact lP c.symm p q
 let⟨v,⟨i,b⟩,j⟩:=this;let⟨k,m,rfl⟩:=PL i;let:=a k (bh.mpr ⟨m,j⟩);rw[sT,sT] at this;unfold kY at b;rw[this] at b;cases b
inductive ya (ys:-DV) (aN:-OV) (K:RV->-OV->Prop):Prop
 |mk (m:Int) (ws:-Wy) (ns:-Int) (q:ak m ws) (q:Nums ws ns) (q:ys=[.p (az m ws),.p (aK ns)]) (q:aN=[]) (q:(ns=[]->K (.p .non) [])) (q:∀n∈ns,(∀e∈ns,kle (bJ ws e) (bJ ws n))->K (.p (.int n)) [])
def Ef:WS:=(aA (qr θ (aa 1) [ζ 0] (aj 1 sO (ag (d2 (d2 (aa 1) (dC (.int 1)) aE) (aa 0) aE) af))))
theorem Qy:Sem 2 0 ya Ef:=by
 ext t c u-⟨m,f,g,W,i,rfl,rfl,j,k⟩;simp![qr,jM,az,aK]
 refine⟨g.map D.int,Y,λd=>match d with
  |.int n=>bJ f n
  |_=>[],λd b=>?_,λl=>?_,λd b a=>?_⟩
 .let⟨n,h,rfl⟩:11:=Bk.mp b
  let⟨o,p⟩:=i n h;let⟨y,q,v,r,_⟩:13:=lK W o p;calc⟨(by ext z;cases z),?_⟩;simp![cR,r];calc⟨y,Y,Y,?_⟩;simp!;unfold bJ;rw[q];rfl
 .exact bg (j (q0X.mp l))
 .let⟨n,h,rfl⟩:=Bk.mp b
  calc bg (k n h λe s=>a _ (Bk.mpr ⟨e,s,Y⟩))
meta def mR(us:-Int)(g:Int):-Int:=us.filter λn=>μ (n≠g)
open Classical in
meta def mS (ws:List Wy) (us:List Int) (g one other:Int):Bool := !decide (aq (bA ws (mR us g)) one other)
meta def j6(ws:-Wy)(us:-Int)(b a:Int):-Int:=us.filter λn=>mS ws us n b a
inductive yb (ys:-DV) (aN:-OV) (K:RV->-OV->Prop):Prop
 |mk (m:Int) (ws:-Wy) (us:-Int) (g:Int) (i j:Nat) (q:ak m ws) (q:Nums ws us) (q:↑us<=900) (q:i<m.toNat) (q:j<m.toNat) (q:ys=[.p (az m ws),.p (aK us),.p (.int g),.p (.int i),.p (.int j)]) (q:aN=[]) (q:K (.p (.bl (mS ws us g i j))) [])
def yc:WS:=(ai (ar 5 (aj 2 n9 (ag (aa 0) (ag (bX (aY (aa 1)) [η,ζ 2] (aS 0) (dT (d2 (aa 0) (aa 1) hD)) (aa 0)) af)))) (aA (d2 (d2 (aa 5) (aa 3) aE) (d2 (aa 5) (aa 4) aE) hD)))
open Classical in
theorem Qz:Sem 5 1 yb yc:=by
 rintro ys aN K'-⟨m,ws,us,g,i,j,W,hu,ul,hi,hj,rfl,rfl,k⟩;unfold yc;refine aI λN hN=>?_;rw[show aK us=.lst (us.map D.int) from rfl];simp!
 refine L2.f_ (λd=>match d with
  |.int n=>decide (n≠g)
  |_=>false) id (by rw[kF];symm) trivial ?_ ?_
 .intro d hd acc L' ha h1 h2
  obtain⟨n,Al,rfl⟩:=Bk.mp hd;dsimp only at h1 h2;simp!;rw[hU]
  by_cases c:n=g
  .rw[Bj c]
   simp!;exact h2 (Bh λz=>z c)
  .rw[Bh c]
   simp!;exact⟨ha,h1 (Bj c)⟩
 have e:((us.map D.int).filter λd=>match d with
  |.int n=>decide (n≠g)
  |_=>false).map id=(mR us g).map D.int:=by
  rw[YI,XP];rfl
 rw[e];have su:Nums ws (mR us g):=λn h=>hu n (Xf.mp h).1;simp!;refine⟨m,ws,mR us g,W,su,.inl ⟨rfl,rfl,?_⟩⟩;have mo:=qo W su;unfold mS at k;generalize eV m ws (mR us g)=fs at mo;have a1:=iY (ns:=fs) (i:=i) (by rw[mo.1];exact hi);have a2:=iY (ns:=fs) (i:=j) (by rw[mo.1];exact hj);simp!;subst hN;simp![aK,a1,a2];rw[hU]
 have:decide (fs.getD i 0=fs.getD j 0)=@decide (aq (bA ws (mR us g)) i j) (q5i _):=by
  by_cases c:fs.getD i 0=fs.getD j 0
  .rw[Bj c,Bj ((mo.2 i j hi hj).mp c)]
  .rw[Bh c,Bh λz=>c ((mo.2 i j hi hj).mpr z)]
 rw[this];exact bg k
end LJ
namespace L2
open PySem PySem.Spec PyProof.Rows PySem.W
section
variable{X:Cx}{pins:ax}{σ:St}{H:Hp}{s:ο}{E:aJ}{l I S:Z}{ts:-Z}{d:ν}{R:Result->ο->Prop}
end
variable[zt:aB]
meta def tupI(k:LK):D:=.tup (k.map D.int)
section
variable{X:Cx}{e:υ}{f:WE}{p1 q1 qt:Ε}
end
end L2
namespace LJ
open PySem L2
variable[zt:aB]
theorem QA{ws:-Wy}{a b}(h:kle (bJ ws a) (bJ ws b)):¬ kY (ae ws b) (ae ws a):=λz=>by
 rw[sT,sT] at h;unfold kY at z;rw[h] at z;cases z
meta def eW(a:Int):Int->-Int->Bool
 |_,[]=>θ
 |b,x::r=>(μ (b<=x)&&μ (x<=a-1))&&eW a (x+1) r
theorem tm{a}:∀{l b},l.Pairwise (· < ·)->(∀x∈l,b<=x/\x<a)->eW a b l=θ
 |[],_,_,_=>Y
 |x::r,b,h,k=>by
  let⟨d,e⟩:=Ya.mp h;let⟨f,g⟩:=k x Vr;unfold eW;rw[tm e λy c=>⟨by let:=d y c;symm,(k y (Bi _ c)).2⟩,Bj f,Bj ⋯];rfl
inductive tq (ys:-DV) (aN:-OV) (K:RV->-OV->Prop):Prop
 |mk (l:-Int) (m:Int) (q:ys=[.p (aK l),.p (.int m)]) (q:aN=[]) (q:K (.p (.bl (eW m 0 l))) [])
def Eg:WS:=(ai (aO (cu (dT (d1 (aa 0) (eM "list")))) (aA (dC (.bl ι))) bQ) (ai (ar 2 (dC (.int 0))) (ai (cD (aY (aa 0)) (aS 3) (ai (aO (cu (dT (aj 3 lJ (ag (aa 3) (ag (aa 2) (ag (d2 (aa 1) (dC (.int 1)) (oI λi j=>.int (i-j))) af)))))) (aA (dC (.bl ι))) bQ) (ar 2 (d2 (aa 3) (dC (.int 1)) cv)))) (aA (dC (.bl θ))))))
theorem QB:Sem 2 2 tq Eg:=by
 ext A r B-⟨l,m,rfl,rfl,k⟩;rw[show aK l=.lst (l.map D.int) from Y];calc aI λN b=>?_;simp![fg,cP,q1X];subst b;calc aI λN b=>?_;simp!;subst b;calc aI λN b=>iz λC E F s f t=>?_;subst s f t;refine hJ (λi g=>∃a:Int,eW m 0 l=eW m a (l.drop i)/\g=⟨[ζ (.p (.lst (l.map D.int))),ζ (.p (.int m)),ζ (.p (.int a)),η],[]⟩) ⟨0,Y,Y⟩ ?_ ?_
 .ext j d g L o c u;let⟨a,e,rfl⟩:11:=c
  rw[KI] at o;let⟨x,v,rfl⟩:=My.mp o;let⟨h,w⟩:=mj.mp v;rw[Yc h,w,show eW m a (x::l.drop (j+1))=((μ (a<=x)&&μ (x<=m-1))&&eW m (x+1) (l.drop (j+1))) from Y] at e;calc⟨trivial,aI λG n=>d4 λH I y z=>?_⟩;simp!;calc⟨.int x,a,m-1,Y,Y,?_⟩;rw[show p_ (.int x) a (m-1)=(μ (a<=x)&&μ (x<=m-1)) from Y]
  cases q:(μ (a<=x)&&μ (x<=m-1)) with
  |true =>
   subst z n;exact u _ ⟨x+1,by rw[e,q];rfl,Y⟩
  |false =>
   subst y;rw[e,q] at k;exact bg k
 .ext g ⟨a,e,rfl⟩
  rw[kF,q1Q] at e;calc⟨trivial,?_⟩;subst b;rw[e] at k;calc bg k
inductive yd (ys:-DV) (aN:-OV) (K:RV->-OV->Prop):Prop
 |mk (m:Int) (ws:-Wy) (us:-Int) (i j:Nat) (q:ak m ws) (q:Nums ws us) (q:↑us<=900) (q:i<m.toNat) (q:j<m.toNat) (q:ys=[.p (az m ws),.p (aK us),.p (.int i),.p (.int j)]) (q:aN=[]) (q:K (.p (aK (j6 ws us i j))) [])
def Eh:WS:=(aA (bX (aY (aa 1)) [η,ζ 0,ζ 1,ζ 2,ζ 3] (aS 0) (dT (aj 5 yb (ag (aa 1) (ag (aa 2) (ag (aa 0) (ag (aa 3) (ag (aa 4) af))))))) (aa 0)))
theorem QC:Sem 4 0 yd Eh:=by
 ext v c w-⟨m,b,a,i,j,W,f,g,h,l,rfl,rfl,k⟩
 refine L2.f_ (λd=>match d with
  |.int n=>mS b a n i j
  |_=>ι) id (by rw[kF];symm) trivial ?_ ?_
 .ext d o p x r s t
  let⟨n,u,rfl⟩:11:=Bk.mp o;simp!;refine⟨m,b,a,n,i,j,W,f,g,h,l,Y,Y,?_⟩
  cases q:mS b a n i j with
  |true=>exact⟨r,s q⟩
  |false=>exact t q
 .let e:((a.map D.int).filter λd=>match d with
   |.int n=>mS b a n i j
   |_=>ι).map id=(j6 b a i j).map D.int:=by
   rw[YI,XP];rfl
  rw[e];calc bg k
theorem QD{a t b K n e}(h:∀A B:aH->Prop,A=b {nx:=λc=>kX a t b K n (a.trim c),ct:=λc=>kX a t b K n (a.trim c),bk:=K.nx,rt:=K.rt}->B=K.nx->t e λf d=>if f=θ then A d else B d):kX a t b K (n+1) e:=h _ _ Y Y
theorem QE n:seqIndex? 0 (n+1)=ζ 0:=by
 unfold seqIndex?;simp
def gK(ws:-Wy)(us:-Int)(n:Int):Wy->Prop:=λv=>bA ws us v/\v≠ae ws n
def isKey(au:-(Key×D))(x:Int):Prop:=(bK au (.inl x)).isSome=θ
structure RI(m:Int)(ws:-Wy)(us:-Int)(i:Int)(au:-(Key×D)):Prop where
 val:∀x d,bK au (.inl x)=ζ d->∃R:-Int,d=aK R/\(0<=x/\x<m)/\aq (bA ws us) i x/\R.Nodup/\(∀n,n∈R↔n∈us/\¬ aq (gK ws us n) i x)/\∀n∈R,isKey au (ae ws n).1/\isKey au (ae ws n).2.1
 one:isKey au i
 nd:(au.map (·.1)).Nodup
 rng:∀k∈au.map (·.1),∃x:Int,k=.inl x/\0<=x/\x<m
theorem Ei{au x}(h:q1p x∈au.map (·.1)):isKey au x:=by
 let⟨a,b,c⟩:=Bk.mp h;unfold isKey bK;rw[q1r];calc List.find?_isSome.mpr ⟨a,b,Bj c⟩
theorem ye{au y}(h:¬ isKey au y) d:putD au (.inl y) d=au++[(.inl y,d)]:=by
 unfold putD;rw[Vq λz=>h (Ei ?_)];let⟨a,b,c⟩:=Zh.mp z;calc Bk.mpr ⟨a,b,Xq c⟩
theorem RI.len{m ws us i au}(h:RI m ws us i au)(d:m<=12):↑au<=12:=by
 let a:↑(au.map (·.1))<=↑((aZ m.toNat).map λx=>(q1p x:Key)):=by
  calc YF h.nd λk b=>?_;let⟨x,rfl,c,e⟩:12:=h.rng k b;exact Bk.mpr ⟨x,aF.mpr ⟨c,⋯⟩,Y⟩
 rw[kF,kF,gj] at a;symm
theorem tr{au y}(h:¬ isKey au y):bK au (.inl y)=η:=by
 unfold isKey at h
 cases q:bK au (.inl y) with
 |none=>rfl
 |some d=>rw[q] at h;calc absurd Y h
theorem gk{au x y d}(h:¬ isKey au y):isKey (putD au (.inl y) d) x↔isKey au x\/x=y:=by
 unfold isKey;rw[xD (tr h)]
 by_cases c:x=y
 .subst c;simp
 .simp[c]
theorem RI.put{m}{ws:-Wy}(W:ak m ws){us}(l:Nums ws us)(v:Indep (bA ws us)){i au}(h:RI m ws us i au){x y n R}(D:bK au (.inl x)=ζ (aK R))(hn:n∈us)(e:((ae ws n).1=x/\(ae ws n).2.1=y)\/((ae ws n).1=y/\(ae ws n).2.1=x))(E:n∉R)(g:¬ isKey au y):RI m ws us i (putD au (.inl y) (aK (R++[n]))):=by
 let⟨K,w,X,L,M,F,G⟩:15:=h.val x _ D
 let w:=by
  let:=DY R K;rw[w,iV] at this;exact Xq this.symm
 subst w;let H:isKey au x:=by unfold isKey;rw[D];rfl
 let t:bA ws us (ae ws n):=⟨n,hn,rfl⟩;let⟨N,O⟩:=l n hn;let Y:=W.ends _ (gi N O)
 let A:∀{S},S (ae ws n)->aq S x y:=λ{S} I=>by
  rcases e with⟨rfl,rfl⟩|⟨rfl,rfl⟩
  .exact .one I
  .exact (aq.one I).symm
 let P:¬ aq (gK ws us n) x y:=λz=>v _ t (by
  rcases e with⟨rfl,rfl⟩|⟨rfl,rfl⟩
  .exact z
  .calc z.symm)
 let Q:=Xo λz=>E ((F n).mpr ⟨hn,z⟩);refine⟨λz d o=>?_,(gk g).mpr (.inl h.one),?_,?_⟩
 .rw[xD (tr g)] at o
  by_cases c:z=y
  .subst c
   rw[W_ rfl] at o;cases o
   refine⟨R++[n],rfl,⋯,L.trans (A t),XT.mpr ⟨M,by simp,λa B b j z=>E (by rw[W7] at j;rw[<-j,<-z];calc B)⟩,λk=>?_,λk f=>?_⟩
   .rw[W9,W7,F]
    by_cases u:k=n
    .subst u
     exact⟨λ_=>⟨hn,λz=>P (Q.symm.trans z)⟩,λ_=>.inr rfl⟩
    .constructor
     .ext (⟨p,C⟩|z)
      .let:gK ws us k (ae ws n):=⟨t,λz=>u (qw W (l k p) (l n hn) z.symm)⟩
       exact⟨p,λz=>C (z.trans (A this).symm)⟩
      .exact absurd z u
     .ext ⟨p,C⟩
      let:gK ws us k (ae ws n):=⟨t,λz=>u (qw W (l k p) (l n hn) z.symm)⟩;exact .inl ⟨p,λz=>C (z.trans (A this))⟩
   .rcases W9.mp f with f|f
    .exact⟨(gk g).mpr (.inl (G k f).1),(gk g).mpr (.inl (G k f).2)⟩
    .obtain rfl:k=n:=W7.mp f
     rcases e with⟨r,s⟩|⟨r,s⟩
     .exact⟨(gk g).mpr (.inl (r▸H)),(gk g).mpr (.inr s)⟩
     .exact⟨(gk g).mpr (.inr r),(gk g).mpr (.inl (s▸H))⟩
  .rw[Vq (λq=>c (by cases q;rfl))] at o
   let⟨S,r,s,T,U,V,J⟩:15:=h.val z d o;exact⟨S,r,s,T,U,V,λk f=>⟨(gk g).mpr (.inl (J k f).1),(gk g).mpr (.inl (J k f).2)⟩⟩
 .rw[ye g,Xj]
  calc XT.mpr ⟨h.nd,by simp,λa B b j z=>g (Ei ?_)⟩;let j:=by simpa using j
  rw[<-j,<-z];exact B
 .ext k f
  rw[ye g,Xj] at f;rcases W9.mp f with f|f
  .exact h.rng k f
  .refine⟨y,by simpa using f,?_⟩
   symm
inductive tu (ys:-DV) (aN:-OV) (K:RV->-OV->Prop):Prop
 |mk (m:Int) (ws:-Wy) (us:-Int) (i j:Nat) (q:ak m ws) (q:Nums ws us) (q:↑us<=900) (q:Indep (bA ws us)) (q:i<m.toNat) (q:j<m.toNat) (q:ys=[.p (az m ws),.p (aK us),.p (.int i),.p (.int j)]) (q:aN=[]) (q:(¬ aq (bA ws us) i j->K (.p .non) [])) (q:∀R:-Int,R.Nodup->(∀n,n∈R↔n∈us/\¬ aq (gK ws us n) i j)->aq (bA ws us) i j->K (.p (aK R)) [])
def yf:WS:=(ai (ar 4 (xC (aa 2) (br af))) (ai (ar 5 (kJ (ag (aa 2) af))) (ai (DK (dT (d2 (aa 5) (br af) hD)) (ai (ar 6 (n6 (aa 5) (ag (dC (.int 0)) af))) (cD (aY (aa 1)) (aS 7) (ai (ar 8 (dQ (d2 (d2 (aa 0) (dC (.int 1)) aE) (aa 7) aE) dP (iy (dC (.int 2))))) (aO (cJ (dT (d2 (aa 6) (aa 8) (dt ι))) (dT (d2 (aa 7) (mP (aa 4) (aa 6)) (dt θ)))) (ai (ar 9 (d2 (d2 (d2 (aa 8) (dC (.int 0)) aE) (d2 (aa 8) (dC (.int 1)) aE) cv) (aa 6) (oI λi j=>.int (i-j)))) (aO (dT (jL θ (aa 9) (aa 4))) (ai (sR (d2 (mP (aa 4) (aa 6)) (br (ag (aa 7) af)) cv) (aa 4) (aa 9)) (jf (fE (aa 5) (ag (aa 9) af)))) bQ)) bQ))))) (aA (xB (aa 4) (aa 3) (dC .non))))))
def QF(ws:-Wy)(us:-Int)(au:-(Key×D))(a:-Int):Prop:=∀x,isKey au x->x∉a->∀n∈us,((ae ws n).1=x->isKey au (ae ws n).2.1)/\((ae ws n).2.1=x->isKey au (ae ws n).1)
theorem QG:Sem 4 6 tu yf:=by
 ext ys aN K'-⟨m,l,v,i,j,W,hu,ul,ind,hi,hj,rfl,rfl,k0,k⟩;let Q:=W.fA;let ri:(0:Int)<=i/\(i:Int)<m:=by symm
 unfold yf;rw[show aK v=.lst (v.map D.int) from rfl];calc aI λN Y=>?_;simp![xC,eO,eu];subst Y;calc aI λN Y=>?_;simp!;subst Y;refine aI λN Y=>?_
 let I0:RI m l v i [(.inl (i:Int),aK [])]:=by
  let v1:∀x:Int,bK [((.inl (i:Int):Key),aK [])] (.inl x)=if x=i then ζ (aK []) else η:=λx=>by
   unfold bK
   by_cases c:x=i
   .subst c;rw[W_ rfl];simp
   .rw[Vq c];simp[show ¬ ((i:Int)=x) fromλz=>c z.symm]
  calc⟨λx d H=>?_,by unfold isKey;rw[v1,W_ rfl];rfl,by simp,λk hk=>⟨i,by simpa using hk,ri⟩⟩;rw[v1] at H;split at H
  .rename_i e
   subst e;cases H
   exact⟨[],rfl,ri,.rf,Zj,(λn=>⟨(λz=>nomatch z),λz=>absurd .rf z.2⟩),λn z=>nomatch z⟩
  .cases H
 let go:∀(C:Nat)(r:-(Key×D))(s:-Int),RI m l v i r->(∀x∈s,isKey r x)->QF l v r s->↑s<=↑r->↑s+12<C+↑r →
   kX ⟨[ζ (.p (az m l)),ζ (.p (.lst (v.map D.int))),ζ (.p (.int i)),ζ (.p (.int j)),ζ (.o 0),ζ (.o 1),η,η,η,η],[ζ (.dct [(.inl (i:Int),aK [])]),ζ (.lst [.int i])]⟩ (dT (d2 (aa 5) (br af) hD)) (ai (ar 6 (n6 (aa 5) (ag (dC (.int 0)) af))) (cD (aY (aa 1)) (aS 7) (ai (ar 8 (dQ (d2 (d2 (aa 0) (dC (.int 1)) aE) (aa 7) aE) dP (iy (dC (.int 2))))) (aO (cJ (dT (d2 (aa 6) (aa 8) (dt ι))) (dT (d2 (aa 7) (mP (aa 4) (aa 6)) (dt θ)))) (ai (ar 9 (d2 (d2 (d2 (aa 8) (dC (.int 0)) aE) (d2 (aa 8) (dC (.int 1)) aE) cv) (aa 6) (oI λi j=>.int (i-j)))) (aO (dT (jL θ (aa 9) (aa 4))) (ai (sR (d2 (mP (aa 4) (aa 6)) (br (ag (aa 7) af)) cv) (aa 4) (aa 9)) (jf (fE (aa 5) (ag (aa 9) af)))) bQ)) bQ)))) {iw 0 K' with nx:=N} C ⟨[ζ (.p (az m l)),ζ (.p (.lst (v.map D.int))),ζ (.p (.int i)),ζ (.p (.int j)),ζ (.o 0),ζ (.o 1),η,η,η,η],[ζ (.dct r),ζ (.lst (s.map D.int))]⟩:=by
  ext C
  induction C with
  |zero=>ext r s I _ _ _ hf;let:=I.len Q;symm
  |succ C ih =>
   ext r s I dk cl hd hf;let kl:=I.len Q;calc QD λA B Z U=>?_;let d0:=ew s;simp!;calc⟨⋯,?_⟩;rw[show(D.lst [])=D.lst (([]:-Int).map D.int) from rfl];erw[aD,sY]
   cases s with
   |nil =>
    rw[Bj rfl];simp!;rw[U];show N _;rw[Y];simp![xB,eO,eu]
    let all:∀{y:Int},aq (bA l v) i y->isKey r y:=λ{y} c=>by
     induction c with
     |rf=>exact I.one
     |st _ a hb =>
      let⟨w,⟨n,hn,rfl⟩,e⟩:=a;let:=cl _ hb (λz=>nomatch z) n hn;rcases e with⟨J,K⟩|⟨J,K⟩
      .exact K▸this.1 J
      .exact J▸this.2 K
    by_cases c:aq (bA l v) i j
    .let hk:=all c
     unfold isKey at hk;let⟨d,hd⟩:=Zy.mp hk;let⟨R,rfl,_,_,rd,rm,_⟩:15:=I.val j d hd;erw[hd];exact⟨[],rfl,rfl,k R rd rm c⟩
    .cases q:bK r (.inl (j:Int)) with
     |none=>exact⟨[],rfl,rfl,k0 c⟩
     |some d=>let⟨R,_,_,cj,_⟩:13:=I.val j d q;exact absurd cj c
   |cons x s =>
    rw[rC] at hd hf;rw[Bh (by simp)];simp!;subst Z;let⟨dx,H⟩:1:=Zy.mp (dk x (.head _));let⟨R,rfl,rx,cx,rd,rm,re⟩:15:=I.val x dx H;calc aI λN2 F=>?_;simp![QE];calc⟨by decide,?_⟩;erw[List.eraseIdx_cons_zero];subst F;calc iz λg' b' K2 hg qx hK=>?_;simp!;subst hg qx hK;let dz:∀R:-Int,bD (R.map D.int)=0:=ew
    refine hJ (λt δ=>∃(b:-(Key×D))(f:-Int),RI m l v i b/\(∀z,isKey r z->isKey b z)/\bK b (.inl x)=ζ (aK R)/\(∀z∈f,isKey b z)/\(∀z,isKey b z->z∉f->z≠x->∀n∈v,((ae l n).1=z->isKey b (ae l n).2.1)/\((ae l n).2.1=z->isKey b (ae l n).1))/\(∀n∈v.take t,((ae l n).1=x->isKey b (ae l n).2.1)/\((ae l n).2.1=x->isKey b (ae l n).1))/\↑f+↑r=↑s+↑b ∧
     δ=⟨[ζ (.p (az m l)),ζ (.p (.lst (v.map D.int))),ζ (.p (.int i)),ζ (.p (.int j)),ζ (.o 0),ζ (.o 1),ζ (.p (.int x)),η,η,η],[ζ (.dct b),ζ (.lst (f.map D.int))]⟩) ?_ ?_ ?_
    .exact (zI2 r s ⟨I,λ_ h=>h,H,λz g=>dk z (.tail _ g),(λz g V zx=>cl z g (λq=>(KN.mp q).elim zx V)),(λn z=>nomatch z),rfl,rfl⟩)
    .ext t d δ L ht mT hL;let⟨b,f,S,M,u,O,P,X,ln,rfl⟩:27:=mT
     rw[KI] at ht;let⟨n,hn,rfl⟩:11:=My.mp ht;let hm:=Xw hn;let et:v.take (t+1)=v.take t++[n]:=by rw[ZI,hn];rfl
     let⟨n0,n1⟩:=hu n hm;let⟨y,ey,hy,ea,_⟩:13:=lK W n0 n1;let ey:ae l n=y:=ey;let ends:=W.ends y hy;let VY:=S.len Q;let⟨R',eR,_,_,_,VZ,Ej⟩:15:=S.val x _ u
     let eR:R=R':=by
      let:=DY R R';rw[eR,iV] at this;exact Xq this.symm
     subst eR;let kx:isKey b x:=by unfold isKey;rw[u];rfl
     calc⟨trivial,?_⟩;erw[aS,XW,XX];let ec:cutD [D.int y.1,D.int y.2.1,D.int y.2.2] η (ζ 2)=[D.int y.1,D.int y.2.1]:=rfl;calc aI λN2 F=>?_;simp![az,cR,ea,bc,ec];subst F
     let G:((ae l n).1=x->isKey b (ae l n).2.1)/\((ae l n).2.1=x->isKey b (ae l n).1)->L ⟨[ζ (.p (az m l)),ζ (.p (.lst (v.map D.int))),ζ (.p (.int i)),ζ (.p (.int j)),ζ (.o 0),ζ (.o 1),ζ (.p (.int x)),η,η,η],[ζ (.dct b),ζ (.lst (f.map D.int))]⟩:=λh=>by
      calc hL _ (zI2 b f ⟨S,M,u,O,P,λz g=>?_,ln,rfl⟩);rw[et] at g;rcases W9.mp g with g|g
      .exact X z g
      .obtain rfl:z=n:=W7.mp g
       exact h
     calc d4 λA1 B1 Z U=>?_;simp![mP,eO,eu];let ia:([D.int y.1,D.int y.2.1].any λe=>aD e (.int x))=μ (x∈[y.1,y.2.1]):=fQ [y.1,y.2.1] x;erw[Zg,q5M,q1y] at ia;rw[ia]
     by_cases T:x∈[y.1,y.2.1]
     .rw[Bj T]
      let T:x=y.1\/x=y.2.1:=by simpa using T
      simp![u,aK];let dy:=dz R;calc⟨⋯,?_⟩;rw[fQ]
      by_cases cr:n∈R
      .rw[Bj cr]
       simp!;subst U;exact G ⟨λ_=>(Ej n cr).2,λ_=>(Ej n cr).1⟩
      .rw[Bh cr]
       simp!;subst Z;calc aI λN2 F=>?_;simp![cQ,cR];subst F
       let⟨o,eo,he⟩:∃o:Int,y.1+y.2.1-x=o/\(((ae l n).1=x/\(ae l n).2.1=o)\/((ae l n).1=o/\(ae l n).2.1=x)):=by
        rw[ey];rcases T with c|c
        .exact⟨y.2.1,⋯,.inl ⟨c.symm,rfl⟩⟩
        .exact⟨y.1,⋯,.inr ⟨rfl,c.symm⟩⟩
       rw[eo]
       let xo:x≠o:=by
        rw[ey] at he;symm
       calc d4 λA1 B1 Z U=>?_;simp![jL,eO,eu]
       by_cases E:isKey b o
       .rw[show(bK b (.inl o)).isSome=θ from E,Vq (by decide)]
        subst U;calc G ?_;rcases he with⟨J,K⟩|⟨J,K⟩
        .exact⟨λ_=>K▸E,λz=>absurd (K.symm.trans z) λz=>xo z.symm⟩
        .exact⟨λz=>absurd (J.symm.trans z) λz=>xo z.symm,λ_=>J▸E⟩
       .rw[tr E,Option.isSome_none,W_ (by decide)]
        subst Z;let I2:=S.put W hu ind u hm he cr E;calc aI λN2 F=>?_;simp![sR,mP,eO,eu,u,aK];calc⟨by let:=(S.val x _ u);let rl:↑R<=v.length:=YF rd (λz g=>((rm z).mp g).1);symm,⋯,?_⟩;subst F;simp!;calc⟨⋯,?_⟩;let:=hL ⟨[ζ (.p (az m l)),ζ (.p (.lst (v.map D.int))),ζ (.p (.int i)),ζ (.p (.int j)),ζ (.o 0),ζ (.o 1),ζ (.p (.int x)),η,η,η],[ζ (.dct (putD b (.inl o) (aK (R++[n])))),ζ (.lst ((f++[o]).map D.int))]⟩ (zI2 _ (f++[o]) ⟨I2,λz g=>(gk E).mpr (.inl (M z g)),?_,?_,?_,?_,?_,rfl⟩)
        .rw[Xj] at this
         unfold aK at this;rw[Xj] at this;exact this
        .rw[xD (tr E),Vq (λq=>xo (by cases q;rfl))];exact u
        .ext z g
         rcases W9.mp g with g|g
         .exact (gk E).mpr (.inl (O z g))
         .exact (gk E).mpr (.inr (W7.mp g))
        .ext z g V zx w hw
         rcases(gk E).mp g with g|rfl
         .let:=P z g (λq=>V (Xv _ q)) zx w hw
          exact⟨λe=>(gk E).mpr (.inl (this.1 e)),λe=>(gk E).mpr (.inl (this.2 e))⟩
         .exact absurd (Vp _ (.head _)) V
        .ext z g
         rw[et] at g;rcases W9.mp g with g|g
         .exact⟨λe=>(gk E).mpr (.inl ((X z g).1 e)),λe=>(gk E).mpr (.inl ((X z g).2 e))⟩
         .obtain rfl:z=n:=W7.mp g
          rcases he with⟨J,K⟩|⟨J,K⟩
          .exact⟨λ_=>(gk E).mpr (.inr K),λq=>absurd (K.symm.trans q) λq=>xo q.symm⟩
          .exact⟨λq=>absurd (J.symm.trans q) λq=>xo q.symm,λ_=>(gk E).mpr (.inr J)⟩
        .rw[ye E,KG,KG,XG,XG];symm
     .rw[Bh T]
      subst U;rw[ey] at G;refine G ⟨λe=>absurd ?_ T,λe=>absurd ?_ T⟩
      .rw[e];exact .head _
      .rw[e];exact .tail _ (.head _)
    .ext δ mU;let⟨b,f,S,M,u,O,P,X,ln,rfl⟩:27:=mU
     rw[kF,Y3] at X;refine⟨trivial,ih b f S O (λz g V w hw=>?_) ⋯ ⋯⟩
     by_cases c:z=x
     .subst c;exact X w hw
     .exact P z g V c w hw
 exact⟨13,go 13 _ [i] I0 (λx H=>by rw[W7.mp H];calc I0.one) (λx H xd=>absurd (by
  let:x=i:=by
   unfold isKey bK at H
   by_cases c:x=i
   .exact c
   .simp[show ¬ (i=x) fromλz=>c z.symm] at H
  rw[this];calc .head _) xd) (by simp) (by simp)⟩
end LJ
namespace LJ
open PySem L2
meta def b1(p:Prop)[Decidable p]:Nat:=if p then 1 else 0
meta def aU(ws:-Wy)(x:Int):-Int->Nat
 |[]=>0
 |n::r=>b1 ((ae ws n).1=x)+b1 ((ae ws n).2.1=x)+aU ws x r
meta def cE(ws:-Wy)(us:-Int):-Int:=us.map (λn=>(ae ws n).1)++us.map λn=>(ae ws n).2.1
theorem Ek{a x:Int}{l}:(a::l).count x=b1 (a=x)+l.count x:=by
 unfold b1
 by_cases c:a=x
 .subst c;rw[List.count_cons_self,W_ Y];symm
 .rw[List.count_cons_of_ne c,Vq c];symm
theorem tw ws x:∀us:-Int,(cE ws us).count x=aU ws x us
 |[]=>Y
 |n::r=>by
  let a:=tw ws x r;unfold cE at a ⊢;rw[List.count_append] at a ⊢;rw[Xm,Xm,Ek,Ek];show _=b1 _+b1 _+aU ws x r;symm
theorem Em{ws x us vs}(p:us.Perm vs):aU ws x us=aU ws x vs:=by
 induction p with
 |nil=>rfl
 |cons a _ c=>show _+_+_=_+_+_;rw[c]
 |swap a b l=>show _+_+(_+_+_)=_+_+(_+_+_);symm
 |trans _ _ d e=>calc d.trans e
theorem yg{ws x vs}:∀us:-Int,aU ws x (us++vs)=aU ws x us+aU ws x vs
 |[]=>by show aU ws x vs=0+_;symm
 |n::r=>by
  show _+_+aU ws x (r++vs)=_+_+aU ws x r+_;rw[yg r];symm
def gm(w:Wy)(a c:Int):Prop:=w.1=a/\w.2.1=c\/w.1=c/\w.2.1=a
inductive fm (ws:-Wy) (us:-Int):Int->-Int->-Int->Int->Prop
 |nil (a:Int):fm ws us a [] [a] a
 |cons {a c b n:Int} {ns vs:-Int}:n∈us->gm (ae ws n) a c->fm ws us c ns vs b->a∉vs->fm ws us a (n::ns) (a::vs) b
section
variable{ws:-Wy}{us ns vs:-Int}{a b c x n:Int}
theorem fm.head(h:fm ws us a ns vs b):a∈vs:=by cases h<;>calc .head _
theorem fm.sub(h:fm ws us a ns vs b):x∈vs->∃d f,fm ws us x d f b:=by
 induction h with
 |nil a=>ext c;rw[W7.mp c];exact(zI2 _ _ (.nil a))
 |cons g e p i j =>
  ext c;rcases KN.mp c with rfl|c
  .exact (zI2 _ _ (.cons g e p i))
  .calc j c
theorem QH(h:aq (bA ws us) b a):∃ns vs,fm ws us a ns vs b:=by
 induction h with
 |rf=>exact(zI2 _ _ (.nil b))
 |st o j l =>
  rename_i c d;let⟨n,i,p⟩:2:=l
  by_cases q:d∈i
  .exact p.sub q
  .let⟨w,⟨k,m,rfl⟩,e⟩:=j
   calc(zI2 _ _ (.cons m ?_ p q));rcases e with⟨f,g⟩|⟨f,g⟩
   .exact .inr ⟨f,g⟩
   .calc .inl ⟨f,g⟩
theorem fm.cnt(h:fm ws us a ns vs b):aU ws x ns+b1 (a=x)+b1 (b=x)=if x∈vs then 2 else 0:=by
 induction h with
 |nil a =>
  show 0+b1 (a=x)+b1 (a=x)=_;unfold b1
  by_cases c:a=x
  .rw[W_ c,W_ (by rw[c];calc .head _)]
  .rw[Vq c,Vq (λz=>c (W7.mp z).symm)]
 |cons j e p i d =>
  rename_i a c b n ns vs
  let k:b1 ((ae ws n).1=x)+b1 ((ae ws n).2.1=x)=b1 (a=x)+b1 (c=x):=by
   rcases e with⟨f,g⟩|⟨f,g⟩<;>rw[f,g]
   symm
  show b1 ((ae ws n).1=x)+b1 ((ae ws n).2.1=x)+aU ws x ns+b1 (a=x)+b1 (b=x)=_
  by_cases q:a=x
  .subst q
   rw[Vq i] at d;rw[W_ (.head _)];let:b1 (a=a)=1:=W_ Y;symm
  .let:b1 (a=x)=0:=Vq q
   by_cases r:x∈vs
   .rw[W_ r] at d
    rw[W_ (Bi _ r)];symm
   .rw[Vq r] at d
    rw[Vq (λz=>(KN.mp z).elim (λz=>q z.symm) r)];symm
theorem fm.ends(h:fm ws us a ns vs b):∀n∈ns,n∈us/\(ae ws n).1∈vs/\(ae ws n).2.1∈vs:=by
 induction h with
 |nil a=>ext n h;cases h
 |cons d e p q j =>
  ext k c;rcases KN.mp c with rfl|c
  .let f:=p.head
   rcases e with⟨g,i⟩|⟨g,i⟩<;>rw[g,i]
   .exact⟨d,.head _,Bi _ f⟩
   .exact⟨d,Bi _ f,.head _⟩
  .let⟨l,m,o⟩:02:=j k c
   calc⟨l,Bi _ m,Bi _ o⟩
theorem fm.nodup(h:fm ws us a ns vs b):ns.Nodup:=by
 induction h with
 |nil a=>exact Zj
 |cons k e p c d =>
  calc XU.mpr ⟨λz=>c ?_,d⟩;let⟨_,f,g⟩:02:=p.ends _ z;rcases e with⟨i,_⟩|⟨_,j⟩
  .rw[<-i];exact f
  .rw[<-j];calc g
theorem gm.conn{S w}(h:gm w a c)(b:S w):aq S a c:=by
 rcases h with⟨rfl,rfl⟩|⟨rfl,rfl⟩
 .exact .one b
 .calc (aq.one b).symm
theorem fm.conn{S}(h:fm ws us a ns vs b):(∀k∈ns,S (ae ws k))->aq S a b:=by
 induction h with
 |nil a=>exactλ_=>.rf
 |cons f e p g c=>calcλk=>(e.conn (k _ (.head _))).trans (c λj d=>k j (Bi _ d))
theorem fm.split{S}(h:fm ws us a ns vs b):ns.Nodup->n∈ns->(∀k∈ns,k≠n->S (ae ws k))->∃u v,gm (ae ws n) u v/\aq S a u/\aq S v b:=by
 induction h with
 |nil a=>ext _ h;cases h
 |cons t e p w i =>
  rename_i a c b k ns vs;ext f l g;let⟨m,f⟩:=XU.mp f
  by_cases q:n=k
  .subst q
   exact⟨a,c,e,.rf,p.conn λj d=>g j (Bi _ d) λz=>m (z▸d)⟩
  .let⟨u,v,o,r,s⟩:22:=i f ((KN.mp l).resolve_left q) λj d=>g j (Bi _ d)
   calc⟨u,v,o,(e.conn (g k (.head _) λz=>q z.symm)).trans r,s⟩
theorem QI[aB]{m}(W:ak m ws)(i:Nums ws us)(g:Indep (bA ws us))(r:aq (bA ws us) a b){R:-Int}(s:R.Nodup)(t:∀n,n∈R↔n∈us/\¬ aq (gK ws us n) a b):
  ∃ns vs,fm ws us a ns vs b/\R.Perm ns:=by
 let⟨j,w,p⟩:2:=QH r.symm;calc⟨j,w,p,(q1g s p.nodup).mpr λn=>?_⟩;let S:∀k∈j,k≠n->n∈us->gK ws us n (ae ws k):=λk d q f=>⟨⟨k,(p.ends k d).1,Y⟩,λz=>q (qw W (i k (p.ends k d).1) (i n f) z)⟩;rw[t]
 constructor
 .ext ⟨f,h⟩
  exact Xo λz=>h (p.conn λk d=>S k d (λq=>z (q▸d)) f)
 .ext h
  let f:=(p.ends n h).1;calc⟨f,λz=>?_⟩;let⟨u,v,e,x,y⟩:22:=p.split  p.nodup h λk d q=>S k d q f;calc g _ ⟨n,f,Y⟩ ?_;let c:=(x.symm.trans z).trans y.symm;rcases e with⟨l,o⟩|⟨l,o⟩<;>rw[l,o]
  .exact c
  .calc c.symm
meta def dS(ws:-Wy)(C:Int->Bool):-Int->Nat
 |[]=>0
 |n::r=>b1 (C (ae ws n).1=θ)+b1 (C (ae ws n).2.1=θ)+dS ws C r
meta def cS(C:Int->Bool)(f:Int->Nat):-Int->Nat
 |[]=>0
 |x::r=>(if C x=θ then f x else 0)+cS C f r
theorem yh{C f g}:∀V:-Int,cS C (λx=>f x+g x) V=cS C f V+cS C g V
 |[]=>Y
 |x::r=>by
  show(if C x=θ then f x+g x else 0)+cS C (λx=>f x+g x) r=(if C x=θ then f x else 0)+cS C f r+((if C x=θ then g x else 0)+cS C g r);rw[yh r];split<;>symm
theorem yi{C f}:∀V:-Int,(∀x∈V,f x=0)->cS C f V=0
 |[],_=>Y
 |x::r,h=>by
  show(if C x=θ then f x else 0)+cS C f r=0;rw[yi r λy a=>h y (Bi _ a),h x (.head _)];split<;>rfl
theorem yj{C y}:∀V:-Int,V.Nodup->y∈V->cS C (λx=>b1 (y=x)) V=b1 (C y=θ)
 |[],_,h=>nomatch h
 |x::r,a,h=>by
  let⟨b,c⟩:=XU.mp a;show(if C x=θ then b1 (y=x) else 0)+cS C (λx=>b1 (y=x)) r=_
  by_cases q:y=x
  .subst q
   rw[yi (f:=λx=>b1 (y=x)) r λz d=>(Vq (λ(e:y=z)=>b (e▸d))),show b1 (y=y)=1 from W_ Y];rfl
  .rw[yj r c ((KN.mp h).resolve_left q),show b1 (y=x)=0 from Vq q]
   split<;>symm
theorem yk{C V}(a:V.Nodup):∀us:-Int,(∀n∈us,(ae ws n).1∈V/\(ae ws n).2.1∈V)->dS ws C us=cS C (λx=>aU ws x us) V
 |[],_=>(yi V λ_ _=>Y).symm
 |n::r,h=>by
  let⟨b,c⟩:=h n (.head _);show b1 _+b1 _+dS ws C r=cS C (λx=>b1 ((ae ws n).1=x)+b1 ((ae ws n).2.1=x)+aU ws x r) V;rw[yh ,yh,yj V a b,yj V a c,yk a r λk d=>h k (Bi _ d)]
theorem En{C:Int->Bool}{f}:∀V:-Int,(∀x∈V,f x%2=0)->cS C f V%2=0
 |[],_=>Y
 |x::r,h=>by
  let b:=h x (.head _);let c:=En (C:=C) r λy a=>h y (Bi _ a);show((if C x=θ then f x else 0)+cS C f r)%2=0;split<;>symm
theorem Eo{C g}:∀us:-Int,us.Nodup->g∈us->(∀n∈us,n≠g->C (ae ws n).1=C (ae ws n).2.1)->dS ws C us%2=(b1 (C (ae ws g).1=θ)+b1 (C (ae ws g).2.1=θ))%2
 |[],_,h,_=>nomatch h
 |n::r,d,h,k=>by
  let⟨e,f⟩:=XU.mp d
  let i:∀a ,(∀n∈a,C (ae ws n).1=C (ae ws n).2.1)->dS ws C a%2=0:=by
   ext a
   induction a with
   |nil=>ext _;rfl
   |cons x r j =>
    ext c;let m:=j λy l=>c y (Bi _ l);show(b1 _+b1 _+dS ws C r)%2=0;rw[c x (.head _)];symm
  show(b1 _+b1 _+dS ws C r)%2=_
  by_cases q:g=n
  .subst q
   let:=i r λx b=>k x (Bi _ b) λz=>e (z▸b);symm
  .let m:=Eo r f ((KN.mp h).resolve_left q) λx b=>k x (Bi _ b)
   rw[k n (.head _) λz=>q z.symm];symm
open Classical in
theorem QJ [aB] {m:Int} (W:ak m ws) (hu:Nums ws us) (nd:us.Nodup) (ev:∀x,aU ws x us%2=0) {g:Int} (hg:g∈us):aq (gK ws us g) (ae ws g).1 (ae ws g).2.1:=by
 refine Xo λnc=>?_
 have rA:∀n∈us,(ae ws n).1∈aZ m.toNat/\(ae ws n).2.1∈aZ m.toNat:=λn hn=>by
  have:=W.ends _ (gi (hu n hn).1 (hu n hn).2);exact⟨aF.mpr ⋯,aF.mpr ⋯⟩
 have e1:=yk (C:=λx=>decide (aq (gK ws us g) (ae ws g).1 x)) (qf m.toNat) us rA;have e2:=En (C:=λx=>decide (aq (gK ws us g) (ae ws g).1 x)) (f:=λx=>aU ws x us) (aZ m.toNat) λx _=>ev x
 have e3:=Eo (C:=λx=>decide (aq (gK ws us g) (ae ws g).1 x)) us nd hg λn hn q=>by
  have s:gK ws us g (ae ws n):=⟨⟨n,hn,rfl⟩,λz=>q (qw W (hu n hn) (hu g hg) z)⟩;exact q1R.mpr ⟨λh=>h.trans (.one s),λh=>h.trans (aq.one s).symm⟩
 rw[e1,e2,Bj (aq.rf),Bh nc] at e3;cases e3
end
end LJ
namespace L2
open PySem PySem.Spec PyProof.Rows
variable[zt:aB]
def Ep:-D->(D->Prop)->Prop:=λb K=>∃a:-Int,b=[.lst (a.map D.int)]/\↑a<=40/\K (.int ↑(gb a))
section
variable{X:Cx}{fa:WA}
theorem QK{a r c s d}(t:X.calm=θ)(P:X.A.units+64<cLine)(e:Gl X "len")(u:X.mg "len" = η)(f:bootBuiltins "len" = ζ (.builtin "len"))(g:Gl X "set")(x:X.mg "set" = η)(h:bootBuiltins "set" = ζ (.type "set"))(y:JA X [a] (bM fa))
  (he:‹starEach [a] X.env=[(ι,eval a X.env)]›) (z:‹starEach [.Call (.Name "set" c) [a] [] d] X.env=[(ι,eval (.Call (.Name "set" c) [a] [] d) X.env)]›):JE X (.Call (.Name "len" r) [.Call (.Name "set" c) [a] [] d] [] s) (tD (dN fa Ep)) :=
 (l9 Oe e u f (g0 (kE (C_ t) g x h y (he:=he)) a_)).weak λR H Q ⟨F,B,C,K,S,q,k⟩=>⟨F,B,C,_,S,q,λT D E G U I m J i L=>by
  let⟨V,⟨b,rfl,j,M⟩,l⟩:11:=mw i L E;let⟨v,rfl,a,G,rfl,n,N⟩:1122:=f9 l;rw[jZ N] at n;calc(zI2 a b ⟨Y,bf.of n,j,λp O=>(zI2 p (gb b) ⟨Y,bj,by let:=wH b;symm,?_⟩)⟩);let o:ay m (upd m p (mK (LJS.gs X.w) p (gb b))):=b_ O
  calc k _ _ M _ _ _ _ (J.trans (Ext.al i o)) (i.al o) Y⟩
end
theorem QL{ns}:↑(gb ns)=1↔ns≠[]/\∀x∈ns,∀y∈ns,x=y:=by
 let c:∀x,x∈gb ns↔x∈ns:=λx=>by
  let:=LJS.um ns x ns.length (vr _);rw[Y3] at this;exact this
 let d:∀i,(LJS.gr ns i).Nodup:=by
  ext i
  induction i with
  |zero=>exact Zj
  |succ i j =>
   show(LJS.once (LJS.gr ns i) _).Nodup;unfold LJS.once;split
   .exact j
   .rename_i h
    exact XT.mpr ⟨j,by simp,λa m b k z=>h (by rw[W7] at k;rw[<-k,<-z];calc m)⟩
 let d:(gb ns).Nodup:=d _;generalize gb ns=l at c d
 constructor
 .ext h
  match l,h with
  |[z],_ =>
   let f:=λx g=>W7.mp ((c x).mpr g);calc⟨λe=>?_,λx g y n=>(f x g).trans (f y n).symm⟩;let:=(c z).mp (.head _);rw[e] at this;cases this
 .ext ⟨o,p⟩
  match l,d,c with
  |[],_,c =>
   cases ns with
   |nil=>exact absurd Y o
   |cons x r=>exact nomatch (c x).mpr (.head _)
  |[z],_,_=>rfl
  |y::z::r,d,c =>
   let:=p y ((c y).mp (.head _)) z ((c z).mp (.tail _ (.head _)));calc absurd (this▸.head _) (XU.mp d).1
end L2
namespace LJ
open PySem L2
variable[zt:aB]
inductive ym (ys:-DV) (aN:-OV) (K:RV->-OV->Prop):Prop
 |mk (m:Int) (ws:-Wy) (us:-Int) (q:ak m ws) (q:Nums ws us) (q:↑us<=400) (q:ys=[.p (az m ws),.p (aK us)]) (q:aN=[]) (q:K (.p (aK (cE ws us))) [])
def Er:WS:=(aA (d2 (bX (aY (aa 1)) [η,ζ 0] (aS 0) bY (d2 (d2 (d2 (aa 1) (dC (.int 1)) aE) (aa 0) aE) (dC (.int 0)) aE)) (bX (aY (aa 1)) [η,ζ 0] (aS 0) bY (d2 (d2 (d2 (aa 1) (dC (.int 1)) aE) (aa 0) aE) (dC (.int 1)) aE)) cv))
theorem lQ{ws n}(h:0<=n/\n<(↑ws:Int)):eD (ws.map bc) n=ζ (bc (ae ws n)):=by
 let⟨i,rfl⟩:∃i:Nat,n=i:=⟨n.toNat,⋯⟩;let a:i<↑ws:=by symm
 calc iG ?_;rw[KI,mf a];unfold ae;rw[Xn,o8,mf a];rfl
theorem QM:Sem 2 0 ym Er:=by
 ext o l p-⟨m,a,b,W,j,q,rfl,rfl,k⟩
 refine L2.gT (λd=>match d with
  |.int n=>.int (ae a n).1
  |_=>.non) (by rw[kF];symm) trivial ?_ ?_
 .ext d c f L g h
  let⟨n,i,rfl⟩:=Bk.mp c;simp![az,cR,lQ (j n i),bc,cQ];exact⟨g,h⟩
 refine L2.gT (λd=>match d with
  |.int n=>.int (ae a n).2.1
  |_=>.non) (by rw[kF];symm) trivial ?_ ?_
 .ext d c f L g h
  let⟨n,i,rfl⟩:=Bk.mp c;simp![az,cR,lQ (j n i),bc];exact⟨g,h⟩
 simp!;refine⟨⋯,?_⟩
 let e:(b.map D.int).map (λd=>match d with
  |.int n=>D.int (ae a n).1
  |_=>.non)++(b.map D.int).map (λd=>match d with
  |.int n=>D.int (ae a n).2.1
  |_=>.non)=(cE a b).map D.int:=by
  unfold cE;rw[Xd,Xd,Xj,Xd,Xd];rfl
 rw[e];calc bg k
structure cw(ws:-Wy)(us:-Int):Prop where
 two:∀x∈cE ws us,aU ws x us=2
 some:cE ws us≠[]
 k6:∀x∈cE ws us,∀y∈cE ws us,aq (bA ws us) x y
inductive yn (ys:-DV) (aN:-OV) (K:RV->-OV->Prop):Prop
 |mk (m:Int) (ws:-Wy) (us:-Int) (q:ak m ws) (q:Nums ws us) (q:↑us<=20) (q:ys=[.p (az m ws),.p (aK us)]) (q:aN=[]) (q:(cw ws us->K (.p (.bl θ)) [])) (q:(¬ cw ws us->K (.p (.bl ι)) []))
def Es:WS:=(ai (ar 2 (aj 2 ym (ag (aa 0) (ag (aa 1) af)))) (ai (aO (cu (dT (dN (ag (bX (aY (aa 2)) [η,ζ 2] (aS 0) bY (d2 (kQ (aa 1) (ag (aa 0) af) cf) (dC (.int 2)) oEq)) af) jI))) (aA (dC (.bl ι))) bQ) (ai (ar 3 (aj 2 n9 (ag (aa 0) (ag (aa 1) af)))) (aA (d2 (dN (ag (bX (aY (aa 2)) [η,ζ 3] (aS 0) bY (d2 (aa 1) (aa 0) aE)) af) Ep) (dC (.int 1)) oEq)))))
theorem QN(l:-Int) x:(l.map D.int).countP (λe=>aD e (.int x))=l.count x:=by
 rw[q3U];calc q27 λy _=>by show aD (.int y) (.int x)=θ↔(y==x)=θ;rw[hU];simp
theorem QO:Sem 2 2 yn Es:=by
 ext Q J R-⟨m,c,f,W,q,S,rfl,rfl,K,I⟩;let T:↑(cE c f)<=40:=by unfold cE;rw[KG,kF,kF];symm
 calc aI λN s=>?_;simp!;calc⟨m,c,f,W,q,⋯,Y,Y,?_⟩;subst s;calc aI λN s=>d4 λU V M O=>?_;rw[show aK (cE c f)=.lst ((cE c f).map D.int) from Y]
 refine L2.gT (λd=>match d with
  |.int x=>.bl (μ (aU c x f=2))
  |_=>.non) (by rw[kF];symm) trivial ?_ ?_
 .ext d C E L l h
  let⟨x,g,rfl⟩:=Bk.mp C;simp![kQ,cf];calc⟨Y,⟨Y,Ee _⟩,?_⟩;rw[QN,tw,hU,show μ ((aU c x f:Int)=2)=μ (aU c x f=2) from q1R.mpr ⟨λz=>by symm,λz=>by symm⟩];exact⟨l,h⟩
 rw[show((cE c f).map D.int).map (λd=>match d with
  |.int x=>D.bl (μ (aU c x f=2))
  |_=>.non)=((cE c f).map λx=>μ (aU c x f=2)).map D.bl by rw[Xd,Xd];rfl]
 simp![wu]
 by_cases A:∀x∈cE c f,aU c x f=2
 .rw[XS.mpr λb B=>by let⟨x,g,rfl⟩:=Bk.mp B;calc Bj (A x g)]
  subst O;show N _;subst s;calc aI λN s=>?_;simp!;calc⟨m,c,f,W,q,.inl ⟨Y,Y,?_⟩⟩;let F:=qo W q;generalize eV m c f=k at F;rw[show aK k=.lst (k.map D.int) from Y];subst s
  let G:∀x∈cE c f,∃i:Nat,x=i/\i<m.toNat:=λx g=>by
   let:∃n∈f,(ae c n).1=x\/(ae c n).2.1=x:=by
    rcases W9.mp g with h|h
    .let⟨n,o,e⟩:=Bk.mp h
     exact⟨n,o,.inl e⟩
    .let⟨n,o,e⟩:=Bk.mp h
     exact⟨n,o,.inr e⟩
   let⟨n,o,e⟩:=this;let:=W.ends _ (gi (q n o).1 (q n o).2);exact⟨x.toNat,⋯,⋯⟩
  refine L2.gT (λd=>match d with
   |.int x=>.int (k.getD x.toNat 0)
   |_=>.non) (by rw[kF];symm) trivial ?_ ?_
  .ext d C E L l h
   let⟨x,g,rfl⟩:=Bk.mp C;let⟨i,rfl,H⟩:=G x g;simp![iY   (by rw[F.1];calc H)];exact⟨l,h⟩
  rw[show((cE c f).map D.int).map (λd=>match d with
   |.int x=>D.int (k.getD x.toNat 0)
   |_=>.non)=((cE c f).map λx=>k.getD x.toNat 0).map D.int by rw[Xd,Xd];rfl]
  calc⟨(cE c f).map λx=>k.getD x.toNat 0,Y,by rw[kF];symm,?_⟩;simp!;rw[hU,show μ ((↑(gb ((cE c f).map λx=>k.getD x.toNat 0)):Int)=1)=μ (↑(gb ((cE c f).map λx=>k.getD x.toNat 0))=1) from q1R.mpr ⟨λz=>by symm,λz=>by symm⟩]
  let t:↑(gb ((cE c f).map λx=>k.getD x.toNat 0))=1↔cw c f:=by
   rw[QL]
   let u:∀x∈cE c f,∀y∈cE c f,(k.getD x.toNat 0=k.getD y.toNat 0↔aq (bA c f) x y):=λx g y p=>by
    let⟨i,rfl,H⟩:=G x g;let⟨j,rfl,P⟩:=G y p;exact F.2 i j H P
   constructor
   .ext ⟨v,w⟩
    exact⟨A,λz=>v (by rw[z];rfl),λx g y p=>(u x g y p).mp (w _ (X0 g) _ (X0 p))⟩
   .ext ⟨_,v,w⟩
    calc⟨λz=>v (q0X.mp z),λx g y p=>?_⟩;let⟨a,l,rfl⟩:=Bk.mp g;let⟨b,B,rfl⟩:=Bk.mp p;exact(u a l b B).mpr (w a l b B)
  by_cases r:cw c f
  .rw[Bj (t.mpr r)]
   exact bg (K r)
  .rw[Bh λz=>r (t.mp z)]
   exact bg (I r)
 .rw[List.all_eq_false.mpr (by
   let⟨x,g⟩:=q66.mp A;let⟨v,w⟩:=q70.mp g
   calc⟨_,X0 v,by rw[Bh w];decide⟩)]
  subst M;calc bg (I λr=>A r.two)
section
variable{m:Int}{ws:-Wy}{us:-Int}
theorem iC{x}:aU ws x us≠0↔x∈cE ws us:=by
 rw[<-tw];calc⟨λh=>q1h.mp ⋯,λh=>by let:=q1h.mpr h;symm⟩
theorem cw.out(W:ak m ws)(a:Nums ws us)(i:us.Nodup)(r:cw ws us){g}(j:g∈us)(b:∀e∈us,kle (bJ ws e) (bJ ws g)):¬ iB ws (ae ws g):=λh=>by
 refine h.2 ((QJ W a i (λx=>?_) j).mono λv l=>?_)
 .by_cases c:x∈cE ws us
  .rw[r.two x c]
  .let:=Xo λz=>c (iC.mp z)
   rw[this]
 .let⟨⟨k,d,rfl⟩,n⟩:=l
  let f:=gi (a k d).1 (a k d).2;calc⟨f,?_⟩;rcases x_ W f h.1 n with z|z
  .exact z
  .calc absurd z (QA (b k d))
theorem fm.k6{ns vs a b x S}(h:fm ws us a ns vs b):(∀k∈ns,S (ae ws k))->x∈vs->aq S a x:=by
 induction h with
 |nil a=>ext _ c;rw[W7.mp c];exact .rf
 |cons i e p l f =>
  ext d c;rcases KN.mp c with rfl|c
  .exact .rf
  .calc (e.conn (d _ (.head _))).trans (f (λj g=>d j (Bi _ g)) c)
theorem QP(W:ak m ws)(i:Nums ws us)(b:Indep (bA ws us)){n}(j:aq (bA ws us) (ae ws n).1 (ae ws n).2.1){R S}(l:R.Nodup)(o:∀k,k∈R↔k∈us/\¬ aq (gK ws us k) (ae ws n).1 (ae ws n).2.1)(c:S.Perm (R++[n])):cw ws S:=by
 let⟨s,d,p,e⟩:21:=QI W i b j l o
 let f:∀x,aU ws x S=if x∈d then 2 else 0:=λx=>by
  rw[Em c,yg,Em e,<-p.cnt];show _+(b1 _+b1 _+0)=_;symm
 let g:∀x∈cE ws S,x∈d:=λx a=>Xo λz=>by
  let:=iC.mpr a;rw[f,Vq z] at this;exact this Y
 let h:∀x∈cE ws S,aq (bA ws S) (ae ws n).1 x:=λx a=>p.k6 (λk q=>⟨k,c.mem_iff.mpr (Xv _ (e.mem_iff.mpr q)),Y⟩) (g x a);calc⟨λx a=>by rw[f,W_ (g x a)],λz=>?_,λx a y r=>(h x a).symm.trans (h y r)⟩;let:(ae ws n).1∈cE ws S:=Xv _ (X0 (c.mem_iff.mpr (Vp _ (.head _))));rw[z] at this;cases this
end
end LJ
namespace L2
open PySem PySem.Spec PyProof.Rows
section
variable{X:Cx}
theorem any_range(c:-Bool):(Xz ↑c).any (λi=>c.getD i θ)=c.any id:=by
 rw[ZS,Zh,Zh]
 constructor
 .ext ⟨i,a,h⟩
  let d:=Xr.mp a;rw[o8,mf d] at h;exact⟨_,Yk d,h⟩
 .ext ⟨b,e,h⟩
  let⟨i,a⟩:=Vt.mp e;calc⟨i,Xr.mpr (mj.mp a).1,by rw[o8,a];calc h⟩
theorem QQ(j:X.calm=θ):fc X (.builtin "any") (λxs H Q=>∃(l:Z)(c:-Bool),xs=[.ref l]/\bf X.K H l (c.map V.bl)/\Q (.bl (c.any id)) H):=by
 ext g s D H C E Q I r h;let⟨l,c,rfl,k,q⟩:22:=h;let⟨u,rfl,m⟩:=vals1 r;cases m
 let⟨n,p,t,_⟩:12:=I.list k;obtain rfl:=vN p;let f:=t.isList;let w:l<⇑s:=by let⟨o,e,_⟩:=f;exact Vo e
 refine call_any_walk (YW f ((zI7 ⇑s _ _ _ _ _ (λi=>c.getD i θ) ⟨Y,ZZ (by calc I.ok.hd j) ⇑s l (W8 w) _,⟨⟨_,Vs _ Y,Y,Y⟩,f.push _⟩,λi v x y F d a=>?_,λG J A=>?_⟩)))
 .let d:(c.map Zv).toArray[i]?=ζ v:=d
  let a:y (c.getD i θ) x:=a;rw[Zn,KI] at d;let⟨b,B,rfl⟩:=My.mp d;rw[o8,B] at a;exact Yu a
 .refine⟨.bl (c.any id),H,I.kept  λb o e=>A b o (λz=>?_) (mi _ e),?_,q⟩
  .let:=Vo e
   rw[W7.mp z] at this;exact Zf _ this
  .show Zv _=Zv _
   rw[KJ,kF,any_range]
end
section
variable[zt:aB]{X:Cx}
def mV:-D->(D->Prop)->Prop:=λb K=>∃a:-Bool,b=[.lst (a.map D.bl)]/\K (.bl (a.any id))
theorem QR(d:X.calm=θ):cG X (.builtin "any") mV:=by
 ext b s f H m g Q I r ⟨F,n,K,h,i,q,j⟩;let⟨k,rfl,q⟩:=q;let⟨v,rfl,a,o,rfl,c,l⟩:1122:=f9 i;rw[wx l] at c;calc QQ d b s f H _ g Q I r (zI2 a k ⟨Y,bf.of c,j _ _ _ q (λ_ _ e=>e) Y⟩)
end
end L2
namespace LJ
open PySem L2
variable[zt:aB]
structure bz(ws:-Wy)(ps qs:-Int):Prop where
 pn:Nums ws ps
 qn:Nums ws qs
 nd:(ps++qs).Nodup
 tree:∀n∈ps,iB ws (ae ws n)
 out:∀n∈qs,¬ iB ws (ae ws n)
structure dg(m:Int)(ws:-Wy)(ps qs l:-Int)(n:Int):Prop where
 rise:eW m 0 l=θ
 free:∀k∈ps,cV l (ae ws k)=ι
 num:0<=n/\n<(↑ws:Int)
 lead:cV l (ae ws n)=θ
 nq:n∉qs
 low:∀e∈eA ws l,e∉qs->kle (bJ ws n) (bJ ws e)
meta def jO:Option Int->D
 |none=>.non
 |some n=>.int n
theorem j7{P:Int->Prop}(h:∀n,¬ P n):∀n,η=ζ n↔P n:=λn=>⟨(λz=>nomatch z),λz=>absurd z (h n)⟩
theorem tE{P:Int->Prop}{x}(h:P x)(a:∀n,P n->n=x):∀n,ζ x=ζ n↔P n:=λn=>⟨λz=>by cases z;calc h,λz=>by rw[a n z]⟩
theorem dg.one{m}{ws:-Wy}{ps b l n k}(W:ak m ws)(C:dg m ws ps b l n)(a:dg m ws ps b l k):n=k :=
 sP W C.num a.num (pY (C.low k (bh.mpr ⟨a.num,a.lead⟩) a.nq) (a.low n (bh.mpr ⟨C.num,C.lead⟩) C.nq))
inductive yo (ys:-DV) (aN:-OV) (K:RV->-OV->Prop):Prop
 |mk (m:Int) (ws:-Wy) (ps qs l:-Int) (q:ak m ws) (q:Nums ws ps) (q:ys=[.p (az m ws),.o 0,.o 1,.p (aK l)]) (q:aN=[.lst (ps.map D.int),.lst (qs.map D.int)]) (q:∀r,(∀n,r=ζ n↔dg m ws ps qs l n)->K (.p (jO r)) aN)
def Et:WS:=(ai (aO (cu (dT (aj 2 tq (ag (aa 3) (ag (d2 (aa 0) (dC (.int 0)) aE) af))))) (aA (dC .non)) bQ) (ai (ar 4 (aj 2 xX (ag (aa 0) (ag (aa 3) af)))) (ai (aO (dT (dN (ag (bX (aY (aa 4)) [η,ζ 1] (aS 0) bY (d2 (aa 0) (aa 1) (dt ι))) af) mV)) (aA (dC .non)) bQ) (aA (aj 2 xY (ag (aa 0) (ag (bX (aY (aa 4)) [η,ζ 2] (aS 0) (dT (d2 (aa 0) (aa 1) (dt θ))) (aa 0)) af)))))))
theorem QS:Sem 4 1 yo Et:=by
 ext Q F R-⟨m,a,f,c,l,W,G,rfl,rfl,k⟩;let S:=ew f;let T:=ew c;calc aI λN i=>?_;simp![az,cQ];refine⟨l,m,Y,Y,?_⟩
 cases s:eW m 0 l with
 |false =>
  exact⟨_,Y,Y,k η (j7 λn C=>by rw[C.rise] at s;cases s)⟩
 |true =>
 simp!;subst i;calc aI λN i=>?_;simp!;calc⟨m,a,l,W,Y,Y,?_⟩;let p:∀e∈eA a l,(0<=e/\e<↑a)/\cV l (ae a e)=θ:=λe t=>bh.mp t
 let U:↑(eA a l)<=30:=by
  calc XQ (Yi _ _) ?_;rw[gj];exact W.h_
 subst i
 refine aI λN i=>d4 λV X H I=>L2.gT (λd=>match d with
  |.int x=>.bl (μ (x∈f))
  |_=>.non) (by rw[kF];symm) trivial ?_ ?_
 .ext d u v L w h
  let⟨x,g,rfl⟩:=Bk.mp u;simp!;calc⟨⋯,?_⟩;rw[fQ];exact⟨w,h⟩
 rw[show((eA a l).map D.int).map (λd=>match d with
  |.int x=>D.bl (μ (x∈f))
  |_=>.non)=((eA a l).map λx=>μ (x∈f)).map D.bl by rw[Xd,Xd];rfl]
 refine⟨_,Y,?_⟩
 cases y:((eA a l).map λx=>μ (x∈f)).any id with
 |true =>
  let⟨b,J,e⟩:=Zh.mp y;let⟨x,g,rfl⟩:11:=Bk.mp J;subst H;calc⟨_,Y,Y,k η (j7 λn C=>?_)⟩;let:=(p x g).2;rw[C.free x (Xq e)] at this;cases this
 |false =>
 let j:∀k∈f,cV l (ae a k)=ι:=λk A=>by
  cases q:cV l (ae a k) with
  |false=>rfl
  |true=>exact absurd (Bj A) (Y8.mp y _ (X0 (bh.mpr ⟨G k A,q⟩)))
 subst I i;simp!
 refine L2.f_ (λd=>match d with
  |.int x=>μ (x∉c)
  |_=>ι) id (by rw[kF];symm) trivial ?_ ?_
 .ext d u v L w K M
  let⟨x,g,rfl⟩:=Bk.mp u;simp!;calc⟨⋯,?_⟩;rw[fQ]
  by_cases q:x∈c
  .rw[Bj q]
   exact M (Bh λz=>z q)
  .rw[Bh q]
   exact⟨w,K (Bj q)⟩
 let e:(((eA a l).map D.int).filter λd=>match d with
  |.int x=>μ (x∉c)
  |_=>ι).map id=((eA a l).filter λx=>μ (x∉c)).map D.int:=by
  rw[YI,XP];rfl
 rw[e];let r:∀x,x∈(eA a l).filter (λx=>μ (x∉c))↔x∈eA a l/\x∉c:=λx=>by rw[Xf,Yg]
 refine⟨m,a,(eA a l).filter λx=>μ (x∉c),W,λx g=>(p x ((r x).mp g).1).1,Y,Y,λz=>?_,λx g o=>?_⟩
 .refine⟨_,Y,Y,k η (j7 λn C=>?_)⟩
  let B:=(r n).mpr ⟨bh.mpr ⟨C.num,C.lead⟩,C.nq⟩;rw[z] at B;cases B
 .let⟨E,O⟩:=(r x).mp g
  let C:dg m a f c l x:=⟨s,j,(p x E).1,(p x E).2,O,λe t z=>o e ((r e).mpr ⟨t,z⟩)⟩;calc⟨_,Y,Y,k (ζ x) (tE C λn P=>P.one W C)⟩
structure bG(ws:-Wy)(ps qs us:-Int)(n:Int):Prop where
 rise:eW ↑ws 0 us=θ
 ring:cw ws us
 free:∀k∈us,k∉qs
 mem:n∈us
 np:n∉ps
 top:∀e∈us,e∉ps->kle (bJ ws e) (bJ ws n)
theorem qy{a}:∀{l c},eW a c l=θ->l.Pairwise (· < ·)/\∀x∈l,c<=x/\x<a
 |[],_,_=>⟨.nil,λx h=>nomatch h⟩
 |x::r,c,h=>by
  let h:((μ (c<=x)&&μ (x<=a-1))&&eW a (x+1) r)=θ:=h;erw[Xs,Xt] at h;let⟨⟨e,f⟩,d⟩:=h;let⟨p,q⟩:=qy d;calc⟨Ya.mpr ⟨λy b=>by let:=q y b;symm,p⟩,λy b=>?_⟩;rcases KN.mp b with rfl|b
  .omega
  .let:=q y b;symm
theorem bG.nums{ws ps a us n}(R:bG ws ps a us n):Nums ws us/\us.Nodup:=by
 let⟨b,c⟩:=qy R.rise;calc⟨c,b.imp λh=>by symm⟩
theorem bG.one{m}{ws:-Wy}{ps b us n k}(W:ak m ws)(R:bG ws ps b us n)(a:bG ws ps b us k):n=k :=
 sP W (R.nums.1 n R.mem) (R.nums.1 k a.mem) (pY (a.top n R.mem R.np) (R.top k a.mem a.np))
inductive yp (ys:-DV) (aN:-OV) (K:RV->-OV->Prop):Prop
 |mk (m:Int) (ws:-Wy) (ps qs us:-Int) (q:ak m ws) (q:↑ws<=20) (q:ys=[.p (az m ws),.o 0,.o 1,.p (aK us)]) (q:aN=[.lst (ps.map D.int),.lst (qs.map D.int)]) (q:∀r,(∀n,r=ζ n↔bG ws ps qs us n)->K (.p (jO r)) aN)
def Eu:WS:=(ai (aO (je (cu (dT (aj 2 tq (ag (aa 3) (ag (dN (ag (d2 (aa 0) (dC (.int 1)) aE) af) bH) af))))) (cu (dT (aj 2 yn (ag (aa 0) (ag (aa 3) af)))))) (aA (dC .non)) bQ) (ai (aO (dT (dN (ag (bX (aY (aa 3)) [η,ζ 2] (aS 0) bY (d2 (aa 0) (aa 1) (dt ι))) af) mV)) (aA (dC .non)) bQ) (aA (aj 2 ya (ag (aa 0) (ag (bX (aY (aa 3)) [η,ζ 1] (aS 0) (dT (d2 (aa 0) (aa 1) (dt θ))) (aa 0)) af))))))
theorem QT:Sem 4 0 yp Eu:=by
 ext Q B R-⟨m,i,c,g,a,W,E,rfl,rfl,k⟩;let S:=ew c;let T:=ew g;calc aI λN r=>?_;simp![az,cR];refine⟨a,↑i,Y,Y,?_⟩
 cases o:eW ↑i 0 a with
 |false =>
  exact⟨_,Y,Y,k η (j7 λn C=>by rw[C.rise] at o;cases o)⟩
 |true =>
 let⟨s,t⟩:=qy o;let U:=jn t (s.imp λh=>by symm);simp!;refine⟨m,i,a,W,t,⋯,Y,Y,λj=>?_,λz=>?_⟩
 rotate_left
 .exact⟨_,Y,Y,k η (j7 λn C=>z C.ring)⟩
 simp!;subst r
 refine aI λN r=>d4 λV X F G=>L2.gT (λd=>match d with
  |.int x=>.bl (μ (x∈g))
  |_=>.non) (by rw[kF];symm) trivial ?_ ?_
 .ext d u v L w h
  let⟨x,f,rfl⟩:=Bk.mp u;simp!;calc⟨⋯,?_⟩;rw[fQ];exact⟨w,h⟩
 rw[show(a.map D.int).map (λd=>match d with
  |.int x=>D.bl (μ (x∈g))
  |_=>.non)=(a.map λx=>μ (x∈g)).map D.bl by rw[Xd,Xd];rfl]
 refine⟨_,Y,?_⟩
 cases y:(a.map λx=>μ (x∈g)).any id with
 |true =>
  let⟨b,H,e⟩:=Zh.mp y;let⟨x,f,rfl⟩:=Bk.mp H;subst F;exact⟨_,Y,Y,k η (j7 λn C=>C.free x f (Xq e))⟩
 |false =>
 subst G r;simp!
 refine L2.f_ (λd=>match d with
  |.int x=>μ (x∉c)
  |_=>ι) id (by rw[kF];symm) trivial ?_ ?_
 .ext d u v L w s I
  let⟨x,f,rfl⟩:=Bk.mp u;simp!;calc⟨⋯,?_⟩;rw[fQ]
  by_cases q:x∈c
  .rw[Bj q]
   exact I (Bh λz=>z q)
  .rw[Bh q]
   exact⟨w,s (Bj q)⟩
 let e:((a.map D.int).filter λd=>match d with
  |.int x=>μ (x∉c)
  |_=>ι).map id=(a.filter λx=>μ (x∉c)).map D.int:=by
  rw[YI,XP];rfl
 rw[e];let p:∀x,x∈a.filter (λx=>μ (x∉c))↔x∈a/\x∉c:=λx=>by rw[Xf,Yg]
 refine⟨m,i,a.filter λx=>μ (x∉c),W,λx f=>t x ((p x).mp f).1,Y,Y,λz=>?_,λx f l=>?_⟩
 .refine⟨_,Y,Y,k η (j7 λn C=>?_)⟩
  let A:=(p n).mpr ⟨C.mem,C.np⟩;rw[z] at A;cases A
 .let⟨J,K⟩:=(p x).mp f
  let C:bG i c g a x:=⟨o,j,(λk M z=>Y8.mp y _ (X0 M) (Bj z)),J,K,λe O z=>l e ((p e).mpr ⟨O,z⟩)⟩;calc⟨_,Y,Y,k (ζ x) (tE C λn P=>P.one W C)⟩
def bO(m:Int)(ws:-Wy)(ps b:-Int)(a:Bool)(l:-Int)(n:Int):Prop:=if a=θ then dg m ws ps b l n else bG ws ps b l n
meta def fH(s:Bool×-Int):D:=.tup [.str (if s.1=θ then "cut" else "ring"),aK s.2]
def qz(m:Int)(ws:-Wy)(ps a:-Int)(w:π)(l:-Int)(n:Int):Prop:=(w="cut" /\ dg m ws ps a l n)\/(w="ring" /\ bG ws ps a l n)
theorem bO.word{m ws ps a l c n}(C:bO m ws ps a c l n):qz m ws ps a (if c=θ then "cut" else "ring") l n:=by
 cases c with
 |true=>exact .inl ⟨Y,C⟩
 |false=>calc .inr ⟨Y,C⟩
inductive yq (ys:-DV) (aN:-OV) (K:RV->-OV->Prop):Prop
 |mk (m:Int) (ws:-Wy) (ps qs:-Int) (w:π) (l:-Int) (q:ak m ws) (q:↑ws<=20) (q:Nums ws ps) (q:ys=[.p (az m ws),.o 0,.o 1,.p (.tup [.str w,aK l])]) (q:aN=[.lst (ps.map D.int),.lst (qs.map D.int)]) (q:∀r,(∀n,r=ζ n↔qz m ws ps qs w l n)->K (.p (jO r)) aN)
def Ew:WS:=(ai (aO (cu (dT (aj 2 qc (ag (aa 3) (ag (dC (.int 2)) af))))) (aA (dC .non)) bQ) (ai (aO (dT (d2 (d2 (aa 3) (dC (.int 0)) aE) (dC (.str "cut")) oEq)) (aA (aj 4 yo (ag (aa 0) (ag (aa 1) (ag (aa 2) (ag (d2 (aa 3) (dC (.int 1)) aE) af)))))) bQ) (ai (aO (dT (d2 (d2 (aa 3) (dC (.int 0)) aE) (dC (.str "ring")) oEq)) (aA (aj 4 yp (ag (aa 0) (ag (aa 1) (ag (aa 2) (ag (d2 (aa 3) (dC (.int 1)) aE) af)))))) bQ) (aA (dC .non)))))
theorem QU:Sem 4 0 yq Ew:=by
 ext o i p-⟨m,f,g,h,w,l,W,d,j,rfl,rfl,k⟩;calc aI λN b=>?_;simp!;calc⟨.tup [.str w,aK l],2,Y,Y,?_⟩;rw[show wW (.tup [.str w,aK l]) 2=θ from Y];simp!;subst b;calc aI λN b=>?_;simp![cQ,cR,aD]
 by_cases a:w="cut"
 .rw[W_ (ZO.mpr a)]
  calc⟨Y,m,f,g,h,l,W,j,Y,Y,λr e=>⟨_,Y,Y,k r λn=>(e n).trans ⟨λz=>.inl ⟨a,z⟩,λz=>?_⟩⟩⟩;rcases z with⟨_,z⟩|⟨z,_⟩
  .exact z
  .rw[a] at z;exact absurd z (by decide)
 .rw[Vq (λz=>a (ZO.mp z))]
  subst b;calc aI λN b=>?_;simp![cQ,cR,aD]
  by_cases c:w="ring"
  .rw[W_ (ZO.mpr c)]
   exact⟨Y,m,f,g,h,l,W,d,Y,Y,λr e=>⟨_,Y,Y,k r λn=>(e n).trans ⟨λz=>.inr ⟨c,z⟩,λz=>z.elim (λz=>absurd z.1 a) λz=>z.2⟩⟩⟩
  .rw[Vq (λz=>c (ZO.mp z))]
   subst b;calc⟨_,Y,Y,k η (j7 λn z=>z.elim (λz=>a z.1) λz=>c z.1)⟩
inductive bZ (m:Int) (ws:-Wy):-Int->-Int->-(Bool×-Int)->-Int->-Int->Prop
 |nil {ps qs:-Int}:bZ m ws ps qs [] ps qs
 |cut {st:-(Bool×-Int)} {ps qs l mO qA:-Int} {n:Int}:dg m ws ps qs l n->bZ m ws (ps++[n]) qs st mO qA->bZ m ws ps qs ((θ,l)::st) mO qA
 |ring {st:-(Bool×-Int)} {ps qs l mO qA:-Int} {n:Int}:bG ws ps qs l n->bZ m ws ps (qs++[n]) st mO qA->bZ m ws ps qs ((ι,l)::st) mO qA
theorem bZ.app{m ws ps g a b d e st su}(h:bZ m ws ps g st a b)(k:bZ m ws a b su d e):bZ m ws ps g (st++su) d e:=by
 induction h with
 |nil=>exact k
 |cut c _ f=>exact .cut c (f k)
 |ring c _ f=>calc .ring c (f k)
theorem bZ.len{m ws ps e a b st}(h:bZ m ws ps e st a b):↑a+↑b=↑ps+↑e+↑st:=by
 induction h with
 |nil=>rfl
 |cut c _ d=>rw[d,KG,rC];simp;symm
 |ring c _ d=>rw[d,KG,rC];simp;symm
section
variable{m:Int}{ws:-Wy}{ps qs l:-Int}{n:Int}
theorem yr(ws:-Wy):∀us:-Int,us≠[]->∃x∈us,∀e∈us,kle (bJ ws e) (bJ ws x)
 |[],h=>absurd Y h
 |[x],_=>⟨x,.head _,λe a=>by rw[W7.mp a];calc kle_refl _⟩
 |x::y::r,_=>by
  let⟨z,c,b⟩:=yr ws (y::r) (by simp)
  cases q:HT.lexLt (bJ ws z) (bJ ws x) with
  |true =>
   calc⟨x,.head _,λe a=>?_⟩;rcases KN.mp a with rfl|a
   .exact kle_refl _
   .exact kle_trans (b e a) (lG q)
  |false =>
   calc⟨z,.tail _ c,λe a=>?_⟩;rcases KN.mp a with rfl|a
   .exact q
   .calc b e a
theorem dg.tree(W:ak m ws)(S:bz ws ps qs)(C:dg m ws ps qs l n):iB ws (ae ws n):=by
 let b:=bh.mpr ⟨C.num,C.lead⟩;let⟨x,c,a⟩:=xZ  (ns:=eA ws l) (λz=>by rw[z] at b;cases b);let d:=Qx c a;obtain rfl:x=n:=sP W (bh.mp c).1 C.num (pY (a n b) (C.low x c (λz=>S.out x z d)));calc d
theorem bG.out(W:ak m ws)(S:bz ws ps qs)(R:bG ws ps qs l n):¬ iB ws (ae ws n):=by
 let⟨b,e⟩:=R.nums;let⟨x,c,a⟩:=yr ws l (λz=>by let:=R.mem;rw[z] at this;cases this);let d:=R.ring.out W b e c a;obtain rfl:x=n:=sP W (b x c) (b n R.mem) (pY (R.top x c (λz=>d (S.tree x z))) (a n R.mem));calc d
theorem bz.cut(W:ak m ws)(S:bz ws ps qs)(C:dg m ws ps qs l n):bz ws (ps++[n]) qs:=by
 let b:n∉ps:=λz=>by let:=C.free n z;rw[C.lead] at this;cases this
 refine⟨λx a=>?_,S.qn,?_,λx a=>?_,S.out⟩
 .rcases W9.mp a with h|h
  .exact S.pn x h
  .rw[W7.mp h];exact C.num
 .let:(ps++[n]++qs).Perm (n::(ps++qs)):=by
   rw[YV];exact List.perm_middle
  exact this.nodup_iff.mpr (XU.mpr ⟨λz=>(W9.mp z).elim b C.nq,S.nd⟩)
 .rcases W9.mp a with h|h
  .exact S.tree x h
  .rw[W7.mp h];calc C.tree W S
theorem bz.ring(W:ak m ws)(S:bz ws ps qs)(R:bG ws ps qs l n):bz ws ps (qs++[n]):=by
 refine⟨S.pn,λx a=>?_,?_,S.tree,λx a=>?_⟩
 .rcases W9.mp a with h|h
  .exact S.qn x h
  .rw[W7.mp h];exact R.nums.1 n R.mem
 .let:(ps++(qs++[n])).Perm (n::(ps++qs)):=by
   rw[<-YV];exact List.perm_append_comm
  exact this.nodup_iff.mpr (XU.mpr ⟨λz=>(W9.mp z).elim R.np (R.free n R.mem),S.nd⟩)
 .rcases W9.mp a with h|h
  .exact S.out x h
  .rw[W7.mp h];calc R.out W S
theorem bZ.ok(W:ak m ws){st a b}(h:bZ m ws ps qs st a b)(S:bz ws ps qs):bz ws a b:=by
 induction h with
 |nil=>exact S
 |cut C _ c=>exact c (S.cut W C)
 |ring R _ c=>calc c (S.ring W R)
end
theorem bz.start ws:bz ws [] []:=⟨λx h=>(nomatch h),λx h=>(nomatch h),Zj,λx h=>(nomatch h),λx h=>(nomatch h)⟩
section
variable{m:Int}{ws:-Wy}{ps qs l:-Int}{n:Int}
theorem bz.indep(W:ak m ws)(S:bz ws ps qs):Indep (bA ws ps):=λa g c=>by
 let d:∀v,bA ws ps v->iB ws v:=λv b=>by let⟨k,h,e⟩:11:=b;exact e▸S.tree k h
 calc Qv W a (d a g) (c.mono λv f=>⟨d v f.1,f.2⟩)
theorem Ex(W:ak m ws)(a:eW m 0 l=θ)(b:∀k∈ps,cV l (ae ws k)=ι)(hn:0<=n/\n<(↑ws:Int))(c:cV l (ae ws n)=θ)(h:n∉qs):∃k,dg m ws ps qs l k:=by
 let f:∀x,x∈(eA ws l).filter (λx=>μ (x∉qs))↔x∈eA ws l/\x∉qs:=λx=>by rw[Xf,Yg]
 let g:=(f n).mpr ⟨bh.mpr ⟨hn,c⟩,h⟩;let⟨x,i,d⟩:=xZ  (ns:=(eA ws l).filter λx=>μ (x∉qs)) (λz=>by rw[z] at g;cases g);let⟨j,o⟩:=(f x).mp i;let⟨p,q⟩:=bh.mp j;calc⟨x,a,b,p,q,o,λe r s=>d e ((f e).mpr ⟨r,s⟩)⟩
theorem QV(a:eW ↑ws 0 l=θ)(b:cw ws l)(c:∀k∈l,k∉qs)(hn:n∈l)(h:n∉ps):∃k,bG ws ps qs l k:=by
 let f:∀x,x∈l.filter (λx=>μ (x∉ps))↔x∈l/\x∉ps:=λx=>by rw[Xf,Yg]
 let g:=(f n).mpr ⟨hn,h⟩;let⟨x,i,d⟩:=yr ws (l.filter λx=>μ (x∉ps)) (λz=>by rw[z] at g;cases g);let⟨j,m⟩:=(f x).mp i;calc⟨x,a,b,c,j,m,λe o p=>d e ((f e).mpr ⟨o,p⟩)⟩
theorem yt(W:ak m ws){us}(j:Nums ws us)(e:Indep (bA ws us))(f:∀k∈us,k∉qs)(hn:0<=n/\n<(↑ws:Int))(p:n∉us)(q:n∉ps)(r:n∉qs)(s:aq (bA ws us) (ae ws n).1 (ae ws n).2.1){R}(l:R.Nodup)(d:∀k,k∈R↔k∈us/\¬ aq (gK ws us k) (ae ws n).1 (ae ws n).2.1):
  ∃k,bG ws ps qs (sortI (R++[n])) k:=by
 let g:=sortI_perm (R++[n]);let c:∀x,x∈sortI (R++[n])↔x∈R\/x=n:=λx=>by rw[g.mem_iff,W9,W7]
 calc QV  (tm (((sb (R++[n])).and (g.nodup_iff.mpr (XT.mpr ⟨l,by simp,λa t b o z=>p (by rw[W7] at o;rw[<-o,<-z];calc((d a).mp t).1)⟩))).imp λh=>by symm) λx i=>(λx i=>((c x).mp i).elim (λh=>j x ((d x).mp h).1) λh=>h▸hn) x i) (QP W j e s l d g) (λk u=>?_) ((c n).mpr (.inr Y)) q;rcases(c k).mp u with h|h
 .exact f k ((d k).mp h).1
 .rw[h];calc r
theorem QW{us}(W:ak m ws)(d:Nums ws us){a b}:∀k,k∈j6 ws us a b↔k∈us/\¬ aq (gK ws us k) a b:=λk=>by
 unfold j6 mS;rw[Xf];refine and_congr_right λg=>?_
 let e:bA ws (mR us k)=gK ws us k:=funext λv=>propext ⟨λ⟨j,c,e⟩↦by
  let⟨f,h⟩:=Xf.mp c
  calc⟨⟨j,f,e⟩,λz=>Xq h (qw W (d j f) (d k g) (e▸z))⟩,λi=>by let⟨⟨j,c,e⟩,l⟩:01:=i;calc⟨j,Xf.mpr ⟨c,Bj λz=>l (by rw[e,z])⟩,e⟩⟩
 rw[e];simp
end
theorem QX n:(aZ n).Pairwise (· < ·):=by
 calc X9.mpr (Yo.imp λh=>by symm)
theorem tF{l y}(h:y.1∈l↔y.2.1∈l):cV l y=ι:=by
 unfold cV
 by_cases a:y.1∈l<;>by_cases b:y.2.1∈l<;>simp[a,b] at h ⊢
theorem Ey{l y}(h:¬ (y.1∈l↔y.2.1∈l)):cV l y=θ:=by
 unfold cV
 by_cases a:y.1∈l<;>by_cases b:y.2.1∈l<;>simp[a,b] at h ⊢
theorem bO.congr{m ws ps j a b l n c}(d:∀x,x∈ps↔x∈a)(f:∀x,x∈j↔x∈b)(h:bO m ws ps j c l n):bO m ws a b c l n:=by
 cases c with
 |true =>
  let h:=h;exact(⟨h.rise,λk g=>h.free k ((d k).mpr g),h.num,h.lead,λz=>h.nq ((f n).mpr z),λe i z=>h.low e i λy=>z ((f e).mp y)⟩)
 |false =>
  let h:=h;calc(⟨h.rise,h.ring,λk g z=>h.free k g ((f k).mpr z),h.mem,λz=>h.np ((d n).mpr z),λe i z=>h.top e i λy=>z ((d e).mp y)⟩)
theorem bz.sort{ws ps b}(S:bz ws ps b):bz ws (sortI ps) (sortI b):=by
 let c:=sortI_perm ps;let d:=sortI_perm b;calc⟨λx a=>S.pn x (c.mem_iff.mp a),λx a=>S.qn x (d.mem_iff.mp a),(c.append d).nodup_iff.mpr S.nd,λx a=>S.tree x (c.mem_iff.mp a),λx a=>S.out x (d.mem_iff.mp a)⟩
end LJ
namespace LJ
open PySem L2 PySem.Spec PySem.W PyProof.Rows
structure Ev where
 P:ψ
 w:ω
 K:KH
 mg:π->Option ν
 base:Α
section
variable[zt:aB]
structure Fx(V:Ev)(k:Nat)(x:π)(ps:-π)(n:Nat)(G:GD):Prop where
 ex:∃f fd,Fn V.P V.w V.K V.mg V.base k x ps (ji G n) f fd
def Dx(V:Ev)(x:π)(st:χ):Prop:=∃f a,V.mg x=ζ (.ref f)/\fM V.K x x st f a
def qB(V:Ev)(x:π)(st:χ)(T:Z)(pos:Ε)(q:π):Prop:=∃f a,(V.mg x=ζ (.ref f)/\fM V.K x x st f a)/\gg V.mg V.base a T pos q
def Ct(V:Ev)(x:π)(i:Int):Prop:=∃u,V.mg x=ζ u/\RelV (.int i) u
section
variable{X:Cx}{x:π}{ps:-π}{G:GD}{e:υ}{es:-υ}{fa:WA}{p pos:Ε}{j k n:Nat}
theorem mW(F:Fx ⟨X.prog,X.w,X.K,X.mg,X.base⟩ j x ps n G)(c:aV k X.A)(d:JA X (e::es) (bM fa))(hj:‹q3y j k=θ›)(f:‹Gl X x›)(a: ~~~(bB x))(he:‹cI X e es›)(b:‹cX X pos es›):
  JE X (.Call (.Name x p) (e::es) [] pos) (tD (aj n G fa)):=let⟨_,_,F⟩:=F.ex;M3 F.ok (c.mono (Y1 hj)) f F.pw F.kp F.bd d a he b
theorem QY(F:Fx ⟨X.prog,X.w,X.K,X.mg,X.base⟩ j x ps n G)(c:aV k X.A)(d:JA X (e::es) (bM fa))(hj:‹q3y j k=θ›)(f:‹Gl X x›)(a: ~~~(bB x))(he:‹cI X e es›)(b:‹cX X pos es›):
  JE X (.Call (.Name x p) (e::es) [] pos) (tD (nT n G fa)):=let⟨_,_,F⟩:=F.ex;M4 F.ok (c.mono (Y1 hj)) f F.pw F.kp F.bd d a he b
theorem QZ{i}(C:Ct ⟨X.prog,X.w,X.K,X.mg,X.base⟩ x i)(c:‹Gl X x›)(hd: ~~~(bB x)):JE X (.Name x pos) (tD (dC (.int i))):=let⟨_,a,b⟩:=C;Mp c a b hd
end
theorem _root_.L2.gg.env{e:π->Option ν}{a:Α}{d:FuncData}{T:Z}{f:Ε}{q:π}{b:ν}(L:gg e a d T f q)(h:d.code=b):∃c,b=.ref c/\CodeHd a c T:=let⟨c,g,i⟩:=L.code;⟨c,h.symm.trans g,i⟩
meta def Q0:NameKind->Bool
 |.local=>θ
 |.cell=>θ
 |_=>ι
meta def Q1:NameKind->Bool
 |.free=>ι
 |_=>θ
meta def Q2:ScopeKind->Bool
 |.function=>θ
 |_=>ι
meta def qC(N P:-π)(a:Δ):Bool:=Q2 a.kind && !a.isCoroutine && !a.isGenerator&&μ N.Nodup&&μ (N.take ↑P=P)&&(P.all λx=>match a.names.lookup x with
 |some k=>Q0 k
 |none=>ι)&&a.names.all λy=>Q1 y.2
theorem fJ{N P a}(h:qC N P a=θ):jW N P a:=by
 unfold qC at h;erw[Xs,q0x,Xt,XS] at h;let⟨⟨⟨⟨⟨⟨b,c⟩,d⟩,f⟩,g⟩,i⟩,j⟩:=h;refine⟨?_,c,d,f,g,λx l=>?_,λy m z=>?_⟩
 .cases q:a.kind<;>rw[q] at b<;>first|rfl|cases b
 .let:=i x l
  split at this
  .rename_i k e
   rw[e];cases k<;>first|exact .inl Y|exact .inr Y|cases this
  .cases this
 .let:=j y m
  rw[z] at this;cases this
def gL(x:π)(st:χ)(ps:-π):Prop:=∀(d a e:ν)(f:Option Z)(b g:ν)(c:-ν),↑c=↑ps->bindArgs (Yv x x (iJ st) (dA st) (cn st) .none d a e f b g) ⟨c,[]⟩=pure (ps.zip c)
section
theorem Ez{us:-ν}(h:↑us=1):∃a,us=[a]:=List.length_eq_one_iff.mp h
theorem yu{us:-ν}(h:↑us=2):∃a b,us=[a,b]:=by
 cases us with
 |nil=>cases h
 |cons a r=>let⟨b,rfl⟩:=Ez (q10 h);calc(zI2 a b Y)
theorem EA{us:-ν}(h:↑us=3):∃a b c,us=[a,b,c]:=by
 cases us with
 |nil=>cases h
 |cons a r=>let⟨b,c,rfl⟩:2:=yu (q10 h);calc(zI3 a b c Y)
theorem EB{us:-ν}(h:↑us=4):∃a b c d,us=[a,b,c,d]:=by
 cases us with
 |nil=>cases h
 |cons a r=>let⟨b,c,d,rfl⟩:3:=EA (q10 h);calc(zI4 a b c d Y)
theorem Q3{us:-ν}(h:↑us=5):∃a b c d e,us=[a,b,c,d,e]:=by
 cases us with
 |nil=>cases h
 |cons a r=>let⟨b,c,d,e,rfl⟩:4:=EB (q10 h);calc(zI5 a b c d e Y)
theorem j8{x st ps}(h:‹∀d b e f c ct a,bindArgs (Yv x x (iJ st) (dA st) (cn st) .none d b e f c ct) ⟨[a],[]⟩=pure (ps.zip [a])›)(i:‹↑ps=1›):gL x st ps:=λd b e f c g k j=>by
 let⟨a,rfl⟩:=Ez (j.trans i);calc h d b e f c g a
theorem fK{x st ps}(h:‹∀e c f g d ct a b,bindArgs (Yv x x (iJ st) (dA st) (cn st) .none e c f g d ct) ⟨[a,b],[]⟩=pure (ps.zip [a,b])›)(j:‹↑ps=2›):gL x st ps:=λe c f g d i l k=>by
 let⟨a,b,rfl⟩:2:=yu (k.trans j);calc h e c f g d i a b
theorem iD{x st ps}(h:‹∀f d g i e ct a b c,bindArgs (Yv x x (iJ st) (dA st) (cn st) .none f d g i e ct) ⟨[a,b,c],[]⟩=pure (ps.zip [a,b,c])›)(k:‹↑ps=3›):gL x st ps:=λf d g i e j m l=>by
 let⟨a,b,c,rfl⟩:3:=EA (l.trans k);calc h f d g i e j a b c
theorem om{x st ps}(h:‹∀g e i j f ct a b c d,bindArgs (Yv x x (iJ st) (dA st) (cn st) .none g e i j f ct) ⟨[a,b,c,d],[]⟩=pure (ps.zip [a,b,c,d])›)(l:‹↑ps=4›):gL x st ps:=λg e i j f k n m=>by
 let⟨a,b,c,d,rfl⟩:4:=EB (m.trans l);calc h g e i j f k a b c d
theorem Q4{x st ps}(h:‹∀i f j k g ct a b c d e,bindArgs (Yv x x (iJ st) (dA st) (cn st) .none i f j k g ct) ⟨[a,b,c,d,e],[]⟩=pure (ps.zip [a,b,c,d,e])›)(m:‹↑ps=5›):gL x st ps:=λi f j k g l o n=>by
 let⟨a,b,c,d,e,rfl⟩:5:=Q3 (n.trans m);calc h i f j k g l a b c d e
variable{V:Ev}{x:π}{st:χ}{N ps:-π}{k:Nat}{G:GD}
theorem bW(D:Dx V x st)(j:gL x st ps)(h:∀{c A b s H E f},aV k (A.deeper (envOfC x (cn st) ⇑s f c))->N.Nodup->(A.deeper (envOfC x (cn st) ⇑s f c)).units+64<cLine →
   ∃B:WS,b3 (bC eS V.P V.w V.K V.mg V.base N x (cn st) f c A b s H E).jy (dA st) (cB B)/\∀ys d e,↑ys=↑ps->G ys d e->B (iw ↑d e) ⟨ys.map ζ++Xb (↑N-↑ps) η,d.map ζ⟩)(g:autoParam (qC N ps (cn st)=θ) qz3._auto_1):Fx V (k+1) x ps ↑ps G :=
 let⟨f,l,a,F⟩:=D
 ⟨f,l,F.MX (fJ g) λc A b s H E i=>h i (fJ g).nd i.units,a,F.kp,F.binds j⟩
theorem EC{T g q}(D:qB V x st T g q)(m:gL x st ps)(h:∀{b A c s H E f e},gg V.mg V.base e T g q->e.code=b->aV k (A.deeper (envOfC x (cn st) ⇑s f b))->N.Nodup->(A.deeper (envOfC x (cn st) ⇑s f b)).units+64<cLine →
   ∃B:WS,b3 (bC eS V.P V.w V.K V.mg V.base N x (cn st) f b A c s H E).jy (dA st) (cB B)/\∀ys d i,↑ys=↑ps->G ys d i->B (iw ↑d i) ⟨ys.map ζ++Xb (↑N-↑ps) η,d.map ζ⟩)(j:autoParam (qC N ps (cn st)=θ) qz3._auto_1):Fx V (k+1) x ps ↑ps G :=
 let⟨f,e,⟨a,F⟩,n⟩:=D
 ⟨f,e,F.xp (fJ j) λb A c s H E o l=>h n o l (fJ j).nd l.units,a,F.kp,F.binds m⟩
end
end
section
variable{K:KH}{h:Α}{mg:π->Option ν}
def Dk(K:KH)(x:π)(st:χ):Prop:=∃f a,XF K mainGlobals x=ζ (ζ (.ref f))/\fM K x x st f a
inductive gn (K:KH):-(π×χ)->Prop
 |nil:gn K []
 |cons {x st r}:Dk K x st->gn K r->gn K ((x,st)::r)
theorem yw{x st r f c d e g i j m b ct}(a:XF K mainGlobals x=ζ (ζ (.ref f)))(l:K.lookup f=ζ ⟨g,c,.func (Yv x x (iJ st) (dA st) (cn st) .none i j m d b ct),e⟩)(q:Z1 K b x=θ)(k:Ym K (.ref f)=θ)(h:gn K r):gn K ((x,st)::r) :=
 .cons (zI2 f _ ⟨a,vu l q k⟩) h
theorem gn.at{ds}(h:gn K ds)(i:Nat){x st}(e:ds[i]?=ζ (x,st)):Dk K x st:=by
 induction h generalizing i with
 |nil=>cases e
 |cons d _ a=>cases i with
  |zero=>cases e;exact d
  |succ i=>calc a i e
def tG(K:KH)(x:π)(st:χ)(T:Z):Prop:=∃f a,(XF K mainGlobals x=ζ (ζ (.ref f))/\fM K x x st f a)/\∃b,a.code=.ref b/\q3P K b T=θ
inductive eB (K:KH):-(π×χ×Z)->Prop
 |nil:eB K []
 |cons {x st T r}:tG K x st T->eB K r->eB K ((x,st,T)::r)
theorem qD{x st T}{r:-(π×χ×Z)}{f b d e g i j m n ct}(a:XF K mainGlobals x=ζ (ζ (.ref f)))(l:K.lookup f=ζ ⟨i,d,.func (Yv x x (iJ st) (dA st) (cn st) .none j m n e (.ref b) ct),g⟩)(q:Z1 K (.ref b) x=θ)(k:Ym K (.ref f)=θ)(c:q3P K b T=θ)(h:eB K r):eB K ((x,st,T)::r) :=
 .cons (zI2 f _ ⟨⟨a,vu l q k⟩,b,Y,c⟩) h
theorem eB.at{ds:-(π×χ×Z)}(h:eB K ds)(i:Nat){x st T}(e:ds[i]?=ζ (x,st,T)):tG K x st T:=by
 induction h generalizing i with
 |nil=>cases e
 |cons d _ a=>cases i with
  |zero=>cases e;exact d
  |succ i=>calc a i e
theorem eB.code{ds:-(π×χ×Z)}(h:eB K ds){c}(X:K.In c):∀T∈ds.map (·.2.2),∃b,q4z c b T:=by
 induction h with
 |nil=>ext T a;exact nomatch a
 |cons d _ f =>
  ext T a;rcases KN.mp a with rfl|a
  .let⟨_,_,_,b,_,e⟩:2111:=d
   exact⟨b,q2M X e⟩
  .calc f T a
theorem Q5{x r}(a:XF K mainGlobals x=ζ η)(h:∀y∈r,XF K mainGlobals y=ζ η):∀y∈x::r,XF K mainGlobals y=ζ η:=λy b=>by
 rcases KN.mp b with rfl|b
 .exact a
 .calc h y b
theorem Q6{ls:-lN}(g:(ls.map (·.T)).Nodup):∀{a b},a∈ls->b∈ls->a.T=b.T->a=b:=by
 induction ls with
 |nil=>ext a b h;exact nomatch h
 |cons c r i =>
  ext a b h j e;rw[Xm,XU] at g;rcases KN.mp h with rfl|d<;>rcases KN.mp j with rfl|f
  .rfl
  .exact absurd (Bk.mpr ⟨b,f,e.symm⟩) g.1
  .exact absurd (Bk.mpr ⟨a,d,e⟩) g.1
  .calc i g.2 d f e
theorem Dk.v{P w b x st}(d:Dk K x st)(X:K.In h)(G:h.Ns mainGlobals mg):Dx ⟨P,w,K,mg,b⟩ x st :=
 let⟨f,c,a,F⟩:=d
 (zI2 f c ⟨XR X G a,F⟩)
theorem tG.v{P w c x st ls C T i q}(d:tG K x st T)(X:K.In h)(G:h.Ns mainGlobals mg)(j:K.In c)(k:∀t∈ls,c.BuiltinsAt mg t.T)(l:(ls.map (·.T)).Nodup)(m:∀t∈ls,mainGlobals≠t.T)(g:⟨T,i,q⟩∈ls):@qB (i0 ls C) ⟨P,w,K,mg,c⟩ x st T i q :=
 let⟨f,n,⟨a,F⟩,o,p,r⟩:=d
 letI:=i0 ls C
 (zI2 f n ⟨⟨XR X G a,F⟩,⟨o,p,q2M j r⟩,m _ g,k _ g,Pd g λa s b u e=>Q6 l s u e⟩)
def Ck(K:KH)(x:π)(i:Int):Prop:=∃u,XF K mainGlobals x=ζ (ζ u)/\RelV (.int i) u
theorem Ck.v{P w b x i}(d:Ck K x i)(X:K.In h)(G:h.Ns mainGlobals mg):Ct ⟨P,w,K,mg,b⟩ x i :=
 let⟨u,a,r⟩:=d
 ⟨u,XR X G a,r⟩
meta def yx:-π:=["len", "range", "list", "tuple", "set", "sorted", "min", "max", "sum", "all", "any", "enumerate", "zip", "isinstance", "int", "bool", "str", "repr"]
theorem Q7(X:K.In h)(G:h.Ns mainGlobals mg)(N:∀x∈yx,XF K mainGlobals x=ζ η):BT mg :=
 have n:∀i x,yx[i]?=ζ x->mg x=η:=λi x e=>q25 X G (N x (Xw e))
 ⟨n 0 _ Y,n 1 _ Y,n 2 _ Y,n 3 _ Y,n 4 _ Y,n 5 _ Y,n 6 _ Y,n 7 _ Y,n 8 _ Y,n 9 _ Y,n 10 _ Y,n 11 _ Y,n 12 _ Y,n 13 _ Y,n 14 _ Y,n 15 _ Y,n 16 _ Y,n 17 _ Y⟩
end
end LJ
namespace L2
open PySem PySem.Spec PyProof.Rows
variable[zt:aB]
def cL(b:WA):WE:=λc K=>b c λe a=>match e with
 |[.p d,.o k]=>K (.t d k) a
 |_=>False
def bq(f:WE):WE:=λb K=>f b λx a=>match x with
 |.t _ k=>K (.o k) a
 |_=>False
meta def mX(mu:-(Option OV)):Option DV->Option DV
 |some (.p d)=>ζ (.p d)
 |some (.o k)=>match mu[k]? with
  |some (some (.lst b))=>ζ (.p (.lst b))
  |_=>η
 |some (.t d k)=>match mu[k]? with
  |some (some (.lst b))=>ζ (.p (.tup [d,.lst b]))
  |_=>η
 |some (.w a)=>ζ (.w a)
 |some (.u t c)=>ζ (.u t c)
 |none=>η
meta def aH.du(a:aH):aH:=⟨a.sl.map (mX a.mu),a.mu.map λ_=>η⟩
def mY(t:WT):WT:=λa K=>t a.du λb _=>K b a
section
variable{F F' H H':Hp}{ad bL:-Z}{δ δ':aH}{σ σ':St}
open Classical in
meta def j9 (F H:Hp) (ad:List Addr) (mu:List (Option OV)):Hp:=λa=>if ∃(k:Nat)(ds:List D),ad[k]?=some a/\mu[k]?=some (some (.lst ds)) then H a else F a
theorem Q8(S:SR F ad δ σ H):ay F (j9 F H ad δ.mu)/\SR (j9 F H ad δ.mu) ad δ.du σ H:=by
 let L:∀{a o},F a=ζ o->¬ ∃(k:Nat)(f:-D),ad[k]?=ζ a/\δ.mu[k]?=ζ (ζ (.lst f)):=λe z=>by let⟨k,f,c,e2⟩:21:=z;rw[S.off _ (zI2 k _ ⟨c,e2⟩)] at e;cases e
 let m:ay F (j9 F H ad δ.mu):=λa o e=>by unfold j9;rw[Vq (L e)];exact e
 let A:∀{k:Nat}{a f},ad[k]?=ζ a->δ.mu[k]?=ζ (ζ (.lst f))->∃g,j9 F H ad δ.mu a=ζ (.lst g)/\ah (j9 F H ad δ.mu) f g:=λ{k a f} c e2=>by
  let⟨a',o,y,C,g,rfl,h⟩:2211:=S.mu k _ e2;rw[c] at y;cases y;exact⟨g,by unfold j9;rw[W_ (zI2 k f ⟨c,e2⟩)];calc C,h.same m⟩
 let E:∀k j,δ.du.mu[k]?=ζ (ζ j)->False:=λk j e=>by
  unfold aH.du at e;rw[KI] at e;let⟨_,_,z⟩:=My.mp e;cases z
 refine⟨m,λa o e=>?_,λa B=>by let⟨k,j,_,e⟩:21:=B;calc(E k j e).elim,by unfold aH.du;rw[kF];calc S.b7,λk l a j O _ _ e _=>(E k j e).elim,λk j e=>(E k j e).elim,λi x e=>?_,by unfold aH.du;rw[kF];calc S.len,S.tab,S.nt.up m λa K=>?_⟩
 .unfold j9 at e
  split at e
  .exact e
  .exact S.sub a o e
 .unfold aH.du at e
  rw[KI] at e;let⟨s,c,e2⟩:=My.mp e
  match s,e2 with
  |none,e2=>cases e2
  |some (.p d),e2 =>
   cases(e2)
   let⟨v,n,r⟩:=S.sl i _ c;exact⟨v,n,r.same m⟩
  |some (.w d),e2 =>
   cases(e2)
   exact S.sl i _ c
  |some (.u t d),e2 =>
   cases(e2)
   let⟨v,n,r⟩:=S.sl i _ c;exact⟨v,n,r.same m⟩
  |some (.o k),e2 =>
   unfold mX at e2;dsimp only at e2;split at e2
   .rename_i f G
    cases e2
    let⟨v,n,a,r,rfl⟩:1111:=S.sl i _ c;let⟨g,I,J⟩:=A r G;exact⟨_,n,(zI2 a g ⟨Y,I,J⟩)⟩
   .cases e2
  |some (.t d k),e2 =>
   unfold mX at e2;dsimp only at e2;split at e2
   .rename_i f G
    cases e2
    let⟨v,n,a,b,u,rfl,r,M,N⟩:1133:=S.sl i _ c;let⟨g,I,J⟩:=A N G;exact⟨_,n,(zI2 a _ ⟨Y,m _ _ r,u,_,Y,M.same m,.ref b,_,Y,(zI2 b g ⟨Y,I,J⟩),Y⟩)⟩
   .cases e2
 .unfold j9
  split
  .rename_i z
   let⟨k,f,c,e2⟩:21:=z;let⟨a',o,y,C,g,rfl,_⟩:=S.mu k _ e2;rw[c] at y;cases y;let⟨P,q⟩:=aB.tb S.tab K;rw[C] at q;cases q
  .calc S.nt a K
theorem Q9{i:Hp}{b:-Z}{c:-(Option OV)}(S:SR F ad δ σ H)(E:Ext (j9 F H ad δ.mu) ad δ.du.mu H i b c H')(tk:aB.ok H'):Ext F ad δ.mu H F ad δ.mu H'/\SR F ad δ σ H':=by
 let j:∀a,¬ Lv ad δ.du.mu a:=λa ⟨k,f,_,e⟩↦by
  unfold aH.du at e;rw[KI] at e;let⟨_,_,z⟩:=My.mp e;cases z
 let d:=λa o e n=>E.keep a o e (j a) n;calc⟨⟨λ_ _ e=>e,λ_ _ e=>.inl e,λa o e _ n=>d a o e n,λ_ _ e=>e,λ_ l=>.inl l,E.g5⟩,⟨λa o e=>d a o (S.sub a o e) (λz=>by rw[S.nt a z] at e;cases e),S.off,S.b7,S.inj,λk f e=>?_,S.sl,S.len,tk,S.nt⟩⟩;let⟨a,o,m,g,h⟩:22:=S.mu k f e;calc(zI2 a o ⟨m,d a o g λz=>?_,h⟩);let⟨p,q⟩:=aB.tb S.tab z;rw[g] at q;calc h.kind _ (XA q)
end
section
variable{X:Cx}{a b e:υ}{es:-υ}{f:WE}{fa:WA}{t:WT}{pos:Ε}
theorem Q_{i}(j:JA X es (bM fa)):JE X (.Tuple es i pos) (tD (cL fa)):=(AE j).weak λA H Q ⟨F,l,m,K,S,q,k⟩ =>
 ⟨F,l,m,_,S,q,λB n d C D s g t a v=>by
  split at d
  .let⟨u,r,rfl,x,w,E,rfl,⟨c,y,rfl⟩,z⟩:2222:=v
   subst z;calc⟨by show 2<=sizeLine;decide,λp f=>?_⟩;let h:ay g (upd g p (.tup [u,.ref c])):=b_ f;calc k _ _ d _ _ _ _ (t.trans (Ext.al a h)) (a.al h) ?_;rw[Nw.upd a.sub f];exact(zI3 p c u ⟨Y,bj,Is.same (λb o e=>by rw[aG (bU (a.sub b o e) f)];calc e) x,y⟩)
  .calc d.elim⟩
theorem Ra{j:Nat}{g:Ε}(h:JE X a (tD f)):JE X (.Subscript a (.Constant (.int 1) j g) pos) (tD (bq f)):=(o7 AX h jw λ_ _=>Y).weak λt H Q ⟨F,i,l,K,S,q,k⟩ ↦
 ⟨F,i,l,_,S,q,λx m d v w n y o e p=>by
  split at d
  .let⟨c,b,u,rfl,r,_,s⟩:33:=p
   exact(zI4 c _ 1 (.ref b) ⟨Y,Y,bE.of (e.sub _ _ r),Y,k _ _ d _ _ _ _ o e ⟨b,s,Y⟩⟩)
  .calc d.elim⟩
theorem Rb(c:JT X a (cq t)):JT X a (cq (mY t)):=c.weak λn H Q ⟨F,d,f,K,S,q,k⟩↦by
 let⟨_,g⟩:=Q8 S
 exact⟨_,d,f.du,_,g,q,λb h i o j p l m=>by
  let⟨e,s⟩:=Q9 S l m.tab
  calc k _ _ i _ _ _ e s⟩
end
end L2
namespace LJ
open PySem L2 PySem.Spec PySem.W PyProof.Rows
section
variable[zt:aB]{X:Cx}{k j n:Nat}{x:π}{ps:-π}{p pos:Ε}{e:υ}{es:-υ}{fa:WA}{G:GD}
theorem Rc(F:Fx ⟨X.prog,X.w,X.K,X.mg,X.base⟩ j x ps n G)(c:aV k X.A)(d:JA X (e::es) (bM fa))(hj:‹q3y j k=θ›)(f:‹Gl X x›)(a: ~~~(bB x))(he:‹cI X e es›)(b:‹cX X pos es›):
  JE X (.Call (.Name x p) (e::es) [] pos) (tD (cy n G fa)):=let⟨_,_,F⟩:=F.ex;M1 F.ok (c.mono (Y1 hj)) f F.pw F.kp F.bd d a he b
end
end LJ
namespace L2
open PySem PySem.Spec PyProof.Rows
def jP(h:Α)(a C:Z)(e T:Option Z)(f:ν):Prop :=
 ∃b g,h.get? a=ζ ⟨.ref C,e,.fields b,g⟩/\b[1]?=ζ (T.elim XY XH)/\∀t,T=ζ t->t≠a/\∃c d,h.get? t=ζ c/\c.data=.fields d/\d[3]?=ζ f
structure fT(fs:-Z)(a:Z)(T:Option Z)(h h':Α):Prop where
 keep:∀b o,b≠a->ζ b≠T->b∉fs->h.get? b=ζ o->h'.get? b=ζ o
 slot:∀b o,b≠a->ζ b≠T->h.get? b=ζ o->∃sl,h'.get? b=ζ {o with slots:=sl}
section
variable{M:Model}{A:Β}{E:aJ}{s:ο}{env:Ζ}{outer:-Ζ}{base:Α}{L a C:Z}{dx T:Option Z}{Q:Unit->ο->Prop}
theorem ED{g hn vs z}(k:A.frames=ζ (env::outer))(q:s.heap.FunFrames base (env::outer))(B:env.frame=ζ L)
  (he:s.heap.get? a=ζ ⟨.ref C,dx,.fields vs,z⟩) (hsz:1<vs.size)
  (h:∀h' r,jP h' a C dx (ζ r) (rawInt L)->s.heap.get? r=η->fT (d8 (env::outer)) a η s.heap h'->Q () {s with heap:=h'}) :
  ρ M A (do let x <- frameOf env;let u <- entryPlaceOf L hn;let b <- EntryCells.newEntry g x .none (rawInt L) .none u;setField (.ref a) 1 b) Q E s:=by
 let F:a∉(env::outer).filterMap (·.frame):=λD=>by
  let⟨_,o,v,l⟩:=q.mem D;rw[he] at v;cases v;exact l vs Y
 calc dV (wpAny_frameOf_fun k q B λi j=>dV (wpAny_entryPlaceOf λu m=>dV (Y7 ?_ (m.sizeOk5 _ _ _ _ _))));let d:=(j.2.1 a F).trans he;calc ZF (mi _ d) Y hsz ?_;let w:=Zd (Vo d)
 let c:∀b o,b≠a->i.get? b=ζ o->∀y f,((i.push y).update a f).get? b=ζ o:=λb o n e y f=>by
  rw[XI _ _ (YD n)];exact mi _ e
 refine h _ i.objs.size (zI2 _ _ ⟨XC _ (mi _ d) Y,?_,λt e=>?_⟩) ?_ ⟨λb o n _ l e=>?_,λb o n _ e=>?_⟩
 .simp[hsz]
 .cases e
  calc⟨w,_,_,(XI _ _ (YD w)).trans (Vs i Y),Y,?_⟩;rfl
 .rw[Z0]
  rw[j.1];exact vr _
 .exact c b o n ((j.2.1 b l).trans e) _ _
 .let⟨p,G⟩:=j.2.2 b o e
  calc⟨p,c b _ n G _ _⟩
theorem yy{t l}(f:jP s.heap a C dx (ζ t) l)(h:∀h',jP h' a C dx (ζ t) .none->fT [] a (ζ t) s.heap h'->Q () {s with heap:=h'}):
  ρ M A (setFlight (.ref a) η) Q E s:=by
 let⟨m,p,g,i,r⟩:22:=f;let⟨n,v,w,j,d,q⟩:0122:=r t Y;let k:=(YS.mp q).1;let o:∀b,b≠t->(s.heap.update t (q1w (·.setIfInBounds 3 .none))).get? b=s.heap.get? b:=λb c=>XI _ _ (YD c);refine wpAny_setFlight_none g Y i j d k (h _ (zI2 m p ⟨(o a (YD n)).trans g,i,λt' e=>?_⟩) ⟨λb u _ c _ e=>?_,λb u _ c e=>⟨u.slots,?_⟩⟩)
 .cases e
  exact⟨n,_,_,XC _ j (Zm (Yw d _)),Yw d _,by simp[k]⟩
 .exact (o b λz=>c (by rw[z])).trans e
 .calc (o b λz=>c (by rw[z])).trans e
theorem EE(d:A.frames=ζ (env::outer))(v:s.heap.FunFrames base (env::outer))(k:env.frame=ζ L)(f:jP s.heap a C dx T .none)
  (h:∀h' c,jP h' a C dx (ζ c) (rawInt L)->s.heap.get? c=η->fT (d8 (env::outer)) a T s.heap h'->Q () {s with heap:=h'}):ρ M A (noteFrame (.ref a) env) Q E s:=by
 let⟨H,I,l,w,r⟩:22:=f;let x:=(YS.mp w).1;unfold noteFrame;erw[k];refine dV (ZL l Y w ?_)
 cases T with
 |none =>
  exact ED d v k l x h
 |some t =>
  let⟨n,oT,F,i,j,y⟩:0122:=r t Y;calc dV (ZL i j y (dV (ZF i j ((YS.mp y).1) ?_)));let o:∀b,b≠t->(s.heap.update t (q1w (·.setIfInBounds 3 XY))).get? b=s.heap.get? b:=λb g=>XI _ _ (YD g);refine ED d (v.of_keeps λb u e m=>⟨u,(o b λz=>?_).trans e,Y⟩) k ((o a (YD n)).trans l) x λD c G p B=>h D c G ?_ ⟨λb u q g m e=>B.keep b u q (by simp) m ((o b λz=>g (by rw[z])).trans e),λb u q g e=>B.slot b u q (by simp) ((o b λz=>g (by rw[z])).trans e)⟩
  .rw[z,i] at e;cases e
   exact m F j
  .by_cases z:c=t
   .rw[z,XC _ i (Zm (Yw j _))] at p;cases p
   .calc (o c z).symm.trans p
theorem Rf(d:A.frames=ζ (env::outer))(m:s.heap.FunFrames base (env::outer))(n:env.frame=ζ L)(f:jP s.heap a C dx T .none)
  (h:∀h' j,jP h' a C dx (ζ j) .none->s.heap.get? j=η->fT (d8 (env::outer)) a T s.heap h'->Q () {s with heap:=h'}):ρ M A (leaving env (.ref a)) Q E s:=by
 refine dV (EE d m n f λw T' p g k=>yy p λq r l=>h q T' r g ⟨λb o c i t e=>?_,λb o c i e=>?_⟩)
 .exact l.keep b o c (λz=>by cases z;rw[g] at e;cases e) (by simp) (k.keep b o c i t e)
 .let⟨u,v⟩:=k.slot b o c i e
  calc⟨u,l.keep b _ c (λz=>by cases z;rw[g] at e;cases e) (by simp) v⟩
end
def eG(P:ψ)(w:ω):iF:=λb H s E e c=>∃(a C:Z)(f:Option Z)(T:Z)(d:Hp),e=.ref a/\c.os=s.os/\AllBare c.gens/\Un (d8 b) [] H d s.heap c.heap/\cF P w d c.heap ∧
 jP c.heap a C f (ζ T) .none/\d a=η/\d T=η/\s.heap.get? a=η/\s.heap.get? T=η/\E (.ref C) f d
section
variable{X:Cx}{P:ψ}{w:ω}{K:KH}{mg:π->Option ν}{base:Α}{N:-π}{qual:π}{scope:Δ}{f:Z}{cd:ν}{A:Β}{outer:-Ζ}{s:ο}{H:Hp}{E:XK}
theorem Un.mZ{fs:-Z}{H H':Hp}{h g h':Α}{a:Z}{T:Option Z}(u:Un fs [] H H' h g)(p:∀o,h.get? a=ζ o->H a=η->False)(f:∀t,T=ζ t->h.get? t=η)(s:∃o,h'.get? a=ζ o)(x:fT fs a T g h')(r:H' a=η)(v:∀b∈fs,H' b=η):Un fs [] H H' h h' where
 keep:=λb o e n i d=>x.keep b o (λz=>by subst z;calc p o e n) (λz=>by rw[f b z.symm] at e;cases e) i (u.keep b o e n i d)
 slot:=λb o e n i d=>by
  let⟨w,j⟩:=u.slot b o e n i d;let⟨k,l⟩:=x.slot b _ (λz=>by subst z;calc p o e n) (λz=>by rw[f b z.symm] at e;cases e) j;exact⟨k,l⟩
 free:=u.free
 there:=λb o e d=>by
  let⟨y,j⟩:=u.there b o e d
  by_cases c:b=a
  .rw[c];exact s
  .let⟨w,l⟩:=x.slot b y c (λz=>by rw[f b z.symm] at e;cases e) j
   exact⟨_,l⟩
 cM:=u.cM
 dF:=u.dF
 d7:=u.d7
 dG:=λb m o q e d=>x.keep b o (λz=>by subst z;rw[u.cM b m q] at r;cases r) (λz=>by rw[f b z.symm] at e;cases e) (λz=>by let:=v b z;rw[u.cM b m q] at this;cases this) (u.dG b m o q e d)
theorem cF.mZ{H':Hp}{g h':Α}{fs:-Z}{a:Z}{T:Option Z}(k:cF P w H' g)(h:H' a=η)(i:∀t,T=ζ t->H' t=η)(j:∀b∈fs,H' b=η)(x:fT fs a T g h'):cF P w H' h':=λb o e=>by
 let f:∀c,(c=b\/H' c=ζ (.own b))->H' c≠η:=λc d z=>by
  rcases d with rfl|d
  .rw[e] at z;cases z
  .rw[d] at z;cases z
 calc(k b o e).dE (λc v d z=>x.keep c v (λq=>f c d (by rw[q];calc h)) (λq=>f c d (i c q.symm)) (λq=>f c d (j c q)) z) (λc z=>z) λc l z=>z
theorem yz{h h' a:Α}:∀{l:-Ζ},(∀b∈d8 l,∀o,h.get? b=ζ o->∃f,h'.get? b=ζ {o with slots:=f})->h.FunFrames a l->h'.FunFrames a l
 |[],_,_=>trivial
 |c::r,k,⟨g,⟨L,o,d,i,j,m⟩,n⟩=>by
  let p:L∈d8 (c::r):=by unfold d8;rw[ZA,d];exact Vr
  let⟨f,e⟩:=k L p o j;calc⟨g,(zI2 L _ ⟨d,i,e,m⟩),yz (λb q=>k b (by unfold d8;rw[ZA,d];calc Bi _ q)) n⟩
theorem EF{d:ax}{D:St}{k H':Hp}{g c:ο}{a C:ξ}{l T:Option ξ}(G:X=bC (eG P w) P w K mg base N qual scope f cd A outer s H E)(I:Inv X d D k g)(L:c.os=g.os)(M:AllBare c.gens)(u:Un (d8 X.stack) [] k H' g.heap c.heap)(n:cF P w H' c.heap)(F:jP c.heap a C l T .none)
  (m:H' a=η) (p:∀t,T=ζ t->H' t=η/\g.heap.get? t=η) (O:∀o,g.heap.get? a=ζ o->k a=η->False) (Q:s.heap.get? a=η) (q:E (.ref C) l H'):X.xe (.ref a) c:=by
 subst G
 let r:∀b∈d8 (envOfC qual scope ⇑s f cd::outer),H' b=η:=λb i=>by
  let⟨_,o,R,_⟩:=I.stack.mem i;exact u.free b o R (I.dH b i) (by simp)
 calc Rf   I.ok.frames (yz (λb i o e=>u.any e (I.dH b i) (by simp)) I.stack) rfl F λS j v x y=>?_;let U:=u.mZ O (λt e=>(p t e).2) (by let⟨Y,Z,e,_⟩:21:=v;calc⟨_,e⟩) y m r;let J:=I.ib (s':={c with heap:=S}) L U (n.mZ m (λt e=>(p t e).1) r y) M (λb z=>absurd z (by simp))
 let h:∀b,c.heap.get? b=η->s.heap.get? b=η:=λb e=>by
  cases q:s.heap.get? b with
  |none=>rfl
  |some o =>
   let⟨V,W⟩:=I.base.there b o q (XJ);let⟨o2,B⟩:=u.there b V W (by simp);rw[e] at B;cases B
 refine(zI5 a C l j H' ⟨rfl,J.os,J.bare,J.base,J.aM,v,m,?_,Q,h j x,q⟩)
 cases z:H' j with
 |none=>rfl
 |some o =>
  let⟨ob,e⟩:=By (n j o z);rw[x] at e;cases e
theorem Rg:kD (eG P w) (bC (eG P w) P w K mg base N qual scope f cd A outer s H E) E:=λb n p r e v I h=>by
 let⟨a,C,x,T,y,rfl,g,i,u,j,F,k,l,c,m,q⟩:5901:=h;refine EF Y I g i u j F k (λt e=>by cases e;calc⟨l,m⟩) (λo e _=>by rw[c] at e;cases e) ?_ q
 cases z:s.heap.get? a with
 |none=>rfl
 |some o =>
  let⟨B,d⟩:=I.base.there a o z (XJ);rw[c] at d;cases d
meta def gM(H:Hp)(a:Z):Hp:=λb=>if b=a then η else H b
theorem oo{H:Hp}{a b:Z}(n:b≠a):gM H a b=H b:=Vq n
theorem Un.del{fs:-Z}{H:Hp}{h:Α}{a C:Z}{c:Option Z}(e:H a=ζ (d_ a C c)):Un fs [] H (gM H a) h h where
 keep:=λ_ _ e _ _ _=>e
 slot:=λ_ o e _ _ _=>⟨o.slots,e⟩
 free:=λb o _ n _=>by
  unfold gM;split
  .rfl
  .exact n
 there:=λb o e _=>⟨o,e⟩
 cM:=λb d q=>by rw[oo (kj q e (by ext z;cases z))];exact q
 dF:=λb o d q=>by rw[oo (kj q e (by ext z;cases z))];exact q
 d7:=λb f q=>⟨#[],by rw[oo (kj q e (by ext z;cases z)),q];simp⟩
 dG:=λb _ o _ e _=>e
theorem cF.del{H:Hp}{h:Α}{a C:Z}{g:Option Z}(k:cF P w H h)(e:H a=ζ (d_ a C g)):cF P w (gM H a) h:=λb o q=>by
 rw[oo (λz=>by unfold gM at q;rw[W_ z] at q;cases q)] at q;let d:∀c x,H c=ζ x->(∀f,x≠.ext f)->c≠a:=λc x z n y=>by rw[y,e] at z;cases z;exact n _ Y
 calc(k b o q).dE (λc v i z=>z) (λc z=>by rw[oo (d c _ z (by ext f y;cases y))];calc z) λc j z=>by rw[oo (d c _ z (by ext f y;cases y))];calc z
theorem b9.exc{l:-ν}(x:b9 K l):l.contains (.type "BaseException")=θ:=by
 induction x with
 |base=>decide
 |own _ _ _ a=>rw[q0k,a,q0Y]
theorem Rh{M:Model}{A:Β}{env:Ζ}{E:aJ}{s:ο}{x:Sem ν}{Q:Flow->ο->Prop}(g:A.handled=η)
  (h:ρ M A x (λv c=>∃a C d b,v=.ref a/\pf K C b/\K.In c.heap/\jP c.heap a C d η .none/\E (.ref a) c) E s):ρ M A (raiseStmt env (ζ x) η) Q E s:=by
 calc dV (Yl h (λv c i=>?_) λ_ _ z=>z);let⟨a,C,d,b,rfl,m,k,⟨y,B,j,n,_⟩,o⟩:44:=i;let⟨D,q,N,F,p,e,G,r,H,u,I,J,L,O,P,R,l,t,_⟩:9072:=m.Bx;let f:=k _ _ l;let w:(XH C::p).contains (.type "BaseException")=θ:=by rw[q0k,t.exc,q0Y]
 repeat(first|with_reducible refine ZV j ?_|with_reducible refine ZV f ?_|(with_reducible calc q2I f ?_;rw[w])|wp_step)
 rw[n];calc nF (nF (wpAny_raiseNew_none g o))
def Ri(K:KH)(e:Hp)(f:TE)(E:XK):TS:=λ_ g H=>f g H λv c=>∃(a C:Z)(d:Option Z)(b:Option ν),v=.ref a/\c a=ζ (d_ a C d)/\pf K C b/\e a=η/\E (.ref C) d (gM c a)
theorem Rj{e:υ}{j:TE}{pos:Ε}(b:X=bC (eG P w) P w K mg base N qual scope f cd A outer s H E)(he:JE X e j):JS X (.Raise (ζ e) η pos) (Ri X.K X.H₀ j E):=by
 calc⟨?_⟩;ext d p x y D I h;let B:X.calm=θ:=by rw[b];rfl
 calc dV (Zw (Rh (K:=X.K) (I.ok.hd B) (dV (aX (he d p x y _ I h) λu G ⟨v,T,c,r,a,C,k,i,J,g,m,L,q⟩=>dV (Zw (nF ?_))))));subst J;obtain rfl:u=XH a:=r;let⟨t,M⟩:=Bw (c.aM a _ g);let F:jP G.heap a C k η .none:=(zI2 _ _ ⟨M,Y,λ_ z=>nomatch z⟩);calc(zI4 a C k i ⟨Y,m,c.dY,F,?_⟩);let O:X.prog=P:=by rw[b];rfl
 let Q:X.w=w:=by rw[b];rfl
 let l:=c.aM;rw[O,Q] at l;calc EF b c Y c.bare (Un.del g) (l.del g) F (W_ Y) (λ_ z=>nomatch z) (λo _ n=>by rw[g] at n;cases n) ?_ q;let R:X.s₀=s:=by rw[b];rfl
 let S:X.ex=[]:=by rw[b];rfl
 cases z:s.heap.get? a with
 |none=>rfl
 |some o =>
  let:=c.base.free a o (by rw[R];calc z) L (by rw[S];calc XJ);rw[g] at this;cases this
end
meta def eC(a C:Z)(b:Option Z):HO:=.ext λh=>∃c d,h.get? a=ζ ⟨.ref C,b,.fields c,d⟩
theorem Rk{P w H h a C f vs g}(e:h.get? a=ζ ⟨.ref C,f,.fields vs,g⟩):aP P w H h a (eC a C f) :=
 ⟨(zI2 vs g e),⟨_,e⟩,λj l b k=>by let⟨c,d,i⟩:2:=b;calc(zI2 c d (k _ i))⟩
theorem EG{P w H h a C b}(x:aP P w H h a (eC a C b)):∃vs c,h.get? a=ζ ⟨.ref C,b,.fields vs,c⟩:=x.1
theorem fT.more{fs a t T h f g}(x:fT fs a T h f)(n:h.get? t=η)(y:fT [] a (ζ t) f g):fT fs a T h g where
 keep:=λb o c d i e=>y.keep b o c (λz=>by cases z;rw[n] at e;cases e) (by simp) (x.keep b o c d i e)
 slot:=λb o c d e=>by
  let⟨j,k⟩:=x.slot b o c d e;calc⟨j,y.keep b _ c (λz=>by cases z;rw[n] at e;cases e) (by simp) k⟩
section
variable{X:Cx}{pins jN:ax}{σ:St}{H:Hp}{s:ο}{E:aJ}
theorem Inv.qE(I:Inv X pins σ H s):Inv {X with pn:=X.pn++pins,xe:=E} [] σ H s :=
 ⟨⟨I.ok.mod,I.ok.kind,I.ok.glob,I.ok.blt,I.ok.above,I.ok.inj,I.ok.has,I.ok.km,I.ok.hd,I.ok.frames,I.ok.lV,I.ok.oF,I.ok.bs,I.ok.ja,I.ok.fX,I.ok.gW,I.ok.cY,I.ok.ju⟩,I.os,I.bare,I.base,I.loc,I.cell,I.free,I.bI,λp a=>I.pin p a⁻¹,I.aM,I.len⟩
theorem Inv.fU(I:Inv {X with pn:=X.pn++pins,xe:=E} jN σ H s):Inv X pins σ H s :=
 ⟨⟨I.ok.mod,I.ok.kind,I.ok.glob,I.ok.blt,I.ok.above,I.ok.inj,I.ok.has,I.ok.km,I.ok.hd,I.ok.frames,I.ok.lV,I.ok.oF,I.ok.bs,I.ok.ja,I.ok.fX,I.ok.gW,I.ok.cY,I.ok.ju⟩,I.os,I.bare,I.base,I.loc,I.cell,I.free,I.bI,λp a=>I.pin p (Xv _ a),I.aM,I.len⟩
theorem Inv.toSub{A}(I:Inv X pins σ H s)(e:A.frames=X.A.frames):Inv {X with A:=A,calm:=false,xe:=E} pins σ H s :=
 ⟨⟨I.ok.mod,I.ok.kind,I.ok.glob,I.ok.blt,I.ok.above,I.ok.inj,I.ok.has,I.ok.km,(λz=>by cases z),e.trans I.ok.frames,I.ok.lV,I.ok.oF,I.ok.bs,I.ok.ja,I.ok.fX,I.ok.gW,I.ok.cY,I.ok.ju⟩,I.os,I.bare,I.base,I.loc,I.cell,I.free,I.bI,I.pin,I.aM,I.len⟩
theorem Inv.qF{A}(I:Inv {X with A:=A,calm:=false,xe:=E} pins σ H s)(k:X.Ok):Inv X pins σ H s :=
 ⟨k,I.os,I.bare,I.base,I.loc,I.cell,I.free,I.bI,I.pin,I.aM,I.len⟩
theorem Inv.blank(I:Inv X pins σ H s):Inv X pins (Xb ↑σ η) H s :=
 ⟨I.ok,I.os,I.bare,I.base,let⟨m,a,_⟩:=I.loc;⟨m,a,λi x v _ e _=>by rw[ZG] at e;split at e<;>cases e⟩,I.cell,I.free,I.bI,I.pin,I.aM,by rw[Y0];calc I.len⟩
theorem Inv.locs{a:St}{h' l t'}(I:Inv X pins σ H s)(hn:h'.Ns X.env.locals l)(f:Z3 X.env.locals s.heap h')
  (B:∀(i:Nat) x v,X.N[i]?=ζ x->a[i]?=ζ (ζ v)->nz X.env.scope x->∃u,RelV v u/\Look X.env h' l x u) (r:↑a=↑X.N):Inv X pins a H {s with heap:=h',toks:=t'}:=by
 let⟨m,⟨L,_,_,C,_⟩,_⟩:=id I.loc;let j:∀b o,X.s₀.heap.get? b=ζ o->b≠X.env.locals:=λb o e=>W8 (Xe (Vo e) I.ok.above);refine⟨I.ok,I.os,I.bare,⟨λb o e n t g=>(f.2 b (j b o e)).trans (I.base.keep b o e n t g),λb o e n t g=>?_,I.base.free,λb o e g=>?_,I.base.cM,I.base.dF,I.base.d7,λb D o h e g=>(f.2 b (j b o e)).trans (I.base.dG b D o h e g)⟩,⟨l,hn,B⟩,λy c e=>?_,I.free,I.bI,λp E=>?_,λb F e=>?_,r⟩
 .let⟨G,h⟩:=I.base.slot b o e n t g
  exact⟨G,(f.2 b (j b o e)).trans h⟩
 .let⟨J,h⟩:=I.base.there b o e g
  exact⟨J,(f.2 b (j b o e)).trans h⟩
 .let⟨w,z⟩:=I.cell y c e
  exact⟨w,z.sameBut f (I.oG y c e)⟩
 .let⟨e,n,A,K,d⟩:04:=I.pin p E
  exact⟨(f.2 p.1 A).trans e,n,A,K,d⟩
 .refine (I.aM b F e).dE (λc w k q=>(f.2 c ?_).trans q) (λ_ q=>q) λ_ _ q=>q
  ext rfl;rcases k with rfl|k
  .rw[I.free] at e;cases e
  .rw[I.free] at k;cases k
theorem name_goes{M A}{E:aJ}{Q:Unit->ο->Prop}{i n pos}(I:Inv X pins σ H s)(t:X.N.Nodup)(d:X.N[i]?=ζ n)(f:X.env.scope.names.lookup n=ζ .local)
  (h:∀s',Inv X pins (σ.set i η) H s'->Q () s'):ρ M A (do bindName X.env n .none;unbindBehindTheSuite X.env n pos) Q E s:=by
 calc dV (wpAny_bindName (q_ (v:=.non)  I t d (.inl f) Y (λL x=>?_) (.inr f)));let F:(X.env.scope.kind==.class||(X.env.scope.kind==.module&&X.env.locals != X.env.globals))=ι:=by rw[I.ok.kind];rfl
 let B:X.env.kindOf n=ζ .local:=f;calc wpAny_onRaise (dV (wpAny_point (dV ?_)));unfold deleteName;erw[B,F];let⟨m,G,C⟩:11:=id x.loc;let a:i<↑σ:=by rw[I.len];exact(mj.mp d).1
 let⟨O,P,J⟩:=C i n .non d (by rw[XD a]) (.inl f)
 let o:(m n).isSome=θ:=by
  rcases J with⟨_,e⟩|⟨k,_⟩
  .rw[e];rfl
  .rcases k with k|k<;>(rw[B] at k;cases k)
 calc dV (wpAny_nsDel_keeps G λR v p b=>?_);rw[o];calc nF (wpAny_point (h _ (x.locs  p b (λj y w D g K=>?_) (by rw[Yr];calc I.len))));let q:j≠i:=λz=>by rw[z,XD a] at g;cases g
 rw[XM (YD q)] at g;let⟨u,r,l⟩:=C j y w D (by rw[XM (YD q)];calc g) K;calc⟨u,r,?_⟩;rcases l with⟨k,e⟩|⟨k,c,e,z⟩
 .refine .inl ⟨k,?_⟩
  let:y≠n:=λe=>q (uE t D (e▸d));simp[this,e]
 .calc .inr ⟨k,c,e,z.sameBut b (I.oG y c e)⟩
end
section
variable{X:Cx}{body fV:-χ}{b0:χ}{x n:π}{p1 p2 pos:Ε}{L:Z}{i:Nat}{tb:XK->TS}{th:TS}
def Rm(K:KH)(L:Z)(i k:Nat)(d:TS)(D:Ends):XK:=λC e b=>∃c,C=.ref c/\q0A K C (.ref L)=ζ θ ∧
 ∀a,b a=η->d {nx:=λf H=>D.nx (f.set i η) H,rt:=λ_ _=>False} ((Xb k η).set i (ζ (.ref a))) (upd b a (eC a c e))
def yA(K:KH)(L:Z)(i:Nat)(tb:XK->TS)(b:TS):TS:=λD a H=>tb (Rm K L i ↑a b D) D a H
theorem Rn(j:X.stack=X.env::X.outer)(Ro:X.env.frame=ζ X.env.locals)(nd:X.N.Nodup)(hi:X.N[i]?=ζ n)(hk:X.env.scope.names.lookup n=ζ .local)(hg:Gl X x)(hm:X.mg x=ζ (.ref L))(Rp:bB x)
  (B:∀pn xe E,kD (eG X.prog X.w) {X with pn:=pn,xe:=xe} E->b3 {X with pn:=pn,xe:=xe} body (tb E)) (hs:∀A xe,b3 {X with A:=A,calm:=false,xe:=xe} (b0::fV) th) :
  JS X (.Try body [.ExceptHandler (ζ (.Name x p1)) (ζ n) (b0::fV) p2] [] [] pos) (yA X.K L i tb th):=by
 calc⟨?_⟩;ext g s σ H D I h;calc wpAny_Try_except ?_;refine Yl (B (X.pn++g) (λe l=>ρ (ς X.prog X.w) X.A (noteFrame e X.env) (λ_ s2=>ρ (ς X.prog X.w) X.A (setFlight e η) (λ_ s3=>ρ (ς X.prog X.w) X.A (handleBy e X.env [.ExceptHandler (ζ (.Name x p1)) (ζ n) (b0::fV) p2]) (SP X g D) X.xe s3) X.xe s2) X.xe l) _ ?_ [] s σ H D I.qE h) (λf l V=>?_) (λe l z=>z)
 .ext jN d H1 l e s' M hx
  let⟨a,C,dx,T,H',rfl,os,ba,u,ok,F,G,hT,a0,t0,c,ec,em,q⟩:590112:=hx;cases ec
  let hA:X.A.frames=ζ (X.env::X.outer):=by rw[<-j];exact I.ok.frames
  let O:l.heap.FunFrames X.base (X.env::X.outer):=by rw[<-j];exact M.stack
  let P:∀b∈d8 (X.env::X.outer),H1 b=η:=by rw[<-j];exact M.dH
  let u:Un (d8 (X.env::X.outer)) [] H1 H' l.heap s'.heap:=by rw[<-j];exact u
  let fk:s'.heap.FunFrames X.base (X.env::X.outer):=yz (λb B o e=>u.any e (P b B) (by simp)) O
  let Y:∀b∈d8 (X.env::X.outer),H' b=η:=λb B=>by
   let⟨_,o,ho,_⟩:=O.mem B;exact u.free b o ho (P b B) (by simp)
  let na:∀o,l.heap.get? a=ζ o->H1 a=η->False:=λo e _=>by rw[a0] at e;cases e
  let inv:∀h,fT (d8 (X.env::X.outer)) a (ζ T) s'.heap h->(∃o,h.get? a=ζ o)->Inv X g d H' {s' with heap:=h}:=λh x e =>
   Inv.fU (M.ib (s':={s' with heap:=h}) os (by show Un (d8 X.stack) _ _ _ _ _;rw[j];calc u.mZ na (λt e=>by cases e;calc t0) e x G Y) (ok.mZ G (λt e=>by cases e;calc hT) Y x) ba (λb z=>absurd z (by simp)))
  calc EE hA fk Ro F λh4 T4 x1 x2 x3=>?_;calc yy x1 λh5 y1 y2=>?_;let e5:=x3.more x2 y2;let⟨V0,V6,Q,_⟩:21:=id y1;let J5:=inv h5 e5 ⟨_,Q⟩;calc wpAny_handleBy_cons (codeAny_handlers_test (rh (X:={X with A:=X.A.mark (ζ (.ref a)),calm:=false,xe:=λ_ _=>False}) (J5.toSub rfl) hg hm (PySem.W.Looks.here (PySem.W.exm_one J5.dY ((PySem.W.Looks.ld Q).andThen .now) em) (codeAny_handlers_suite_as (yy y1 λh6 z1 z2=>?_))) Rp)) (by ext q;cases q);let e6:=e5.more x2 z2;let⟨V7,V8,R,_⟩:21:=id z1;let k:=u.mZ na (λt e=>by cases e;calc t0) ⟨_,R⟩ e6 G Y;let S:∀b y,H' b=ζ y->b≠a:=λb y e z=>by rw[z,G] at e;cases e
  let J6:=by
   let:=Inv.blank (Inv.fU (M.ib (s':={s' with heap:=h6}) (H':=upd H' a (eC a C dx)) os (by
    rw[j]
    calc⟨k.keep,k.slot,λb o e n nx=>by rw[aG (λz=>by rw[z,a0] at e;cases e)];calc k.free b o e n nx,k.there,λb J e=>by rw[aG (S _ _ (k.cM b J e))];calc k.cM b J e,λb o J e=>by rw[aG (S _ _ (k.dF b o J e))];calc k.dF b o J e,λb ps e=>by let⟨U,e'⟩:=k.d7 b ps e;calc⟨U,by rw[aG (S _ _ e')];calc e'⟩,k.dG⟩)
    (λb o e=>by
     by_cases c:b=a
     .subst c;rw[bj] at e;cases e;exact Rk R
     .rw[aG c] at e
      calc((ok.mZ G (λt e=>by cases e;calc hT) Y e6) b o e).dE (λ_ _ _ z=>z) (λc z=>by rw[aG (S _ _ z)];calc z) λc J z=>by rw[aG (S _ _ z)];calc z) ba (λb z=>absurd z (by simp))))
   rwa [M.len.trans I.len.symm] at this
  refine q_  J6 nd hi (.inl hk) (v:=.ref a) rfl (λs7 I7=>Yl (hs (X.A.mark (ζ (.ref a))) _ g s7 _ _ _ (I7.toSub rfl) (q a G)) (λf s8 Z=>?_) (λe s8 z=>z)) (.inr hk)
  cases f with
  |next =>
   let⟨σ9,H9,I9,m⟩:21:=Z;exact name_goes (I9.qF I.ok) nd hi hk λs9 J9=>(zI2 _ _ ⟨J9,m⟩)
  |brk=>let⟨_,_,_,m⟩:21:=Z;exact Xu m
  |cont=>let⟨_,_,_,m⟩:21:=Z;exact Xu m
  |ret v=>let⟨_,_,_,_,_,m⟩:32:=Z;exact Xu m
 .cases f with
  |next =>
   let⟨d,H',p,q⟩:=V;exact q0e ⟨d,H',p.fU,q⟩
  |brk=>let⟨d,H',p,q⟩:=V;exact⟨d,H',p.fU,q⟩
  |cont=>let⟨d,H',p,q⟩:=V;exact⟨d,H',p.fU,q⟩
  |ret u=>let⟨v,d,H',p,r,q⟩:32:=V;calc(zI3 v d H' ⟨p.fU,r,q⟩)
end
section
variable{X:Cx}{pins:ax}{σ:St}{H:Hp}{s:ο}{e:υ}{ta:TE}{pos:Ε}
theorem Rq{a f g c b A}{j:aJ}{Q:aJ}(I:Inv X pins σ H s)(k:H a=ζ (eC a f g))(l:bu X.K f)(hd:∀d,g=ζ d->∃fs,H d=ζ (.xd fs))
  (e:Xk X.K (.ref f) c=ζ b) (h:∀tk,Q (.bool b) {s with toks:=tk}):ρ (ς X.prog X.w) A (call (.builtin "isinstance") [.ref a,c]) Q j s:=by
 let⟨r,t,i⟩:2:=EG (I.aM a _ k);refine Yq (Lj l) I.dY ?_ e (λz=>nomatch z) h
 cases g with
 |none=>exact(zI2 _ η ⟨i,Y,Y,trivial⟩)
 |some d =>
  let⟨q,m⟩:=hd d Y;let⟨u,n,_⟩:=(I.aM d _ m);let⟨o,p,_⟩:=u2 n;calc(zI2 _ (ζ o) ⟨i,Y,Y,p⟩)
theorem Rr:fc X (.builtin "isinstance") (λxs H Q=>∃a C f y c b,xs=[.ref a,y]/\kI y=ζ c/\H a=ζ (eC a C f)/\bu X.K C/\(∀d,f=ζ d->∃fs,H d=ζ (.xd fs))/\Xk X.K (.ref C) c=ζ b/\Q (.bl b) H):=by
 ext g s t H r v Q I i h;let⟨a,C,f,y,c,b,rfl,j,k,l,m,e,q⟩:66:=h;let⟨u,w,rfl,n,o⟩:22:=i.two;cases n
 rw[Bz o j];calc Rq I k l m e λp=>⟨.bl b,H,I.tok p,Y,q⟩
def EH(K:KH)(ta:TE)(f:π):TE:=λe H Q=>ta e H λx b=>∃a C d c v,x=.ref a/\b a=ζ (eC a C (ζ d))/\bu K C/\oV K C f/\b d=ζ (.xd c)/\c.lookup f=ζ v/\Q v b
theorem Rt{g}(he:JE X e ta)(m:attributeBase e g X.env (eval e X.env)=eval e X.env):JE X (.Attribute e g pos) (EH X.K ta g):=by
 calc⟨λb s o H Q I h=>J8 m (aX (he b s o H _ I h) ?_)⟩;ext u J ⟨x,p,i,t,a,C,d,L,v,w,y,c,n,z,l,q⟩;subst w;obtain rfl:u=XH a:=t;let⟨M,N,A⟩:2:=EG (i.aM a _ y);let⟨O,B,D⟩:=(i.aM d _ z);let⟨P,E,F⟩:=u2 B;let⟨R,j,S,f⟩:12:=c.cd;let r:=D g;rw[l] at r;let⟨u,G,k⟩:=r.some_of;calc Le i.dY ⟨A,Y,Y,E⟩ c.ga c.gh c.base (PySem.W.findObj_own (by rw[q3h,j];simpa using f) n Y (by rw[F,G])) (J0 k) ⟨v,p,i.tok _,k,q⟩
end
theorem fM.tH{P w K l d x b st f m N ps k sp}(F:fM K x b st f m)(S:jW N ps (cn st))(i:∀vs H Q E,sp vs H Q E->↑vs=↑ps)
  (e:∀c A a s H vs Q E,aV k (A.deeper (envOfC b (cn st) ⇑s f c))->sp vs H Q E →
   ∃t,b3 (bC (eG P w) P w K l d N b (cn st) f c A a s H E) (dA st) t/\t {nx:=λ_ H'=>Q .non H',rt:=Q} (start N vs) H):bP P w K l d (eG P w) (k+1) f m ps sp:=by
 let⟨v,y,z,o,B,C,c,D,p,rfl,r,j⟩:92:=F.ex;calc u7 r j S i λA a s H n Q E u h=>?_;let⟨t,g,q⟩:=e c A a s H n Q E u h;calc⟨t,g,q⟩
variable[zt:aB]
structure Kp(H H':Hp):Prop where
 keep:∀a o,H a=ζ o->a∉aB.ad->H' a=ζ o
 tab:aB.ok H'
theorem Kp.none{H H'}(x:Kp H H'){a}(h:H' a=η):H a=η:=by
 cases e:H a with
 |none=>rfl
 |some o =>
  by_cases c:a∈aB.ad
  .let⟨b,q⟩:=aB.tb x.tab c
   rw[h] at q;cases q
  .rw[x.keep a o e c] at h;cases h
abbrev Ru(b:KH):-V->Hp->VK->Prop:=λc H Q=>∃p a,c=[.ref p]/\((bf b H p a/\∀l,H l=η->Q (.ref l) (upd H l (.tup a)))\/(bE b H p a/\Q (.ref p) H))
end L2
namespace LJ
open PySem L2
structure ExcAt(H:Hp)(a C:Z)(dx:Option Z):Prop where
 ob:H a=ζ (eC a C dx)
 dd:∀d,dx=ζ d->∃fs,H d=ζ (.xd fs)
theorem ExcAt.same{H H' a C b}(x:ExcAt H a C b)(s:ay H H'):ExcAt H' a C b:=⟨s _ _ x.ob,λd e=>let⟨c,h⟩:=x.dd d e;⟨c,s _ _ h⟩⟩
structure yB(K:KH)(L:Z)(Cs:-Z):Prop where
 len:Cs.length=13
 each:∀(j:Nat)(C:Z),Cs[j]?=ζ C->bu K C/\Xk K (.ref C) (.ref L)=ζ θ/\Xk K (.ref C) (.type "ValueError")=ζ θ/\∀(i:Nat)(C':Z),Cs[i]?=ζ C'->Xk K (.ref C) (.ref C')=ζ (μ (i=j))
 above:bu K L/\Xk K (.ref L) (.ref L)=ζ θ/\Xk K (.ref L) (.type "ValueError")=ζ θ/\∀(i:Nat)(C':Z),Cs[i]?=ζ C'->Xk K (.ref L) (.ref C')=ζ ι
 iE:∀(j:Nat)(C:Z),Cs[j]?=ζ C->oV K C "place"
meta def cU:-π:=["way", "join", "step", "house", "web", "price", "many", "closed", "free", "nothing", "number", "text", "line"]
theorem jQ{H a o}(h:H a=η):ay H (upd H a o):=λb u e=>by rw[aG (bU e h)];calc e
meta def names13:-π:=["NoWay", "NoJoin", "NoStep", "NoHouse", "NoWeb", "NoPrice", "TooMany", "Closed", "Free", "Nothing", "NoNumber", "NoText", "NoLine"]
meta def dU:-π:=["way", "join", "step", "house", "web", "price", "many", "closed", "free", "nothing", "number", "text"]
structure yC(mg:π->Option ν)(L:Z)(Cs:-Z):Prop where
 yD:mg "isinstance" = η
 VE:mg "ValueError" = η
 Rv:mg "LotError" = ζ (.ref L)
 cls:∀(j:Nat)(x:π),names13[j]?=ζ x->∃C,Cs[j]?=ζ C/\mg x=ζ (.ref C)
theorem Rw:bootBuiltins "ValueError" = ζ (.type "ValueError"):=by decide +kernel
section
variable{X:Cx}{a C:Z}{dx:Option Z}
def qG(a C:Z)(b:Option Z)(v:Bool):TE:=λc H Q=>c[0]?=ζ (ζ (.ref a))/\ExcAt H a C b/\Q (.bl v) H
def k7(a C:Z)(b:Option Z)(vs:-Bool):TA:=λc H Q=>c[0]?=ζ (ζ (.ref a))/\ExcAt H a C b/\Q (vs.map V.bl) H
def m8(a C:Z)(c:Option Z)(vs:-Bool):TE:=λd H Q=>d[0]?=ζ (ζ (.ref a))/\ExcAt H a C c/\∀(l:Z)(b:Hp),ay H b->b l=ζ (.lst (vs.map V.bl))->Q (.ref l) b
def jR(a C:Z)(e:Option Z)(us vs:-Bool):TE:=λc H Q=>∃l:Z,c[0]?=ζ (ζ (.ref a))/\c[1]?=ζ (ζ (.ref l))/\H l=ζ (.lst (us.map V.bl))/\ExcAt H a C e/\∀(d:Z)(b:Hp),ay H b->b d=ζ (.lst ((us++vs).map V.bl))->Q (.ref d) b
theorem yE{y z p q r pos d c v}(f:JE X (.Name y q) (fu 0))(hz:JE X (.Name z r) (tC d))(g:kI d=ζ c)(h:bu X.K C)(i:Xk X.K (.ref C) c=ζ v)(j:Gl X "isinstance")(k:X.mg "isinstance" = η):
  JE X (.Call (.Name "isinstance" p) [.Name y q,.Name z r] [] pos) (qG a C dx v) :=
 (l9 Rr j k q0T (iO f (iO hz a_)) (by decide) (by decide) Y Y).weak λm H Q b=>by let⟨l,e,q⟩:02:=b;calc⟨_,l,a,C,dx,_,_,_,Y,g,e.ob,h,e.dd,i,q⟩
theorem qH:JA X [] (k7 a C dx []):=a_.weak λc H Q b=>by let⟨_,_,q⟩:02:=b;calc q
theorem i9{f as es k p v vs}(h:JE X (.Call f as k p) (qG a C dx v))(r:JA X es (k7 a C dx vs)):JA X (.Call f as k p::es) (k7 a C dx (v::vs)) :=
 (g0 h r).weak λd H Q b=>by let⟨c,e,q⟩:02:=b;calc⟨c,e,c,e,q⟩
theorem qJ{es pos vs}(h:JA X es (k7 a C dx vs))(c:↑vs<=20):JE X (.List es pos) (m8 a C dx vs) :=
 (kC h).weak λf H Q b=>by let⟨d,e,q⟩:02:=b;calc⟨d,e,(by rw[kF];calc gE c),λl c=>q l _ (jQ c) bj⟩
theorem tI{n q p pos es us vs}(d:JE X (.Name n q) (fu 1))(h:JE X (.List es p) (m8 a C dx vs))(f:↑us+↑vs<=20):JE X (.BinOp (.Name n q) .Add (.List es p) pos) (jR a C dx us vs) :=
 (lq rB d h).weak λo H Q b=>by let⟨l,g,i,c,e,q⟩:14:=b;calc⟨_,i,g,e,λm r s j=>(zI4 l m _ _ ⟨Y,Y,s _ _ c,j,(by rw[kF,kF];calc gE f),λp k=>q p _ (s.trans (jQ k)) (by rw[Xj];calc bj)⟩)⟩
theorem Rx{es pos} a (h:strsOf es=ζ a) (b:↑a<=20):JE X (.List es pos) (λ_ H Q=>∀p,H p=η->Q (.ref p) (upd H p (.lst (a.map V.str)))):=LC h (gE b)
theorem Ry{e ta a pos}(he:JE X e ta)(b:attributeBase e a X.env (eval e X.env)=eval e X.env):JE X (.Attribute e a pos) (EH X.K ta a):=⟨Rt he b⟩
end
meta def dW(b:Nat->Bool):-Bool:=[b 0,b 1,b 2,b 3,b 4,b 5,b 6,b 7,b 8,b 9,b 10,b 11,b 12]
meta def cnt(us:-Bool):Nat:=(us.map V.bl).countP λz=>eZ z (.bl θ)
theorem yF:∀us:-Bool,(us.map V.bl).all ir=θ
 |[]=>Y
 |_::a=>by rw[Xm,ZU,yF a];rfl
theorem Rz{j:Nat}(h:j<4):(dU.map V.str)[j]?=ζ (.str (cU.getD j "")):=by
 rcases j with _|_|_|_|j
 .rfl
 .rfl
 .rfl
 .rfl
 .omega
theorem RA{j:Nat}(h:j<13):(dU.map V.str++[V.str "line"])[j]?=ζ (.str (cU.getD j "")):=by
 rcases j with _|_|_|_|_|_|_|_|_|_|_|_|_|j
 .rfl
 .rfl
 .rfl
 .rfl
 .rfl
 .rfl
 .rfl
 .rfl
 .rfl
 .rfl
 .rfl
 .rfl
 .rfl
 .omega
meta def k8(j:Nat)(n:Int):-V:=if j<4 then[.str (cU.getD j ""),.int n] else[.str (cU.getD j "")]
def jS(Cs:-Z):Sp:=λe H Q _=>∃(j:Nat)(n:Int)(a C:Z)(c:Option Z),e=[.ref a]/\j<13/\Cs[j]?=ζ C/\ExcAt H a C c/\(j<4->∃d,c=ζ d/\H d=ζ (.xd [("place",.int n)]))/\∀(l:Z)(b:Hp),ay H b->H l=η->b l=ζ (.lst (k8 j n))->Q (.ref l) b
theorem RB:∀j:Nat,j<13->cnt (dW λi=>μ (i=j))=1:=by decide
theorem EJ{b}{i:Nat}{z}(h:((dW b).map V.bl)[i]?=ζ z):z=.bl (b i):=by
 rw[show dW b=(Xz 13).map b from Y,Xd,KI] at h;let⟨j,e,rfl⟩:=My.mp h;let⟨_,a⟩:=mj.mp e;rw[List.getElem_range] at a;rw[a];rfl
end LJ
namespace LJ
open PySem L2 PySem.Spec PySem.W PyProof.Rows
def qK(C:Z):Sp:=λb H Q _=>∃(a:Z)(n:Int),b=[.ref a,.int n]/\H a=ζ (d_ a C η)/\∀d,H d=η->Q .non (upd (upd H d (.xd [("place",.int n)])) a (d_ a C (ζ d)))
def yG(c:Nat)(n:Int)(a:Option Z)(H:Hp):Prop:=(c<4/\∃d,a=ζ d/\H d=ζ (.xd [("place",.int n)]))\/(4<=c/\a=η)
abbrev gU:=Nat->Int->Prop
section
variable[zt:aB]
def Kept(a:Hp):-Z->-(Option OV)->Hp->Prop:=λc d H=>∀b o,a b=ζ o->b∉aB.ad->H b=ζ o/\¬ Lv c d b
@[reducible] noncomputable def EK (d:gU) (f:Hp):bV:=⟨d,λ_=>Kept f,λE k b o e n=>by
 let⟨a,c⟩:=k b o e n;calc⟨E.keep b o a c n,λl=>?_⟩;rcases E.b8 b l with z|z
 .exact c z
 .rw[a] at z;cases z⟩
def EL(Cs:-Z)(G:gU->GD)(n:Nat):Sp:=λe H Q E=>∃b:gU,ji (G b) n e H Q E/\∀c p,b c p->∀C d a,Cs[c]?=ζ C->Kp H a->yG c p d a->E (.ref C) d a
structure gN[bV](Cs:-Z)(E:XK)(H0:Hp):Prop where
 go:∀{c p C dx F ad mu H'},bV.ok c p->bV.kp F ad mu H'->aB.ok H'->Cs[c]?=ζ C->yG c p dx H'->E (.ref C) dx H'
 fr:∀{F ad mu H' a},bV.kp F ad mu H'->aB.ok H'->H' a=η->H0 a=η
structure EM(P:ψ)(w:ω)(K:KH)(mg:π->Option ν)(base:Α)(x:π)(C:Z):Prop where
 m:mg x=ζ (.ref C)
 ex:∃f fd,pf K C (ζ (.ref f))/\q3t K (.ref f)=θ/\bP P w K mg base eS 1 f fd ["self", "place"] (qK C)/\Binds K fd ["self", "place"] []
def yH(a:gU)(c:Nat)(b:WA):WS:=λ_ d=>b d λe _=>∃n,e=[.p (.int n)]/\a c n
section
variable{P:ψ}{w:ω}{K:KH}{mg:π->Option ν}{base:Α}{N:-π}{qual:π}{scope:Δ}{f:Z}{cd:ν}{A:Β}{outer:-Ζ}{s:ο}{H:Hp}{E:XK}{Cs:-Z}{c:Nat}{C:Z}{x:π}{e:υ}{fe:WA}{p p2 pos:Ε}
theorem RC[bV](I:EM P w K mg base x C)(R:gN Cs E H)(O:Cs[c]?=ζ C)(Q:c<4)(T:aV 2 (A.deeper (envOfC qual scope ⇑s f cd)))(he:JA (bC (eG P w) P w K mg base N qual scope f cd A outer s H E) [e] (bM fe))
  (U:‹Gl (bC (eG P w) P w K mg base N qual scope f cd A outer s H E) x›) (j: ~~~(bB x))
  (V:‹starEach [e] (bC (eG P w) P w K mg base N qual scope f cd A outer s H E).env=(ι,eval e (bC (eG P w) P w K mg base N qual scope f cd A outer s H E).env)::starEach [] (bC (eG P w) P w K mg base N qual scope f cd A outer s H E).env›) (l:‹(backTo p2 (starEach [] (bC (eG P w) P w K mg base N qual scope f cd A outer s H E).env)).any (·.1)=ι›) :
  JS (bC (eG P w) P w K mg base N qual scope f cd A outer s H E) (.Raise (ζ (.Call (.Name x p) [e] [] p2)) η pos) (cB (yH bV.ok c fe)):=by
 let⟨W,fi,X,M,m,Y,Z⟩:=I;calc JS.weak ⟨Rj rfl (Lo M m Y T Z nG U W he j V l)⟩ λD σ H1 ⟨F,ad,δ,K1,S,q,k⟩=>⟨F,ad,δ,λB _=>∃n,B=[.p (.int n)]/\bV.ok c n,S,q,λB δ1 h1 vs F1 Ni h G t V1=>?_⟩;let⟨n,rfl,o⟩:=h1;let⟨v,r,rfl,W1,W2⟩:22:=V1;subst W2 W1;refine⟨by show 1<=sizeLine;decide,λa J=>(zI2 a n ⟨rfl,bj,λd i=>⟨rfl,a,C,ζ d,_,rfl,bj,M,?_,?_⟩⟩)⟩
 .exact R.fr (k.ext G).kp t.tab J
 .let g:d≠a:=λz=>by rw[z,bj] at i;cases i
  let u:=by rw[aG g] at i;exact i
  let eq:gM (upd (upd (upd h a (d_ a C η)) d (.xd [("place",.int n)])) a (d_ a C (ζ d))) a=upd h d (.xd [("place",.int n)]):=by
   funext b;unfold gM;split
   .rename_i z;subst z;rw[aG (λz=>g z.symm)];exact J.symm
   .rename_i z
    rw[aG z]
    by_cases y:b=d
    .subst y;rw[bj,bj]
    .rw[aG y,aG y,aG z]
  rw[eq];let L:ay h (upd h d (.xd [("place",.int n)])):=b_ u;calc R.go o (bV.st (Ext.al t L) (k.ext G).kp) (aB.same t.tab L) O (.inl ⟨Q,d,rfl,bj⟩)
structure Fy(V:Ev)(Cs:-Z)(k:Nat)(x:π)(ps:-π)(n:Nat)(G:gU->GD):Prop where
 ex:∃f fd,bP V.P V.w V.K V.mg V.base (eG V.P V.w) k f fd ps (EL Cs G n)/\V.mg x=ζ (.ref f)/\Ym V.K (.ref f)=θ/\Binds V.K fd ps []
section
variable{X:Cx}{j k n:Nat}{ps:-π}{G:gU->GD}{es:-υ}{fa:WA}
theorem RD[bV](R:gN Cs E H){g e Q F f d h}(S:SR F f d g e)(q:aj n (G bV.ok) fa d h)(k:bV.kp F f d.mu e)(kk:∀x a,h x a->∀v F' b H',Ext F f d.mu e F' b a.mu H'->SR F' b a g H'->dB F' b x v->Q v H'):nC (EL Cs G n) [] E (bM fa) g e Q :=
 ⟨F,f,d,_,S,q,λy l m A B r D i j s=>⟨bV.ok,Cu kk m i j s,λc p o C I w t z u=>R.go o (bV.st (Ext.qi j z.keep z.tab) (bV.st i k)) z.tab t u⟩⟩
theorem RE[bV]{i y a}(Fy:Fy ⟨X.prog,X.w,X.K,X.mg,X.base⟩ Cs j x ps n G)(R:gN Cs E H)(f:kD (eG X.prog X.w) X E)(h:aV k X.A)(l:X.N.Nodup)(m:X.N[i]?=ζ y)(o:Loc X.env.scope y)(r:JA X (e::es) (bM fa))(hj:‹q3y j k=θ›)(s:‹Gl X x›)(b: ~~~(bB x))
  (t:‹cI X e es›) (c:‹cX X p2 es›) (u:‹swapsWith (.Call (.Name x p) (e::es) [] p2) (ζ (.Name y a)) pos.line X.env=pure ι›)
  (z:autoParam (cW X y) qz5._auto_1) :
  JS X (.Assign [.Name y a] (.Call (.Name x p) (e::es) [] p2) pos) (cB (ar i (aj n (G bV.ok) fa))):=by
 let⟨g,U,d,B,C,I⟩:23:=Fy.ex;calc(ko l m o (l6 d (h.mono (Y1 hj)) s B C I .nil f r b t c) u z).weak λD V J ⟨F,W,Y,Z,S,q,k⟩↦RD R S q k.kp λx L M v d O J P Q T=>k.nx _ M _ _ _ _ P (Q.set T)
end
end
def EI(V:Ev)(Cs:-Z)(c:Nat)(x:π):Prop:=c<4/\∃C,Cs[c]?=ζ C/\EM V.P V.w V.K V.mg V.base x C
section
variable{V:Ev}{N:-π}{qual:π}{scope:Δ}{f:Z}{cd:ν}{A:Β}{outer:-Ζ}{s:ο}{H:Hp}{E:XK}{Cs:-Z}{x:π}{e:υ}{fe:WA}{p p2 pos:Ε}{k:Nat}
theorem RF[bV]{c}(d:EI V Cs c x)(R:gN Cs E H)(g:aV k (A.deeper (envOfC qual scope ⇑s f cd)))(he:JA (bC (eG V.P V.w) V.P V.w V.K V.mg V.base N qual scope f cd A outer s H E) [e] (bM fe))(h:‹q3y 2 k=θ›)
  (i:‹Gl (bC (eG V.P V.w) V.P V.w V.K V.mg V.base N qual scope f cd A outer s H E) x›) (a: ~~~(bB x))
  (j:‹starEach [e] (bC (eG V.P V.w) V.P V.w V.K V.mg V.base N qual scope f cd A outer s H E).env=(ι,eval e (bC (eG V.P V.w) V.P V.w V.K V.mg V.base N qual scope f cd A outer s H E).env)::starEach [] (bC (eG V.P V.w) V.P V.w V.K V.mg V.base N qual scope f cd A outer s H E).env›) (b:‹(backTo p2 (starEach [] (bC (eG V.P V.w) V.P V.w V.K V.mg V.base N qual scope f cd A outer s H E).env)).any (·.1)=ι›) :
  JS (bC (eG V.P V.w) V.P V.w V.K V.mg V.base N qual scope f cd A outer s H E) (.Raise (ζ (.Call (.Name x p) [e] [] p2)) η pos) (cB (yH bV.ok c fe)) :=
 let⟨l,_,m,I⟩:=d
 RC I R m l (g.mono (Y1 h)) he i a j b
end
theorem tH{V Cs x st N ps k G}(D:Dx V x st)(Z:gL x st ps)(hG:∀r ys d K,G r ys d K->d=[])(h:∀{j A i s H E f} [bV],gN Cs E H->aV k (A.deeper (envOfC x (cn st) ⇑s f j))->N.Nodup->(A.deeper (envOfC x (cn st) ⇑s f j)).units+64<cLine →
   ∃B:WS,b3 (bC (eG V.P V.w) V.P V.w V.K V.mg V.base N x (cn st) f j A i s H E) (dA st) (cB B)/\∀ys d m,↑ys=↑ps->G bV.ok ys d m->B (iw ↑d m) ⟨ys.map ζ++Xb (↑N-↑ps) η,d.map ζ⟩)(T:autoParam (qC N ps (cn st)=θ) qz3._auto_1):Fy V Cs (k+1) x ps ↑ps G:=by
 let⟨f,fd,a,F⟩:21:=D;calc⟨f,fd,F.tH (fJ T) (λvs H Q E h=>let⟨_,h,_⟩:=h;h.1) (λj A i s H vs Q E U hh=>?_),a,F.kp,F.binds Z⟩;let⟨r,⟨W,Fz,X,t,d,m,q,g,Y⟩,hE⟩:=hh;let ho:=hG r t d m g;subst ho;let ea:=Yb.mp q.b7;subst ea;letI:=EK r H;let⟨B,jb,hb⟩:=h (⟨λ{c p C dx F X mu I} o J L hC pl=>hE c p o C dx I hC ⟨λb u e n=>(J b u e n).1,L⟩ pl,λ{F X mu I a} J L e=>Kp.none ⟨λb u e n=>(J b u e n).1,L⟩ e⟩) U (fJ T).nd U.units
 let hy:↑t=↑ps:=by
  let:=q.len;rw[kF] at this;rw[<-W,this,kF]
 refine⟨_,jb,Fz,[],⟨t.map ζ++Xb (↑N-↑ps) η,[]⟩,iw 0 m,by rw[<-W];calc q.start,hb t [] m hy g,⟨λl h F' M O I R S=>?_,λl h=>h.elim,λl h=>h.elim,λy l h v F' M O I R S V=>?_,λb o e n=>⟨e,λz'=>by let⟨k,ov,z,_⟩:21:=z';simp at z⟩⟩⟩
 .exact nS   q R S (x:=.p .non)  rfl h Y
 .calc nS   q R S V h Y
end
variable[zt:aB]{X:Cx}{Cs:-Z}{j k n:Nat}{x:π}{ps:-π}{G:gU->GD}{E:XK}{H:Hp}{e:υ}{es:-υ}{fa:WA}{p p2 pos:Ε}
theorem RG[bV]{i y b}(Fy:Fy ⟨X.prog,X.w,X.K,X.mg,X.base⟩ Cs j x ps n G)(R:gN Cs E H)(u:kD (eG X.prog X.w) X E)(B:aV k X.A)(I:X.N.Nodup)(J:X.N[i]?=ζ y)(L:Loc X.env.scope y)(M:JA X (e::es) (bM fa))(hj:‹q3y j k=θ›)(O:‹Gl X x›)(h: ~~~(bB x))
  (P:‹cI X e es›) (l:‹cX X p2 es›) (Q:‹swapsWith (.Call (.Name x p) (e::es) [] p2) (ζ (.Name y b)) pos.line X.env=pure ι›)
  (T:autoParam (cW X y) qz5._auto_1) :
  JS X (.Assign [.Name y b] (.Call (.Name x p) (e::es) [] p2) pos) (cB (ar i (cy n (G bV.ok) fa))):=by
 let⟨g,fd,m,U,V,W⟩:23:=Fy.ex
 exact(ko I J L (l6 m (B.mono (Y1 hj)) O U V W .nil u M h P l) Q T).weak λD σ Y ⟨F,Z,δ,K1,S,q,k⟩ ↦
  ⟨F,Z,δ,_,S,q,λxs a r vs m s H2 d f t=>⟨bV.ok,Cv (K:=λx a=>K1.nx ⟨a.sl.set i (ζ x),a.mu⟩) (λx a r v m s Y d f t=>k.nx _ r _ _ _ _ d (f.set t)) r d f t,λc p o C dx H' hC z pl=>R.go o (bV.st (Ext.qi f z.keep z.tab) (bV.st d k.kp)) z.tab hC pl⟩⟩
end LJ
namespace LJ
open PySem L2 PySem.Spec PySem.W
variable[zt:aB]
meta def tJ(c:Nat)(n:Int):-D:=if c<4 then[.str (cU.getD c ""),.int n] else[.str (cU.getD c "")]
meta def oq(tup:Bool)(c:Nat)(n:Int):D:=if tup then .tup (tJ c n) else .lst (tJ c n)
meta def yI(tup:Bool)(c:Nat)(n:Int):HO:=if tup then .tup (k8 c n) else .lst (k8 c n)
theorem EN{F} c n:ah F (tJ c n) (k8 c n):=by
 unfold tJ k8;split
 .exact⟨_,_,Y,Y,⟨_,_,Y,Y,Y⟩⟩
 .calc⟨_,_,Y,Y,Y⟩
def EO(d e:Nat)(B:gU->WS)(f:WE)(tup:Bool):WS:=λK b=>(b.mu=[]/\d<↑b.sl/\e<↑b.sl)/\B (λc p=>K.rt (.p (oq tup c p)) ⟨[],[]⟩) ⟨λa=>a.sl[d]?=ζ (ζ (.p .non))/\f a K.rt,λ_ _=>False,λ_=>False,λ_=>False⟩ b
theorem ER{F H H' j C mu m E K D tup c n z}(S:SR F [] m E H)(N:m.mu=[])(k:nR F [] m.mu H K D)(s:Kept H C mu H')(tb:aB.ok H')(t:ay H' j)(hz:H' z=η)(G:j z=ζ (yI tup c n))(h:K.rt (.p (oq tup c n)) ⟨[],[]⟩):D.rt (.ref z) j:=by
 let u:=aB.same tb t
 let v:z∉aB.ad:=λy=>by
  let⟨I,q⟩:=aB.tb tb y;rw[hz] at q;cases q
 let g:H z=η:=by
  cases q:H z with
  |none=>rfl
  |some o=>rw[(s z o q v).1] at hz;cases hz
 let J:F z=η:=by
  cases q:F z with
  |none=>rfl
  |some o=>rw[S.sub z o q] at g;cases g
 let d:=λb o e n=>t b o (s b o e n).1
 let A:Ext F [] m.mu H (upd F z (yI tup c n)) [] [] j:=by
  refine⟨λb o e=>?_,λb o e=>?_,λb o e _ L=>d b o e L,λk a e=>e,λa f=>by let⟨k,r,y,_⟩:21:=f;simp at y,λb o e=>?_⟩
  .rw[aG (bU e J)];exact e
  .by_cases y:b=z
   .subst y;exact .inr (.inl g)
   .rw[aG y] at e;exact .inl e
  .by_cases y:b∈aB.ad
   .let⟨I,q⟩:=aB.tb u y;exact⟨_,q⟩
   .exact⟨o,d b o e y⟩
 let M:SR (upd F z (yI tup c n)) [] ⟨[],[]⟩ [] j:=by
  refine⟨λb o e=>?_,λa f=>by let⟨k,r,y,_⟩:21:=f;simp at y,Y,λk l a r O e=>by simp at e,λk r e=>by simp at e,λi x e=>by simp at e,Y,u,S.nt.up A.same λa B=>?_⟩
  .by_cases y:b=z
   .subst y;rw[bj] at e;cases e;exact G
   .rw[aG y] at e
    exact d b o (S.sub b o e) λw=>by rw[S.nt b w] at e;cases e
  .rw[aG (λy=>v (by rw[<-y];calc B))];exact S.nt a B
 calc k.rt _ _ h (.ref z) _ _ _ _ A M ?_;cases tup
 .exact⟨z,k8 c n,Y,bj,EN c n⟩
 .calc⟨z,k8 c n,Y,bj,EN c n⟩
def ES(b:KH)(Cs:-Z)(a:Nat):Bool->TE
 |false=>nC (jS Cs) [] E0 (jc (fu a) kB)
 |true=>oX (Ru b) (jc (nC (jS Cs) [] E0 (jc (fu a) kB)) kB)
theorem RH{F H H' G mu m I i K D J Cs tup c u n a C b}(S:SR F [] m I H)(v:m.mu=[])(k:nR F [] m.mu H K D)(w:Kept H G mu H')(tb:aB.ok H')(h:K.rt (.p (oq tup c n)) ⟨[],[]⟩)(x:c<13)(y:Cs[c]?=ζ C)(z:yG c n b H')(L:H' a=η)(A:i[u]?=ζ (ζ (.ref a))):
  ES J Cs u tup i (upd H' a (eC a C b)) D.rt:=by
 let g:ay H' (upd H' a (eC a C b)):=b_ L
 let E:ExcAt (upd H' a (eC a C b)) a C b:=by
  calc⟨bj,λd e=>?_⟩;rcases z with⟨_,d',f,r⟩|⟨_,f⟩
  .rw[e] at f;cases f;exact⟨_,g _ _ r⟩
  .rw[e] at f;cases f
 let P:c<4->∃d,b=ζ d/\upd H' a (eC a C b) d=ζ (.xd [("place",.int n)]):=λQ=>by
  rcases z with⟨_,M,f,r⟩|⟨R,_⟩
  .exact⟨M,f,g _ _ r⟩
  .omega
 let N:∀{l},upd H' a (eC a C b) l=η->H' l=η:=λ{l} e=>by
  cases q:H' l with
  |none=>rfl
  |some o=>rw[g l o q] at e;cases e
 cases tup
 .exact⟨.ref a,A,c,n,a,C,b,Y,x,y,E,P,λl O j B e=>ER (tup:=false) S v k w tb (g.trans j) (N B) e h⟩
 .refine⟨.ref a,A,c,n,a,C,b,Y,x,y,E,P,λl O j B e=>(zI2 l _ ⟨Y,.inl ⟨bf.of e,λt s=>ER  S v k w tb ((g.trans j).trans (b_ s)) ?_ bj h⟩⟩)⟩
  cases q:H' t with
  |none=>rfl
  |some o=>rw[(g.trans j) t o q] at s;cases s
section
variable{X:Cx}{body fV:-χ}{b0 st:χ}{x n:π}{p1 p2 pos:Ε}{L:Z}{ic ie:Nat}{B:gU->WS}{f1:WE}{tup:Bool}{Cs:-Z}
theorem RJ(r:X.stack=X.env::X.outer)(t:X.env.frame=ζ X.env.locals)(Y:X.N.Nodup)(Z:X.N[ie]?=ζ n)(hk:X.env.scope.names.lookup n=ζ .local)(hg:Gl X x)(hm:X.mg x=ζ (.ref L))(hL:∀(c:Nat) (C:ξ),Cs[c]?=ζ C->c<13/\q0A X.K (.ref C) (.ref L)=ζ θ)(y:ic≠ie)
  (hb:∀{pn xe E H0}[bV],kD (eG X.prog X.w) {X with pn:=pn,xe:=xe} E->gN Cs E H0->b3 {X with pn:=pn,xe:=xe} body (cB (B bV.ok))) (hs:∀A xe,b3 {X with A:=A,calm:=false,xe:=xe} (b0::fV) (dm (fu ie) (ik ic)))
  (hr:JS X st (oM (Ar (tB (oH (fu ic))) (tD f1) (ES X.K Cs ic tup)))) (G: ~~~(bB x)) :
  b3 X [.Try body [.ExceptHandler (ζ (.Name x p1)) (ζ n) (b0::fV) p2] [] [] pos,st] (cB (EO ic ie B f1 tup)):=by
 refine(nA (Rn (tb:=λE D i H=>∃g:bV,@gN _ g Cs E H/\@cB _ g (B g.ok) D i H) r t Y Z hk hg hm G (λpn xe E hp=>⟨λj s i H D I h=>?_⟩) λA xe=>(hs A xe)) (lj hr)).weak λD i H ⟨F,P,δ,K,S,⟨⟨l,ti,hle⟩,q⟩,k⟩=>?_
 .let⟨g,R,h⟩:=h
  exact(hb hp R) j s i H D I h
 .let ea:=Yb.mp (by rw[S.b7,l];rfl)
  subst ea;let J:=k.rt;letI g:=EK (λc p=>K.rt (.p (oq tup c p)) ⟨[],[]⟩) H;refine⟨g,?_,F,[],δ,⟨λd=>d.sl[ic]?=ζ (ζ (.p .non))/\f1 d K.rt,λ_ _=>False,λ_=>False,λ_=>False⟩,S,q,?_⟩
  .refine⟨λ{c p C dx F P mu Q} o kp tb T pl=>?_,λ{F P mu Q a} kp tb e=>Kp.none ⟨λb u e n=>((kp) b u e n).1,tb⟩ e⟩
   let⟨M,hx⟩:01:=hL c C T;calc⟨C,rfl,hx,λa ha=>?_⟩;let hl:=S.len
   let m:((((Xb ↑i (η:Option V)).set ie (ζ (.ref a))).set ic (ζ (.ref a))).set ie η)[ic]?=ζ (ζ (.ref a)):=by
    rw[XM (λz=>y z.symm),XD (by rw[Yr,Y0];symm)]
   exact⟨.ref a,(XD (by rw[Y0];symm)),.ref a,m,ι,rfl,RH S l k kp tb o M T pl ha m⟩
  .refine⟨λd ⟨h1,h2⟩ F' O σ' Q E' U=>?_,λf h=>h.elim,λf h=>h.elim,λx f h=>h.elim,λb o e n=>⟨e,λz'=>by let⟨k,ov,z,_⟩:21:=z';simp at z⟩⟩
   let⟨v,m,e2⟩:=U.sl ic _ h1;subst e2;calc⟨.non,m,θ,rfl,⟨F',O,d,_,U,h2,λx f h v F2 xT H2 E2 S2 V2=>J _ _ h _ _ _ _ _ (E'.trans E2) S2 V2⟩⟩
end
end LJ
namespace LJ
open PySem L2
variable[zt:aB]
inductive yJ (ys:-DV) (aN:-OV) (K:RV->-OV->Prop):Prop
 |mk (m:Int) (ws:-Wy) (us:-Int) (i:Nat) (q:ak m ws) (q:Nums ws us) (q:i<m.toNat) (q:ys=[.p (az m ws),.p (aK us),.p (.int i)]) (q:aN=[]) (q:K (.n ((cls m.toNat (bA ws us) i).map D.int)) [])
def yK:WS:=(ai (ar 3 (aj 2 n9 (ag (aa 0) (ag (aa 1) af)))) (aA (jh (iS (ag (aa 3) af)) [η,η,ζ 3,ζ 2] (fN 2 (cH (aS 0) (cH (aS 1) fB))) (dT (d2 (aa 1) (d2 (aa 2) (aa 3) aE) oEq)) (aa 0))))
open Classical in
theorem RK:Sem 3 1 yJ yK:=by
 rintro ys aN K'-⟨m,ws,us,i,W,hu,hi,rfl,rfl,k⟩;have fA:=W.fA;unfold yK;refine aI λN hN=>?_;simp!;refine⟨m,ws,us,W,hu,.inl ⟨rfl,rfl,?_⟩⟩;have mo:=qo W hu;generalize eV m ws us=fs at mo;have a1:=iY (ns:=fs) (i:=i) (by rw[mo.1];exact hi);rw[show aK fs=.lst (fs.map D.int) from rfl];simp!;subst hN;simp!;refine L2.f_ (qv λx=>decide (aq (bA ws us) i x)) qu (by rw[mE,kF,mo.1];symm) trivial ?_ ?_
 .intro d hd acc L' ha h1 h2
  obtain⟨z,hz⟩:=Vt.mp hd;obtain⟨e,z1,z2⟩:=mF hz;rw[KI] at z1;obtain⟨y,z3,rfl⟩:=My.mp z1;rw[Yd] at z2;subst z2;have zl:z<m.toNat:=by rw[<-mo.1];exact(mj.mp z3).1
  have ez:fs.getD z 0=y:=by rw[o8,z3];rfl
  simp only[qv,qu] at h1 h2;simp![a1];rw[hU]
  by_cases c:aq (bA ws us) i z
  .rw[Bj (show y=fs.getD i 0 by rw[<-ez];exact((mo.2 i z hi zl).mpr c).symm)]
   simp!;exact⟨ha,h1 (Bj c)⟩
  .rw[Bh (show ¬ y=fs.getD i 0 fromλe=>c ((mo.2 i z hi zl).mp (by rw[<-e,ez])))]
   simp!;exact h2 (Bh c)
 .have e:=xU (λx=>decide (aq (bA ws us) i x)) (fs.map D.int) 0
  have e2:(cls m.toNat (bA ws us) i).map D.int=((q3S 0 (fs.map D.int).length).filter λk:Nat=>decide (aq (bA ws us) i k)).map λk:Nat=>D.int k:=by
   unfold cls aZ;rw[XP,Xd,kF,<-q2t,mo.1];rfl
  rw[<-e2] at e;rw[e];exact⟨[],rfl,rfl,.inl k⟩
meta def yL(c:Bool):π:=if c=θ then "cut" else "ring"
inductive yM (ys:-DV) (aN:-OV) (K:RV->-OV->Prop):Prop
 |mk (m:Int) (ws:-Wy) (ps qs:-Int) (n:Int) (q:ak m ws) (q:bz ws ps qs) (q:(0<=n/\n<(↑ws:Int))) (q:n∉ps) (q:n∉qs) (q:ys=[.p (az m ws),.p (aK ps),.p (.int n)]) (q:aN=[]) (q:∀(s:Bool×-Int)(k:Int),bO m ws ps qs s.1 s.2 k->K (.t (.str (yL s.1)) (s.2.map D.int)) [])
def ET:WS:=(ai (ar 3 (d2 (d2 (aa 0) (dC (.int 1)) aE) (aa 2) aE)) (ai (ar 4 (nT 3 yJ (ag (aa 0) (ag (aa 1) (ag (d2 (aa 3) (dC (.int 0)) aE) af))))) (ai (aO (dT (d2 (d2 (aa 3) (dC (.int 1)) aE) (aa 4) (dt θ))) (aA (cL (ag (dC (.str "cut")) (ag (aa 4) af)))) bQ) (aA (cL (ag (dC (.str "ring")) (ag (sj (ag (d2 (aj 4 yd (ag (aa 0) (ag (aa 1) (ag (d2 (aa 3) (dC (.int 0)) aE) (ag (d2 (aa 3) (dC (.int 1)) aE) af))))) (br (ag (aa 2) af)) cv) af) sk) af)))))))
theorem RL:Sem 3 2 yM ET:=by
 ext H y I-⟨m,a,b,J,n,W,S,f,r,s,rfl,rfl,k⟩;let A:=W.h_;let t:=(XT.mp S.nd).1;let K:=jn S.pn t;let L:=W.ends _ (gi f.1 f.2);let⟨i,g⟩:∃i:Nat,(ae a n).1=i:=⟨(ae a n).1.toNat,⋯⟩;let⟨j,l⟩:∃j:Nat,(ae a n).2.1=j:=⟨(ae a n).2.1.toNat,⋯⟩;calc aI λN o=>?_;simp![cL,bq,cy,bp,az,cR,lQ f];subst o;calc aI λN o=>?_;simp![cL,bq,cy,bp,bc,cQ,g];calc⟨m,a,b,i,W,S.pn,⋯,Y,Y,?_⟩;let e:∀x,x∈cls m.toNat (bA a b) i↔(0<=x/\x<m.toNat)/\aq (bA a b) i x:=λx=>bt;let u:(cls m.toNat (bA a b) i).Pairwise (· < ·):=(QX _).sublist YY;generalize v:cls m.toNat (bA a b) i=d at e u
 let M:=ew d;subst o;calc aI λN o=>d4 λO P B E=>?_;simp![cL,bq,cy,bp,cR,l];calc⟨⋯,?_⟩;rw[fQ]
 by_cases c:(j:Int)∈d
 .rw[Bj c]
  subst E o;simp![cL,bq,cy,bp,cQ,cR,g,l];calc⟨m,a,b,i,j,W,S.pn,⋯,⋯,⋯,Y,Y,?_⟩;let Q:↑(j6 a b i j)<=↑b:=Yi _ _;rw[show aK (j6 a b i j)=.lst ((j6 a b i j).map D.int) from Y];simp![cL,bq,cy,bp];calc⟨⋯,?_⟩;rw[show(j6 a b i j).map D.int++[D.int n]=(j6 a b i j++[n]).map D.int by rw[Xj];rfl];simp![cL,bq,cy,bp,sk,kO];calc⟨⋯,?_⟩;let⟨x,R⟩:=yt    W S.pn (S.indep W) (λk p z=>(XT.mp S.nd).2.2 k p k z Y) f r r s (by rw[g,l];calc((e j).mp c).2) (t.sublist YY) (by rw[g,l];calc QW W S.pn);exact⟨[],Y,Y,XZ _,k (ι,sortI (j6 a b i j++[n])) x R⟩
 .rw[Bh c]
  subst B
  let q:∀k∈b,cV d (ae a k)=ι:=λk p=>by
   let T:=W.ends _ (gi (S.pn k p).1 (S.pn k p).2);let w:aq (bA a b) (ae a k).1 (ae a k).2.1:=.one ⟨k,p,Y⟩;calc tF ?_;rw[e,e];exact⟨λh=>⟨⋯,h.2.trans w⟩,λh=>⟨⋯,h.2.trans w.symm⟩⟩
  let F:=Ey λz=>c (by
   rw[l,g] at z
   calc z.mp ((e i).mpr ⟨⋯,.rf⟩))
  let⟨x,C⟩:=Ex    W (tm u λx G=>by let:=((e x).mp G).1;symm) q f F s;calc⟨[],Y,Y,XZ _,k (θ,d) x C⟩
def m9(m:Int)(ws:-Wy)(ps a:-Int)(d:D):Prop:=∃(w:π)(l:-Int),d=.tup [.str w,aK l]/\∀n,¬ qz m ws ps a w l n
structure yN(m:Int)(ws:-Wy)(st:-(Bool×-Int))(ps qs:-Int)(tl:-D)(ok:gU):Prop where
 len:↑st+↑tl<=60
 run:bZ m ws [] [] st ps qs
 bad:∀d r,tl=d::r->m9 m ws ps qs d/\ok 2 ↑st
inductive tK (ok:gU) (ys:-DV) (aN:-OV) (K:RV->-OV->Prop):Prop
 |mk (m:Int) (ws:-Wy) (st:-(Bool×-Int)) (ps qs:-Int) (tl:-D) (q:ak m ws) (q:↑ws<=20) (q:yN m ws st ps qs tl ok) (q:ys=[.p (az m ws),.p (.lst (st.map fH++tl))]) (q:aN=[]) (q:(tl=[]->K (.p (.tup [aK (sortI ps),aK (sortI qs)])) []))
theorem RM:∀b ys a K,tK b ys a K->a=[]:=by ext b c a K ⟨_,_,_,_,_,_,_,_,_,_,h,_⟩;calc h
def yO(a:gU):WS:=(ai (jf (aj 1 xw (ag (aa 0) af))) (ai (ar 2 (kJ af)) (ai (ar 3 (kJ af)) (ai (cD (iS (ag (aa 1) af)) (fN 2 (cH (aS 4) (cH (aS 5) fB))) (ai (ar 6 (aj 4 yq (ag (aa 0) (ag (aa 2) (ag (aa 3) (ag (aa 5) af)))))) (ai (aO (dT (d2 (aa 6) (dC .non) iX)) (yH a 2 (ag (aa 4) af)) bQ) (aO (dT (d2 (d2 (aa 5) (dC (.int 0)) aE) (dC (.str "cut")) oEq)) (jf (fE (aa 2) (ag (aa 6) af))) (jf (fE (aa 3) (ag (aa 6) af))))))) (aA (bN (ag (dN (ag (aa 2) af) gR) (ag (dN (ag (aa 3) af) gR) af))))))))
theorem RN(J:gU):Sem 2 5 (tK J) (yO J):=by
 ext ys O K'-⟨m,f,g,ps,qs,x,W,j,⟨sl,R,A⟩,rfl,rfl,k⟩;let rl:↑ps+↑qs=↑g:=by let:=R.len;rw[XO] at this;symm
 unfold yO;calc aI λN h=>?_;simp!;calc⟨m,f,W,rfl,rfl,?_⟩;show N _;subst h;calc aI λN h=>?_;simp!;subst h;calc aI λN h=>?_;simp!;subst h;calc aI λN h=>iz λg' b' K2 P B Q=>?_;subst P B Q;refine hJ (λi E=>∃p q:-Int,↑p+↑q=i/\i<=↑g/\bz f p q/\bZ m f p q (g.drop i) ps qs/\E=⟨[ζ (.p (az m f)),ζ (.p (.lst (g.map fH++x))),ζ (.o 0),ζ (.o 1),η,η,η],[ζ (.lst (p.map D.int)),ζ (.lst (q.map D.int))]⟩) (zI2 [] [] ⟨rfl,XZ _,bz.start f,R,rfl⟩) ?_ ?_
 .ext i d E L T t K;let⟨p,q,U,G,S,F,rfl⟩:24:=t
  let⟨e,u,rfl⟩:=mF T;calc⟨trivial,?_⟩;erw[fN,cH,fB,aS,fh,iw,rC,XO,Xm,q0y,XW,XX,Yd,q2Q,and_self,true_and,ZJ,Za]
  by_cases y:i<↑g
  .rw[Xc (by rw[kF];calc y),KI] at u
   let⟨s,V,rfl⟩:11:=My.mp u;let⟨_,X⟩:=mj.mp V;rw[Yc y,X] at F;calc aI λH b=>?_;simp!;let⟨c,l⟩:=s
   let⟨n,C,M⟩:∃n,bO m f p q c l n/\((c=θ->bZ m f (p++[n]) q (g.drop (i+1)) ps qs)/\(c=ι->bZ m f p (q++[n]) (g.drop (i+1)) ps qs)):=by
    cases F with
    |cut C F=>exact⟨_,C,λ_=>F,λz=>nomatch z⟩
    |ring C F=>exact⟨_,C,(λz=>nomatch z),λ_=>F⟩
   calc⟨rfl,m,f,p,q,(if c=θ then "cut" else "ring"),l,W,j,S.pn,rfl,rfl,λr I=>?_⟩;rw[(I n).mpr C.word];simp![jO];subst b;calc aI λH b=>?_;subst b
   cases c with
   |true =>
    simp![fH,cQ,aD];refine⟨⋯,K _ (zI2 (p++[n]) q ⟨by simp;symm,y,S.cut W C,M.1 rfl,by rw[Xj];rfl⟩)⟩
   |false =>
    simp![fH,cQ,aD];refine⟨⋯,K _ (zI2 p (q++[n]) ⟨by simp;symm,y,S.ring W C,M.2 rfl,by rw[Xj];rfl⟩)⟩
  .obtain rfl:i=↑g:=by symm
   rw[Xi (by rw[kF];calc vr _),kF,YE] at u
   cases x with
   |nil=>cases u
   |cons d0 r0 =>
   cases u
   let⟨⟨w,l,rfl,Y⟩,o⟩:=A _ _ rfl;rw[q1Q] at F;cases F
   calc aI λH b=>?_;simp!;refine⟨rfl,m,f,ps,qs,w,l,W,j,S.pn,rfl,rfl,λr I=>?_⟩
   let:r=η:=by
    cases r with
    |none=>rfl
    |some n=>exact absurd ((I n).mp rfl) (Y n)
   subst this;simp![jO];subst b;exact aI λH b=>⟨_,rfl,o⟩
 .ext E v;let⟨p,q,U,G,S,F,rfl⟩:24:=v
  rw[mE,KG,kF] at F G
  let Z:x=[]:=by
   cases x with
   |nil=>rfl
   |cons a r=>rw[rC] at G;symm
  subst Z;rw[List.drop_eq_nil_of_le (by simp)] at F;cases F
  calc⟨trivial,?_⟩;subst h;simp![gR,kO];calc⟨⋯,⋯,bg (k rfl)⟩
inductive tL (ok:gU) (ys:-DV) (aN:-OV) (K:RV->-OV->Prop):Prop
 |mk (m:Int) (ws:-Wy) (st:-(Bool×-Int)) (ps qs:-Int) (tl:-D) (q:ak m ws) (q:↑ws<=20) (q:yN m ws st ps qs tl ok) (q:ys=[.p (az m ws),.p (.lst (st.map fH++tl))]) (q:aN=[]) (q:(tl=[]->((∀x,0<=x/\x<(↑ws:Int)->x∈ps\/x∈qs)->K (.p .non) [])/\∀(s:Bool×-Int)(k:Int),bO m ws ps qs s.1 s.2 k->K (.t (.str (yL s.1)) (s.2.map D.int)) []))
theorem RO:∀b ys a K,tL b ys a K->a=[]:=by ext b c a K ⟨_,_,_,_,_,_,_,_,_,_,h,_⟩;calc h
def yP(a:gU):WS:=(ai (ar 2 (aj 2 (tK a) (ag (aa 0) (ag (aa 1) af)))) (ai (ar 3 (d2 (d2 (aa 2) (dC (.int 0)) aE) (d2 (aa 2) (dC (.int 1)) aE) cv)) (ai (ar 4 (bX (g_ (ag (dN (ag (d2 (aa 0) (dC (.int 1)) aE) af) bH) af)) [η,ζ 3] (aS 0) (dT (d2 (aa 0) (aa 1) (dt θ))) (aa 0))) (ai (aO (dT (d2 (dN (ag (aa 4) af) bH) (dC (.int 0)) oEq)) (aA (dC .non)) bQ) (aA (cy 3 yM (ag (aa 0) (ag (d2 (aa 2) (dC (.int 0)) aE) (ag (d2 (aa 4) (dC (.int 0)) aE) af)))))))))
theorem RP(t:gU):Sem 2 3 (tL t) (yP t):=by
 ext V A Y-⟨m,a,v,b,f,B,W,j,X,rfl,rfl,E⟩;let R:=X.run;let Z:=X.len;let S:=R.ok W (bz.start a);let l:=S.sort;let F:=sd b;let G:=sd f;let rl:↑b+↑f=v.length:=by let:=R.len;rw[XO] at this;symm
 let h:∀x,x∈sortI b↔x∈b:=λx=>(sortI_perm b).mem_iff;let i:∀x,x∈sortI f↔x∈f:=λx=>(sortI_perm f).mem_iff;unfold yP;calc aI λN g=>?_;simp![cL,bq,cy,bp];calc⟨m,a,v,b,f,B,W,j,X,rfl,rfl,λH=>?_⟩;let⟨I,J⟩:=E H;generalize sortI b=p at l h F;generalize sortI f=q at l i G;rw[show aK p=.lst (p.map D.int) from rfl,show aK q=.lst (q.map D.int) from rfl];simp![cL,bq,cy,bp];subst g;calc aI λN g=>?_;simp![cL,bq,cy,bp,cQ,cR];calc⟨⋯,?_⟩;subst g;calc aI λN g=>?_;let zp:=ew (p++q);rw[<-Xj];simp![cL,bq,cy,bp,az,cR];refine⟨⋯,?_⟩
 refine L2.f_ (λd=>match d with
  |.int x=>μ (x∉p++q)
  |_=>ι) id (by rw[iU];symm) trivial ?_ ?_
 .ext d K M L O h i
  let⟨z,P⟩:=Vt.mp K;let⟨zl,rfl⟩:=iT P;simp![cL,bq,cy,bp];calc⟨⋯,?_⟩;rw[fQ]
  by_cases c:(0+(z:Int))∈p++q
  .rw[Bj c]
   exact i (Bh λz=>z c)
  .rw[Bh c]
   exact⟨O,h (Bj c)⟩
 let e:((cb 0 (↑a:Int).toNat).filter λd=>match d with
  |.int x=>μ (x∉p++q)
  |_=>ι).map id=((aZ ↑a).filter λx=>μ (x∉p++q)).map D.int:=by
  rw[YI,Xn,j4,XP];rfl
 rw[e];let n:∀x,x∈(aZ ↑a).filter (λx=>μ (x∉p++q))↔(0<=x/\x<↑a)/\x∉p++q:=λx=>by rw[Xf,aF,Yg]
 generalize(aZ ↑a).filter (λx=>μ (x∉p++q))=o at n;subst g;calc aI λN g=>d4 λA1 B1 Q T=>?_;simp![cL,bq,cy,bp]
 cases o with
 |nil =>
  subst Q;calc bg (I λx U=>Xo λz=>?_);let:=(n x).mpr ⟨U,λy=>z ((W9.mp y).imp (h x).mp (i x).mp)⟩;cases this
 |cons u r =>
  subst T g;simp![cL,bq,cy,bp,cQ];let⟨o,w⟩:01:=(n u).mp (.head _);calc⟨m,a,p,q,u,W,l,o,λz=>w (Xv _ z),λz=>w (Vp _ z),rfl,rfl,λs k C=>⟨[],rfl,rfl,XZ _,J s k (C.congr h i)⟩⟩
end LJ
namespace L2
open PySem PySem.Spec PyProof.Rows
variable[zt:aB]{X:Cx}{e:υ}{f:WE}
def m_(f:WE):WE:=λc K=>f c λx a=>jE x a λd b=>K (.p d) b
theorem RQ(he:JE X e (tD f)):JE X e (tD (m_ f)) :=
 he.weak λs H Q ⟨F,a,b,K,S,q,k⟩↦⟨F,a,b,_,S,q,λx c g v t h u i j l=>by
  let⟨d,m,w,n,o,p,r⟩:33:=mB j l g
  calc k _ _ n _ _ _ _ (i.trans o) p r⟩
end L2
namespace PySem
open Sem (wp)
section
variable{prog:ψ}{w:ω}{A:Β}{E:aJ}{s:ο}{z TI TO i j:Z}{fp gp:-Z}{n m k:Nat}{P P':Nat->ν->Prop}{St V9:Nat->Α->Prop}{a b:ν}
end
section
variable{prog:ψ}{w:ω}{A:Β}{E:aJ}{s:ο}
end
end PySem
namespace L2
open PySem PySem.Spec PyProof.Rows
section
variable{X:Cx}{pins:ax}{σ:St}{H:Hp}{s:ο}
end
section
variable{X:Cx}{elts:-υ}{x1:Nat}{tp:Ε}
end
section
variable[zt:aB]{X:Cx}{a b:υ}{fa:WA}
end
end L2
namespace LJ
open PySem L2
variable[zt:aB]
theorem RR{ds:-D}{t:Nat}(h:t<=↑ds):cutD ds (ζ (t:Int)) η=ds.drop t:=by
 unfold cutD;rw[HT.oZ ↑ds 0 t,HT.va,q39 h,Yn (by rw[YM];symm)]
theorem EU{ds:-D}{t:Nat}(h:t<=↑ds):cutD ds η (ζ (t:Int))=ds.take t:=by
 unfold cutD;rw[HT.va,HT.oZ ↑ds ↑ds t,q39 h,q04,q2_]
theorem nh(y:Wy):cutD [D.int y.1,D.int y.2.1,D.int y.2.2] η (ζ 2)=[D.int y.1,D.int y.2.1]:=rfl
inductive tM (ys:-DV) (aN:-OV) (K:RV->-OV->Prop):Prop
 |mk (m:Int) (ws:-Wy) (us:-Int) (i:Nat) (q:ak m ws) (q:Nums ws us) (q:i<m.toNat) (q:(ys=[.p (az m ws),.p (aK us),.p (.int i)]/\aN=[]\/ys=[.p (az m ws),.o 0,.p (.int i)]/\aN=[.lst (us.map D.int)])) (q:K (.p (aK (cls m.toNat (bA ws us) i))) aN)
def yQ:WS:=(ai (ar 3 (aj 2 sE (ag (aa 0) (ag (aa 1) af)))) (aA (bX (g_ (ag (d2 (aa 0) (dC (.int 0)) aE) af)) [η,ζ 3,ζ 2] (aS 0) (dT (d2 (d2 (aa 1) (aa 0) aE) (d2 (aa 1) (aa 2) aE) oEq)) (aa 0))))
open Classical in
theorem RT:Sem 3 1 tM yQ:=by
 rintro ys aN K'-⟨m,ws,us,i,W,hu,hi,h,k⟩;have fA:=W.fA;have mo:=qo W hu;have a1:=iY (ns:=eV m ws us) (i:=i) (by rw[mo.1];exact hi);unfold yQ;rcases h with⟨rfl,rfl⟩|⟨rfl,rfl⟩
 all_goals
  refine aI λN hN=>?_;simp!
  first|refine⟨m,ws,us,W,hu,.inl ⟨rfl,rfl,?_⟩⟩|refine⟨m,ws,us,W,hu,.inr ⟨rfl,rfl,?_⟩⟩
  generalize eV m ws us=fs at mo a1;rw[show aK fs=.lst (fs.map D.int) from rfl];simp!;subst hN;simp![az,cQ];refine⟨⋯,?_⟩
  refine L2.f_ (λd=>match d with
   |.int x=>decide (aq (bA ws us) i x)
   |_=>false) id (by rw[iU];symm) trivial ?_ ?_
  .intro d hd acc L' ha h1 h2
   obtain⟨z,hz⟩:=Vt.mp hd;obtain⟨zl,rfl⟩:=iT hz;rw[q3u] at h1 h2 ⊢;have a2:=iY (ns:=fs) (i:=z) (by rw[mo.1];exact zl);dsimp only at h1 h2;simp![a1,a2];rw[hU]
   by_cases q:aq (bA ws us) i z
   .rw[Bj ((mo.2 z i zl hi).mpr q.symm)]
    simp!;exact⟨ha,h1 (Bj q)⟩
   .rw[Bh λy=>q ((mo.2 z i zl hi).mp y).symm]
    simp!;exact h2 (Bh q)
  have e:((cb 0 m.toNat).filter λd=>match d with
   |.int x=>decide (aq (bA ws us) i x)
   |_=>false).map id=(cls m.toNat (bA ws us) i).map D.int:=by
   unfold cls;rw[YI,j4,XP];rfl
  rw[e];exact⟨_,rfl,rfl,k⟩
structure yR(ws:-Wy)(n:Int)(qs us R:-Int):Prop where
 nums:Nums ws us
 ind:Indep (bA ws us)
 not:n∉us
 free:∀k∈us,k∉qs
 conn:aq (bA ws us) (ae ws n).1 (ae ws n).2.1
 nd:R.Nodup
 road:∀k,k∈R↔k∈us/\¬ aq (gK ws us k) (ae ws n).1 (ae ws n).2.1
inductive yS (ys:-DV) (aN:-OV) (K:RV->-OV->Prop):Prop
 |mk (c m:Int) (ws:-Wy) (n:Int) (qs:-Int) (o:OV) (q:ak m ws) (q:(0<=n/\n<(↑ws:Int))) (q:ys=[.o 0,.p (az m ws),.p (.int n),.p (aK qs)]) (q:aN=[o]) (q:aW c o) (q:c+40<2 ^ 30) (q:∀o',aW (c+30) o'->K (.p .non) [o']/\∀us R:-Int,yR ws n qs us R->K (.p (aK R)) [o'])
def yT:WS:=(ai (ar 4 (jh (aY (aj 1 qe (ag (aa 1) af))) [η,ζ 2,ζ 3] (aS 0) (cJ (dT (d2 (aa 0) (aa 1) hD)) (dT (d2 (aa 0) (aa 2) (dt θ)))) (aa 0))) (ai (ar 5 (kJ af)) (ai (cD (g_ (ag (dN (ag (aa 4) af) bH) af)) (aS 6) (ai (ar 7 (n6 (aa 4) (ag (aj 2 e_ (ag (aa 0) (ag (dN (ag (aa 4) af) bH) af))) af))) (ai (eJ (dQ (d2 (d2 (aa 1) (dC (.int 1)) aE) (aa 7) aE) dP (iy (dC (.int 2)))) (fN 2 (cH (aS 8) (cH (aS 9) fB)))) (aO (dT (d2 (aa 9) (aj 3 tM (ag (aa 1) (ag (aa 5) (ag (aa 8) af)))) (dt θ))) (jf (fE (aa 5) (ag (aa 7) af))) bQ)))) (aA (aj 4 tu (ag (aa 1) (ag (m_ (aa 5)) (ag (d2 (d2 (d2 (aa 1) (dC (.int 1)) aE) (aa 2) aE) (dC (.int 0)) aE) (ag (d2 (d2 (d2 (aa 1) (dC (.int 1)) aE) (aa 2) aE) (dC (.int 1)) aE) af)))))))))
theorem RU:Sem 4 6 yS yT:=by
 ext ys aN K'-⟨c,m,g,n,s,o,W,Y,rfl,rfl,P,RW,k⟩;let Z:=W.h_;let fA:=W.fA;let zq:=ew s;unfold yT;calc aI λN M=>?_;rw[show aK s=.lst (s.map D.int) from rfl];simp!;calc⟨m,g,W,rfl,rfl,?_⟩;simp!
 refine L2.f_ (λd=>match d with
  |.int x=>μ (x≠n)&&μ (x∉s)
  |_=>ι) id (by rw[kF,gj];symm) trivial ?_ ?_
 .ext d hd acc L' ha T G
  let⟨x,H,rfl⟩:11:=Bk.mp hd;dsimp only at T G;simp!;rw[hU]
  by_cases q:x=n
  .rw[Bj q]
   simp!;exact G (by rw[Bh λz=>z q];rfl)
  .rw[Bh q]
   simp!;calc⟨⋯,?_⟩;rw[fQ]
   by_cases U:x∈s
   .rw[Bj U]
    simp!;exact G (by rw[Bh (show ¬ x∉s fromλz=>z U),q1d])
   .rw[Bh U]
    simp!;exact⟨ha,T (by rw[Bj q,Bj U];rfl)⟩
 let e:(((aZ ↑g).map D.int).filter λd=>match d with
  |.int x=>μ (x≠n)&&μ (x∉s)
  |_=>ι).map id=((aZ ↑g).filter λx=>μ (x≠n)&&μ (x∉s)).map D.int:=by
  rw[YI,XP];rfl
 rw[e]
 let C:∀x∈(aZ ↑g).filter (λx=>μ (x≠n)&&μ (x∉s)),(0<=x/\x<(↑g:Int))/\x≠n/\x∉s:=λx H=>by
  let⟨T,G⟩:=Xf.mp H;erw[Xs,Xt] at G;exact⟨aF.mp T,G⟩
 let ll:↑((aZ ↑g).filter λx=>μ (x≠n)&&μ (x∉s))<=30:=by
  calc XQ (Yi _ _) ?_;rw[gj];exact Z
 generalize(aZ ↑g).filter (λx=>μ (x≠n)&&μ (x∉s))=I at C ll;simp!;subst M;calc aI λN M=>?_;simp!;subst M;calc aI λN M=>?_;calc iz λg' b' K2 hg qx hK=>?_;simp!;calc⟨⋯,?_⟩;subst hg qx hK;refine hJ (λi δ=>∃(l f:-Int)(J:OV),↑l+i=↑I/\↑f<=i/\(∀x∈l,x∈I)/\(∀x∈f,x∈I)/\Indep (bA g f)/\aW (c+i) J/\δ=⟨[ζ (.o 0),ζ (.p (az m g)),ζ (.p (.int n)),ζ (.p (.lst (s.map D.int))),ζ (.o 1),ζ (.o 2),η,η,η,η],[ζ J,ζ (.lst (l.map D.int)),ζ (.lst (f.map D.int))]⟩) (zI3 I [] o ⟨rfl,vr _,λx h=>h,(λx h=>nomatch h),(λa t=>by let⟨k,O,_⟩:11:=t;calc nomatch O),P.mono ⋯,rfl⟩) ?_ ?_
 .ext i d δ L hi Q hL;let⟨l,f,J,li,fi,E,j,u,P',rfl⟩:36:=Q
  let⟨hi,rfl⟩:=iT hi;rw[Xn] at hi;calc⟨trivial,?_⟩;erw[aS,XW,XX];calc aI λN2 F=>?_;simp!;calc⟨_,↑l,J,rfl,rfl,P',⋯,⋯,⋯,λr o1 r0 r1 P1=>?_⟩;let⟨w,rfl⟩:∃w:Nat,r=w:=⟨r.toNat,⋯⟩;let V:w<↑l:=by symm
  let ix:seqIndex? (w:Int) ↑l=ζ w:=BW V;let eq:(l.map D.int)[w]?=ζ (.int l[w]):=by rw[KI,mf V];rfl
  simp![ix,eq];calc⟨⟨⋯,⋯⟩,?_⟩;let H:=E _ (Yk V);generalize l[w]=x at H;let B:∀y∈l.eraseIdx w,y∈I:=λy A=>E y (List.mem_of_mem_eraseIdx A);let el:↑(l.eraseIdx w)+(i+1)=↑I:=by rw[ZX V];symm
  rw[wR];generalize l.eraseIdx w=l' at B el;let⟨x1,x2,x3⟩:02:=C x H;let en:=W.ends _ (gi x1.1 x1.2);let⟨a,K⟩:∃a:Nat,(ae g x).1=a:=⟨(ae g x).1.toNat,⋯⟩;subst F;calc aI λN2 F=>?_;simp![az,cR,lQ x1,bc,nh];subst F;let nf:Nums g f:=λy A=>(C y (j y A)).1;calc d4 λA1 B1 hA hB=>?_;simp![K];calc⟨m,g,f,a,W,nf,⋯,.inr ⟨rfl,rfl⟩,?_⟩;let X:∀y,y∈cls m.toNat (bA g f) a↔(0<=y/\y<(m.toNat:Int))/\aq (bA g f) a y:=λy=>bt;generalize cls m.toNat (bA g f) a=S at X;let zl:=ew S;calc⟨⋯,?_⟩;rw[fQ]
  by_cases q:(ae g x).2.1∈S
  .rw[Bj q]
   subst hB;exact hL _ (zI3 l' f o1 ⟨el,⋯,B,j,u,P1.mono ⋯,rfl⟩)
  .rw[Bh q]
   subst hA;simp!;refine⟨⋯,hL _ (zI3 l' (f++[x]) o1 ⟨el,by rw[KG];calc q3J fi,B,λy A=>?_,u.add  (λv=>?_) (λz=>q ((X _).mpr ⟨⋯,K▸z⟩)),P1.mono ⋯,by rw[Xj];rfl⟩)⟩
   .rcases W9.mp A with h|h
    .exact j y h
    .rw[W7.mp h];exact H
   .constructor
    .ext ⟨k,O,rfl⟩
     rcases W9.mp O with h|h
     .exact .inl ⟨k,h,rfl⟩
     .rw[W7.mp h];exact .inr rfl
    .ext (⟨k,O,rfl⟩|rfl)
     .exact⟨k,Xv _ O,rfl⟩
     .exact⟨x,Vp _ (.head _),rfl⟩
 .ext δ t;let⟨l,f,J,li,fi,E,j,u,P',rfl⟩:36:=t
  calc⟨trivial,?_⟩;subst M;let en:=W.ends _ (gi Y.1 Y.2);let⟨a,K⟩:∃a:Nat,(ae g n).1=a:=⟨(ae g n).1.toNat,⋯⟩;let⟨b,eb⟩:∃b:Nat,(ae g n).2.1=b:=⟨(ae g n).2.1.toNat,⋯⟩;simp![m_,az,cR,lQ Y,bc,cQ,K,eb];let⟨k0,k1⟩:01:=k J (P'.mono ⋯);refine⟨m,g,f,a,b,W,λy A=>(C y (j y A)).1,⋯,u,⋯,⋯,rfl,rfl,λ_=>?_,λR nd hR X=>?_⟩
  .exact⟨_,rfl,rfl,k0⟩
  .calc⟨_,rfl,rfl,k1 f R ⟨λy A=>(C y (j y A)).1,u,λz=>(C n (j n z)).2.1 rfl,λy A=>(C y (j y A)).2.2,by rw[K,eb];calc X,nd,by rw[K,eb];calc hR⟩⟩
structure hV(m:Int)(ws:-Wy)(ps:-Int)(n:Int)(H:-Int):Prop where
 nd:H.Nodup
 rng:∀x∈H,0<=x/\x<m
 yU:∀x y,(0<=x/\x<m)->(0<=y/\y<m)->aq (bA ws ps) x y->x∈H->y∈H
 lead:¬ ((ae ws n).1∈H↔(ae ws n).2.1∈H)
theorem RX{A B C K a}(h:ai (ai A B) C K a):ai A (ai B C) K a:=h
theorem hV.step{m}{ws:-Wy}{ps b H n}(W:ak m ws)(S:bz ws ps b)(hn:0<=n/\n<(↑ws:Int))(f:n∉b)(h:hV m ws ps n H):∃k,dg m ws ps b (sortI H) k:=by
 let d:=sortI_perm H;let a:∀x,x∈sortI H↔x∈H:=λx=>d.mem_iff;refine Ex W (tm (((sb H).and (d.nodup_iff.mpr h.nd)).imp λh=>by symm) λx g=>h.rng x ((a x).mp g)) (λk c=>tF ?_) hn (Ey ?_) f
 .let i:=W.ends _ (gi (S.pn k c).1 (S.pn k c).2)
  let e:aq (bA ws ps) (ae ws k).1 (ae ws k).2.1:=.one ⟨k,c,Y⟩;rw[a,a];exact⟨λz=>h.yU _ _ ⋯ ⋯ e z,λz=>h.yU _ _ ⋯ ⋯ e.symm z⟩
 .rw[a,a];calc h.lead
theorem hV.about{m}{ws:-Wy}{ps H n}(W:ak m ws)(hn:0<=n/\n<(↑ws:Int))(h:hV m ws ps n H):hV m ws ps n ((aZ m.toNat).filter λx=>μ (x∉H)):=by
 let d:∀x,x∈(aZ m.toNat).filter (λx=>μ (x∉H))↔(0<=x/\x<m)/\x∉H:=λx=>by rw[Xf,aF,Yg];exact and_congr_left λ_=>by symm
 let g:=W.ends _ (gi hn.1 hn.2);calc⟨(qf _).sublist YY,λx e=>((d x).mp e).1,λx y e f c z=>(d y).mpr ⟨f,λq=>((d x).mp z).2 (h.yU y x f e c.symm q)⟩,λz=>h.lead ?_⟩;rw[d,d] at z
 constructor
 .exact λa=>Xo λb=>(z.mpr ⟨⋯,b⟩).2 a
 .calc λa=>Xo λb=>(z.mp ⟨⋯,b⟩).2 a
theorem RY{m}{ws:-Wy}{ps n}(W:ak m ws)(hn:0<=n/\n<(↑ws:Int)){L C:-(-Int)}(i:oh m.toNat (bA ws ps) L)(g:C.Sublist L)(o:∀l∈L,(ae ws n).1∈l->l∈C)(p:∀l∈C,(ae ws n).2.1∉l):hV m ws ps n C.flatten:=by
 let B:=W.ends _ (gi hn.1 hn.2);let d:∀l∈C,l∈L:=λl h=>g.subset h
 let k:∀l∈L,∀x∈l,(0<=x/\x<m)/\l=cls m.toNat (bA ws ps) x:=λl f x j=>by
  let⟨h,u,rfl⟩:=(i.mem l).mp f;let⟨a,b⟩:=bt.mp j;exact⟨⋯,xI b⟩
 refine⟨List.pairwise_flatten.mpr ⟨λl f=>?_,?_⟩,λx j=>?_,λx y j D c h=>?_,λz=>?_⟩
 .let⟨h,u,rfl⟩:=(i.mem l).mp (d l f)
  exact(qf _).sublist YY
 .refine List.Pairwise.imp_of_mem (λ{a b} v w A=>?_) (i.nd.sublist g)
  ext x q y r e;subst e;exact A ((k a (d a v) x q).2.trans (k b (d b w) x r).2.symm)
 .let⟨l,f,h⟩:=Zi.mp j
  exact(k l (d l f) x h).1
 .let⟨l,f,s⟩:=Zi.mp h
  calc Zi.mpr ⟨l,f,?_⟩;rw[(k l (d l f) x s).2];exact bt.mpr ⟨⋯,c⟩
 .let q:=by
   let t:(ae ws n).1∈cls m.toNat (bA ws ps) (ae ws n).1:=xJ ⋯;exact Zi.mpr ⟨_,o _ ((i.mem _).mpr ⟨_,⋯,Y⟩) t,t⟩
  let⟨l,f,r⟩:=Zi.mp (z.mp q);calc p l f r
theorem EV{C L:-(-Int)}(h:C.Sublist L):↑C.flatten<=↑L.flatten:=by
 induction h with
 |slnil=>exact vr _
 |cons a _ b=>rw[Y9,KG];symm
 |cons_cons a _ b=>rw[Y9,Y9,KG,KG];symm
inductive yV (ys:-DV) (aN:-OV) (K:RV->-OV->Prop):Prop
 |mk (c m:Int) (ws:-Wy) (ps qs:-Int) (o:OV) (q:ak m ws) (q:bz ws ps qs) (q:ys=[.o 0,.p (az m ws),.p (.tup [aK ps,aK qs])]) (q:aN=[o]) (q:aW c o) (q:c+100<2 ^ 30) (q:∀o',aW (c+60) o'->((∀x,0<=x/\x<(↑ws:Int)->x∈ps\/x∈qs)->K (.p .non) [o'])/\∀(s:Bool×-Int)(k:Int),bO m ws ps qs s.1 s.2 k->K (.p (fH s)) [o'])
def yW:WS:=(ai (eJ (aa 2) (fN 2 (cH (aS 3) (cH (aS 4) fB)))) (ai (ar 5 (aj 2 e_ (ag (aa 0) (ag (dC (.int 3)) af)))) (ai (ar 6 (d2 (aj 2 e_ (ag (aa 0) (ag (dC (.int 3)) af))) (dC (.int 0)) oEq)) (ai (ar 7 (bX (aY (aj 1 qe (ag (aa 1) af))) [η,ζ 3,ζ 4] (aS 0) (dT (d2 (aa 0) (d2 (aa 1) (aa 2) cv) (dt θ))) (aa 0))) (ai (aO (dT (d2 (aa 7) (br af) oEq)) (aA (dC .non)) bQ) (ai (ar 8 (d2 (aa 7) (aj 2 e_ (ag (aa 0) (ag (dN (ag (aa 7) af) bH) af))) aE)) (ai (eJ (dQ (d2 (d2 (aa 1) (dC (.int 1)) aE) (aa 8) aE) dP (iy (dC (.int 2)))) (fN 2 (cH (aS 9) (cH (aS 10) fB)))) (ai (ar 11 (aj 4 tu (ag (aa 1) (ag (aa 3) (ag (aa 9) (ag (aa 10) af)))))) (ai (aO (cJ (dT (d2 (aa 11) (dC .non) iX)) (dT (aa 6))) (ar 11 (aj 4 yS (ag (aa 0) (ag (aa 1) (ag (aa 8) (ag (aa 4) af)))))) bQ) (ai (aO (dT (d2 (aa 11) (dC .non) n8)) (aA (bN (ag (dC (.str "ring")) (ag (dN (ag (d2 (aa 11) (br (ag (aa 8) af)) cv) af) gR) af)))) bQ) (ai (ar 12 (br af)) (ai (cD (aY (aj 2 xc (ag (aa 1) (ag (aa 3) af)))) (aS 13) (aO (je (dT (d2 (aa 9) (aa 13) (dt ι))) (cJ (dT (d2 (aa 10) (aa 13) (dt θ))) (dT (d2 (aj 2 e_ (ag (aa 0) (ag (dC (.int 2)) af))) (d2 (aa 5) (dC (.int 2)) (dZ (λ_ j=>0<j) λi j=>.int (i%j))) oEq)))) (ar 12 (d2 (aa 12) (aa 13) cv)) bQ)) (ai (aO (dT (d2 (aa 5) (dC (.int 2)) oEq)) (ar 12 (bX (g_ (ag (d2 (aa 1) (dC (.int 0)) aE) af)) [η,ζ 12] (aS 0) (dT (d2 (aa 0) (aa 1) (dt θ))) (aa 0))) bQ) (aA (bN (ag (dC (.str "cut")) (ag (dN (ag (aa 12) af) gR) af)))))))))))))))))
theorem RZ:Sem 3 11 yV yW:=by
 ext ys aN K'-⟨c,m,g,f,j,o,W,S,rfl,rfl,P,RW,k⟩;let EW:=W.h_;let fA:=W.fA;let⟨R0,R3,R4⟩:02:=XT.mp S.nd;let pl:=jn S.pn R0;let ql:=jn S.qn R3;let zp:=ew (f++j);unfold yW;calc aI λN s=>?_;rw[show aK f=.lst (f.map D.int) from rfl,show aK j=.lst (j.map D.int) from rfl];simp!;subst s;calc aI λN s=>?_;simp!;calc⟨c,3,o,rfl,rfl,P,⋯,⋯,⋯,λU o1 V_ Wa P1=>?_⟩;simp!;subst s;calc aI λN s=>?_;simp!;calc⟨c+1,3,o1,rfl,rfl,P1,⋯,⋯,⋯,λwd o2 Wb Wc P2=>?_⟩;simp!;generalize aD (D.int wd) (D.int 0)=t
 subst s;calc aI λN s=>?_;simp!;calc⟨m,g,W,rfl,rfl,?_⟩;simp!
 refine L2.f_ (λd=>match d with
  |.int x=>μ (x∉f++j)
  |_=>ι) id (by rw[kF,gj];symm) trivial ?_ ?_
 .ext d hd acc L I h1 h2
  let⟨x,hx,rfl⟩:=Bk.mp hd;dsimp only at h1 h2;simp!;calc⟨⋯,?_⟩;rw[<-Xj];calc⟨⋯,?_⟩;rw[fQ]
  by_cases q:x∈f++j
  .rw[Bj q]
   simp!;exact h2 (Bh λz=>z q)
  .rw[Bh q]
   simp!;exact⟨I,h1 (Bj q)⟩
 let e:(((aZ ↑g).map D.int).filter λd=>match d with
  |.int x=>μ (x∉f++j)
  |_=>ι).map id=((aZ ↑g).filter λx=>μ (x∉f++j)).map D.int:=by
  rw[YI,XP];rfl
 rw[e];let hu:∀x,x∈(aZ ↑g).filter (λx=>μ (x∉f++j))↔(0<=x/\x<(↑g:Int))/\x∉f++j:=λx=>by rw[Xf,aF,Yg]
 let ul:↑((aZ ↑g).filter λx=>μ (x∉f++j))<=30:=by
  calc XQ (Yi _ _) ?_;rw[gj];exact EW
 generalize(aZ ↑g).filter (λx=>μ (x∉f++j))=u at hu ul;simp!;subst s;calc aI λN s=>?_;calc d4 λA1 B1 O Q=>?_;let zu:=ew u;simp!;calc⟨⋯,?_⟩;rw[show aD (.lst (u.map D.int)) (.lst [])=μ (u=[]) by erw[aD];calc sY u []]
 by_cases J:u=[]
 .rw[Bj J]
  simp!;subst O;let k0:=(k o2 (P2.mono ⋯)).1;calc⟨[o2],rfl,rfl,k0 λx hx=>Xo λz=>?_⟩;let:=(hu x).mpr ⟨hx,λy=>z (W9.mp y)⟩;rw[J] at this;cases this
 rw[Bh J];simp!;subst Q;show N _;subst s
 let u0:0<↑u:=by cases u with
  |nil=>exact absurd rfl J
  |cons _ _=>simp
 calc aI λN s=>?_;simp!;calc⟨c+1+1,↑u,o2,rfl,rfl,P2,⋯,⋯,⋯,λr o3 r0 r1 P3=>?_⟩;let⟨rn,rfl⟩:∃rn:Nat,r=rn:=⟨r.toNat,⋯⟩;simp![iY (ns:=u) (i:=rn) ⋯];let⟨F,nu⟩:01:=(hu (u.getD rn 0)).mp (by rw[o8,mf ⋯];calc Yk _);generalize u.getD rn 0=n at F nu;let np:n∉f:=λz=>nu (Xv _ z);let nq:n∉j:=λz=>nu (Vp _ z);let en:=W.ends _ (gi F.1 F.2);let⟨a,ea⟩:∃a:Nat,(ae g n).1=a:=⟨(ae g n).1.toNat,⋯⟩;let⟨b,eb⟩:∃b:Nat,(ae g n).2.1=b:=⟨(ae g n).2.1.toNat,⋯⟩;subst s;calc aI λN s=>?_;simp![az,cR,lQ F,bc,nh]
 rw[ea,eb];subst s;refine RX (aI λN4 EX=>?_)
 let K:∀(rd:D)(X:OV),aW (c+40) X->((rd=.non/\¬ aq (bA g f) a b)\/∃R:-Int,rd=.lst (R.map D.int)/\↑R<=30/\∃x,bG g f j (sortI (R++[n])) x)->N4 ⟨[ζ (.o 0),ζ (.p (.tup [.int m,.tup (g.map bc)])),ζ (.p (.tup [.lst (f.map D.int),.lst (j.map D.int)])),ζ (.p (.lst (f.map D.int))),ζ (.p (.lst (j.map D.int))),ζ (.p (.int U)),ζ (.p (.bl t)),ζ (.p (.lst (u.map D.int))),ζ (.p (.int n)),ζ (.p (.int a)),ζ (.p (.int b)),ζ (.p rd),η,η],[ζ X]⟩:=by
  ext rd X P' R5;subst EX;calc aI λN s=>?_;calc d4 λA1 B1 O Q=>?_;rcases R5 with⟨rfl,nc⟩|⟨R,rfl,Rl,x,RS⟩
  .simp!
   subst Q;show N _;subst s;calc aI λN s=>?_;simp!;subst s;calc aI λN s=>?_;calc iz λg' b' K2 hg qx hK=>?_;simp!;calc⟨m,g,f,W,S.pn,.inl ⟨rfl,rfl,?_⟩⟩;rw[Qu W S.pn,show sF (jl m g f)=.lst ((jl m g f).map aK) from rfl];simp!;subst hg qx hK;let IL:=(DW W S.pn).1;let⟨Ll,Lf⟩:01:=P8 W S.pn;generalize jl m g f=Y at IL Ll Lf;refine hJ (λi δ=>∃(C:-(-Int))(G:OV),C.Sublist (Y.take i)/\(∀l∈Y.take i,(a:Int)∈l->l∈C)/\(∀l∈C,(b:Int)∉l)/\aW (c+40+i) G/\δ=⟨[ζ (.o 0),ζ (.p (.tup [.int m,.tup (g.map bc)])),ζ (.p (.tup [.lst (f.map D.int),.lst (j.map D.int)])),ζ (.p (.lst (f.map D.int))),ζ (.p (.lst (j.map D.int))),ζ (.p (.int U)),ζ (.p (.bl t)),ζ (.p (.lst (u.map D.int))),ζ (.p (.int n)),ζ (.p (.int a)),ζ (.p (.int b)),ζ (.p .non),ζ (.p (.lst (C.flatten.map D.int))),η],[ζ G]⟩) (zI2 [] X ⟨List.nil_sublist _,(λl h=>by simp at h),(λl h=>nomatch h),P'.mono ⋯,rfl⟩) ?_ ?_
   .ext i d δ L hi mT hL;let⟨C,G,v,E,M,Z,rfl⟩:24:=mT
    rw[KI] at hi;let⟨l,V,rfl⟩:11:=My.mp hi;let⟨il,ei⟩:=mj.mp V;let et:Y.take (i+1)=Y.take i++[l]:=by rw[ZI,V];rfl
    let lm:l∈Y:=Xw V;let zl:=ew l;let fl:↑C.flatten<=12:=XQ (EV (v.trans (q1m i Y))) Lf
    let ll:↑l<=12:=by
     let⟨h,hh,rfl⟩:=(IL.mem l).mp lm;calc XQ (Yi _ _) ?_;rw[gj];symm
    let yes:∀B,(b:Int)∉l->aW (c+40+i+1) B->L ⟨[ζ (.o 0),ζ (.p (.tup [.int m,.tup (g.map bc)])),ζ (.p (.tup [.lst (f.map D.int),.lst (j.map D.int)])),ζ (.p (.lst (f.map D.int))),ζ (.p (.lst (j.map D.int))),ζ (.p (.int U)),ζ (.p (.bl t)),ζ (.p (.lst (u.map D.int))),ζ (.p (.int n)),ζ (.p (.int a)),ζ (.p (.int b)),ζ (.p .non),ζ (.p (.lst (C.flatten.map D.int++l.map D.int))),η],[ζ B]⟩:=λB nb P6=>by
     refine hL _ (zI2 (C++[l]) B ⟨by rw[et];calc v.append (q1s _),λl' w I=>?_,λl' w=>?_,P6.mono ⋯,by rw[List.flatten_append,Xj];simp⟩)
     .rw[et] at w
      rcases W9.mp w with h|h
      .exact Xv _ (E l' h I)
      .exact Vp _ h
     .rcases W9.mp w with h|h
      .exact M l' h
      .rw[W7.mp h];exact nb
    let no:∀B,(a:Int)∉l->aW (c+40+i+1) B->L ⟨[ζ (.o 0),ζ (.p (.tup [.int m,.tup (g.map bc)])),ζ (.p (.tup [.lst (f.map D.int),.lst (j.map D.int)])),ζ (.p (.lst (f.map D.int))),ζ (.p (.lst (j.map D.int))),ζ (.p (.int U)),ζ (.p (.bl t)),ζ (.p (.lst (u.map D.int))),ζ (.p (.int n)),ζ (.p (.int a)),ζ (.p (.int b)),ζ (.p .non),ζ (.p (.lst (C.flatten.map D.int))),η],[ζ B]⟩:=λB na P6=>by
     calc hL _ (zI2 C B ⟨by rw[et];calc v.trans (q1B _ _),λl' w I=>?_,M,P6.mono ⋯,rfl⟩);rw[et] at w;rcases W9.mp w with h|h
     .exact E l' h I
     .rw[W7.mp h] at I;exact absurd I na
    clear hL;calc⟨trivial,?_⟩;erw[aS,XW,XX];rw[show aK l=.lst (l.map D.int) from rfl];calc d4 λA1 B1 O Q=>?_;simp!;calc⟨⋯,?_⟩;rw[fQ]
    by_cases qa:(a:Int)∈l
    .rw[Bj qa]
     simp!;subst O;simp!;calc⟨⋯,yes G (λqb=>nc ?_) (Z.mono ⋯)⟩;let⟨h,hh,rfl⟩:=(IL.mem l).mp lm;exact(bt.mp qa).2.symm.trans (bt.mp qb).2
    .rw[Bh qa]
     simp!;calc⟨⋯,?_⟩;rw[fQ]
     by_cases qb:(b:Int)∈l
     .rw[Bj qb]
      simp!;subst Q;exact no G qa (Z.mono ⋯)
     .rw[Bh qb]
      simp!;calc⟨_,2,G,rfl,rfl,Z,⋯,⋯,⋯,λr B r0 r1 P6=>?_⟩;simp!;refine⟨⋯,?_⟩
      cases aD (D.int r) (D.int (U%2)) with
      |true =>
       simp!;subst O;simp!;exact⟨⋯,yes B qb P6⟩
      |false =>
       simp!;subst Q;exact no B qa P6
   .ext δ mU;let⟨C,G,v,E,M,Z,rfl⟩:24:=mU
    rw[kF,Y3] at v E;rw[kF] at Z;let HS:=RY W F IL v (by rw[ea];calc E) (by rw[eb];calc M);let fl:↑C.flatten<=12:=XQ (EV v) Lf;generalize C.flatten=H at HS fl;let zh:=ew H;calc⟨trivial,?_⟩;subst s;dsimp only;calc aI λN s=>?_;refine d4 λA1 B1 O Q=>?_
    let T:∀H:-Int,hV m g f n H->↑H<=12->N ⟨[ζ (.o 0),ζ (.p (.tup [.int m,.tup (g.map bc)])),ζ (.p (.tup [.lst (f.map D.int),.lst (j.map D.int)])),ζ (.p (.lst (f.map D.int))),ζ (.p (.lst (j.map D.int))),ζ (.p (.int U)),ζ (.p (.bl t)),ζ (.p (.lst (u.map D.int))),ζ (.p (.int n)),ζ (.p (.int a)),ζ (.p (.int b)),ζ (.p .non),ζ (.p (.lst (H.map D.int))),η],[ζ G]⟩:=λH HS hl=>by
     subst s;simp![gR,kO];calc⟨⋯,?_⟩;let⟨x,CS⟩:=HS.step W S F nq;exact⟨[G],rfl,rfl,(k G (Z.mono ⋯)).2 (θ,sortI H) x CS⟩
    simp!;rw[hU]
    by_cases k2:U=2
    .rw[Bj k2]
     simp!;subst O;simp![cQ];refine⟨⋯,?_⟩
     refine L2.f_ (λd=>match d with
      |.int x=>μ (x∉H)
      |_=>ι) id (by rw[iU];symm) trivial ?_ ?_
     .ext d hd acc L' I h1 h2
      let⟨z,hz⟩:=Vt.mp hd;let⟨zl,rfl⟩:=iT hz;dsimp only at h1 h2;simp!;calc⟨⋯,?_⟩;rw[fQ]
      by_cases q:(0+(z:Int))∈H
      .rw[Bj q]
       simp!;exact h2 (Bh λz=>z q)
      .rw[Bh q]
       simp!;exact⟨I,h1 (Bj q)⟩
     rw[show((cb 0 m.toNat).filter λd=>match d with
      |.int x=>μ (x∉H)
      |_=>ι).map id=((aZ m.toNat).filter λx=>μ (x∉H)).map D.int by rw[YI,j4,XP];rfl]
     simp!;calc T _ (HS.about W F) ?_;calc XQ (Yi _ _) ?_;rw[gj];symm
    .rw[Bh k2]
     simp!;subst Q;exact T H HS fl
  .simp!
   subst O;simp!;calc⟨⋯,?_⟩;rw[show R.map D.int++[D.int n]=(R++[n]).map D.int by rw[Xj];rfl];simp![gR,kO];calc⟨⋯,?_⟩;exact⟨[X],rfl,rfl,(k X (P'.mono ⋯)).2 (ι,sortI (R++[n])) x RS⟩
 clear EX;calc aI λN s=>?_;simp!;refine⟨m,g,f,a,b,W,S.pn,⋯,S.indep W,⋯,⋯,rfl,rfl,λnc=>?_,λR nd hR hc=>?_⟩
 .simp!
  subst s
  cases t with
  |false =>
   simp!;exact K _ o3 (P3.mono ⋯) (.inl ⟨rfl,nc⟩)
  |true =>
   simp!;refine⟨c+1+1+1,m,g,n,j,o3,W,F,rfl,rfl,P3,⋯,λo4 P4=>⟨?_,λus R A=>?_⟩⟩
   .simp!
    exact K _ o4 (P4.mono ⋯) (.inl ⟨rfl,nc⟩)
   .let Rl:=jn (λe he=>A.nums e ((A.road e).mp he).1) A.nd
    exact K _ o4 (P4.mono ⋯) (.inr ⟨R,rfl,⋯,yt W A.nums A.ind A.free F A.not np nq A.conn A.nd A.road⟩)
 .let Rl:=jn (λe he=>S.pn e ((hR e).mp he).1) nd
  subst s;calc K _ o3 (P3.mono ⋯) (.inr ⟨R,rfl,⋯,yt W S.pn (S.indep W) (λk hk z=>R4 k hk k z rfl) F np np nq (by rw[ea,eb];calc hc) nd (by rw[ea,eb];calc hR)⟩)
theorem EY{ws:-Wy}{ps a:-Int}(h:∀x,0<=x/\x<(↑ws:Int)->x∈ps\/x∈a):↑ws<=↑ps+↑a:=by
 let:=YF   (qf _) λx b=>W9.mpr (h x (aF.mp b));rw[gj,KG] at this;calc this
theorem bz.all{ws ps a}(S:bz ws ps a)(h:↑ps+↑a=↑ws):∀x,0<=x/\x<(↑ws:Int)->x∈ps\/x∈a:=λx c=>Xo λz=>by
 let:=jn   (λy b=>by
  rcases KN.mp b with rfl|b
  .exact c
  .rcases W9.mp b with h|h
   .exact S.pn y h
   .calc S.qn y h) (XU.mpr ⟨λy=>z (W9.mp y),S.nd⟩)
 rw[rC,KG] at this;symm
inductive tN (ys:-DV) (aN:-OV) (K:RV->-OV->Prop):Prop
 |mk (m:Int) (ws:-Wy) (st:-(Bool×-Int)) (ps qs:-Int) (tl:-D) (q:ak m ws) (q:↑ws<=20) (q:yN m ws st ps qs tl (λc p=>K (.p (oq ι c p)) [])) (q:ys=[.p (az m ws),.p (.lst (st.map fH++tl))]) (q:aN=[]) (q:(tl=[]->((∀x,0<=x/\x<(↑ws:Int)->x∈ps\/x∈qs)->K (.p .non) [])/\∀(s:Bool×-Int)(k:Int),bO m ws ps qs s.1 s.2 k->K (.t (.str (yL s.1)) (s.2.map D.int)) []))
def EZ:WS:=(ai (ar 2 (dC .non)) (ai (ar 3 (dC .non)) (EO 3 4 (λa=>(ar 2 (cy 2 (tL a) (ag (aa 0) (ag (aa 1) af))))) (aa 2) ι)))
theorem R6:Sem 2 3 tN EZ:=by
 ext o f p-⟨m,g,h,i,j,l,W,a,X,rfl,rfl,k⟩;calc aI λN b=>?_;subst b;calc aI λN b=>?_;subst b;calc⟨⟨Y,(show 3<5 by decide),(show 4<5 by decide)⟩,?_⟩;simp![cL,bq,cy,bp];refine⟨m,g,h,i,j,l,W,a,⟨X.len,X.run,λd r e=>⟨(X.bad d r e).1,bg (X.bad d r e).2⟩⟩,Y,Y,λc=>⟨λz=>?_,λs n C=>?_⟩⟩
 .simp![cL,bq,cy,bp]
  exact bg ((k c).1 z)
 .simp![cL,bq,cy,bp]
  calc⟨[],Y,Y,XZ _,(k c).2 s n C⟩
end LJ
namespace LJ
open L2
section
variable{ws:-Wy}{us:-Int}
theorem R7[aB]{m}(W:ak m ws){a b}(l:0<=a/\a<(↑ws:Int))(n:0<=b/\b<(↑ws:Int))(e:(ae ws a).1=(ae ws b).1)(f:(ae ws a).2.1=(ae ws b).2.1):a=b:=by
 let⟨i,rfl⟩:∃i:Nat,a=i:=⟨a.toNat,⋯⟩;let⟨j,rfl⟩:∃j:Nat,b=j:=⟨b.toNat,⋯⟩;let c:i<↑ws:=by symm
 let h:j<↑ws:=by symm
 let g:∀k ,k<↑ws->(ws.map λy=>(y.1,y.2.1))[k]?=ζ ((ae ws k).1,(ae ws k).2.1):=λk d=>by
  rw[KI,mf d];unfold ae;rw[Xn,o8,mf d];rfl
 let:=(List.getElem?_inj (by rw[kF];calc c) W.unlike).mp (show(ws.map λy=>(y.1,y.2.1))[i]?=(ws.map λy=>(y.1,y.2.1))[j]? by rw[g i c,g j h,e,f]);symm
theorem R8{a x}(h:aq (bA ws us) a x):x=a\/x∈cE ws us:=by
 cases h with
 |rf=>exact .inl Y
 |st _ c =>
  let⟨w,⟨k,b,rfl⟩,h⟩:=c;calc .inr (W9.mpr ?_);rcases h with⟨_,h⟩|⟨h,_⟩
  .exact .inr (Bk.mpr ⟨k,b,h⟩)
  .calc .inl (Bk.mpr ⟨k,b,h⟩)
theorem E4{C f}:∀V:-Int,(∀x∈V,C x=θ->f x=2)->cS C f V=2*↑(V.filter C)
 |[],_=>Y
 |x::r,h=>by
  show(if C x=θ then f x else 0)+cS C f r=_;rw[E4 r λy a=>h y (Bi _ a),q1P];split
  .rename_i c
   rw[h x (.head _) c,rC];symm
  .omega
theorem E5{C}:∀us:-Int,(∀n∈us,C (ae ws n).1=θ/\C (ae ws n).2.1=θ)->dS ws C us=2*↑us
 |[],_=>Y
 |n::r,h=>by
  let⟨a,b⟩:=h n (.head _);show b1 _+b1 _+dS ws C r=_;rw[E5 r λk c=>h k (Bi _ c),show b1 (C (ae ws n).1=θ)=1 from W_ a,show b1 (C (ae ws n).2.1=θ)=1 from W_ b,rC];symm
theorem E7 p [Decidable p]:b1 p<=1:=by unfold b1;split<;>symm
theorem tO{p}[Decidable p](h:1<=b1 p):p:=by
 unfold b1 at h;split at h
 .assumption
 .omega
theorem E8{C}:∀us:-Int,dS ws C us<=2*↑us/\(dS ws C us=2*↑us->∀n∈us,C (ae ws n).1=θ/\C (ae ws n).2.1=θ)
 |[]=>⟨vr _,λ_ n h=>nomatch h⟩
 |n::r=>by
  let⟨c,b⟩:=E8 (C:=C) r;let e:dS ws C (n::r)=b1 (C (ae ws n).1=θ)+b1 (C (ae ws n).2.1=θ)+dS ws C r:=Y;let d:=E7 (C (ae ws n).1=θ);let f:=E7 (C (ae ws n).2.1=θ);rw[e,rC];calc⟨⋯,λz k a=>?_⟩;rcases KN.mp a with rfl|a
  .exact⟨tO ⋯,tO ⋯⟩
  .calc b ⋯ k a
theorem eX{x}:x∈cE ws us↔aU ws x us≠0:=by
 rw[<-tw,<-q1h];symm
open Classical in
theorem R9 [aB] {m:Int} (W:ak m ws) (hu:Nums ws us) (nd:us.Nodup) {n0:Int} {r0:List Int} (e0:us=n0::r0) :
  cw ws us↔3<=us.length/\(∀x,aU ws x us=0\/aU ws x us=2)/\(cls m.toNat (bA ws us) (ae ws n0).1).length=us.length:=by
 have m1:=W.m1;have en:∀n∈us,0<=(ae ws n).1/\(ae ws n).1<(ae ws n).2.1/\(ae ws n).2.1<m:=λn hn=>by have:=W.ends _ (gi (hu n hn).1 (hu n hn).2);exact⟨this.1,this.2.1,this.2.2.1⟩
 have rA:∀n∈us,(ae ws n).1∈aZ m.toNat/\(ae ws n).2.1∈aZ m.toNat:=λn hn=>by have:=en n hn;exact⟨aF.mpr ⋯,aF.mpr ⋯⟩
 have m0:n0∈us:=e0▸.head _;have a0:(ae ws n0).1∈cE ws us:=Xv _ (Bk.mpr ⟨n0,m0,rfl⟩);have E9:∀n∈us,(ae ws n).1∈cE ws us/\(ae ws n).2.1∈cE ws us:=λn hn=>⟨Xv _ (Bk.mpr ⟨n,hn,rfl⟩),Vp _ (Bk.mpr ⟨n,hn,rfl⟩)⟩
 have key:(∀x,aU ws x us=0\/aU ws x us=2)->dS ws (λx=>decide (aq (bA ws us) (ae ws n0).1 x)) us=2*(cls m.toNat (bA ws us) (ae ws n0).1).length:=λh=>by
  rw[yk (qf _) us rA,E4 (aZ m.toNat) λx _ c=>?_]
  .rfl
  .have:x∈cE ws us:=(R8 (Xq c)).elim (λz=>z▸a0) id
   exact(h x).resolve_left (eX.mp this)
 constructor
 .intro R
  have qL:∀x,aU ws x us=0\/aU ws x us=2:=λx=>by
   by_cases c:x∈cE ws us
   .exact .inr (R.two x c)
   .exact .inl (Xo λz=>c (eX.mpr z))
  have k:=key qL;rw[E5 us λn hn=>⟨Bj (R.k6 _ a0 _ (E9 n hn).1),Bj (R.k6 _ a0 _ (E9 n hn).2)⟩] at k;refine⟨?_,qL,⋯⟩
  match us,e0,nd,hu,R,en with
  |[n],_,_,_,R,en =>
   have c:=R.two (ae ws n).1 (Xv _ (.head _));have e:=en n (.head _);have:aU ws (ae ws n).1 [n]=b1 ((ae ws n).1=(ae ws n).1)+b1 ((ae ws n).2.1=(ae ws n).1)+0:=rfl;rw[this,show b1 ((ae ws n).1=(ae ws n).1)=1 from W_ rfl,show b1 ((ae ws n).2.1=(ae ws n).1)=0 from Vq ⋯] at c;symm
  |[n,k],_,nd,hu,R,en =>
   have c1:=R.two (ae ws n).1 (Xv _ (.head _));have c2:=R.two (ae ws n).2.1 (Vp _ (.head _));have e:=en n (.head _);have e2:=en k (.tail _ (.head _));have t1:aU ws (ae ws n).1 [n,k]=b1 ((ae ws n).1=(ae ws n).1)+b1 ((ae ws n).2.1=(ae ws n).1)+(b1 ((ae ws k).1=(ae ws n).1)+b1 ((ae ws k).2.1=(ae ws n).1)+0):=rfl;have t2:aU ws (ae ws n).2.1 [n,k]=b1 ((ae ws n).1=(ae ws n).2.1)+b1 ((ae ws n).2.1=(ae ws n).2.1)+(b1 ((ae ws k).1=(ae ws n).2.1)+b1 ((ae ws k).2.1=(ae ws n).2.1)+0):=rfl;rw[t1,show b1 ((ae ws n).1=(ae ws n).1)=1 from W_ rfl,show b1 ((ae ws n).2.1=(ae ws n).1)=0 from Vq ⋯] at c1
   rw[t2,show b1 ((ae ws n).2.1=(ae ws n).2.1)=1 from W_ rfl,show b1 ((ae ws n).1=(ae ws n).2.1)=0 from Vq ⋯] at c2
   have f1:(ae ws k).1=(ae ws n).1\/(ae ws k).2.1=(ae ws n).1:=by
    by_cases z:(ae ws k).1=(ae ws n).1
    .exact .inl z
    .rw[show b1 ((ae ws k).1=(ae ws n).1)=0 from Vq z] at c1
     exact .inr (tO ⋯)
   have f2:(ae ws k).1=(ae ws n).2.1\/(ae ws k).2.1=(ae ws n).2.1:=by
    by_cases z:(ae ws k).1=(ae ws n).2.1
    .exact .inl z
    .rw[show b1 ((ae ws k).1=(ae ws n).2.1)=0 from Vq z] at c2
     exact .inr (tO ⋯)
   exact absurd (R7 W (hu k (.tail _ (.head _))) (hu n (.head _)) ⋯ ⋯) (λz=>(XU.mp nd).1 (z▸.head _))
  |_::_::_::_,_,_,_,_,_=>simp
 .rintro ⟨_,qL,l⟩
  have k:=key qL;rw[l] at k;have all:=(E8 us).2 k
  have hc:∀x∈cE ws us,aq (bA ws us) (ae ws n0).1 x:=λx hx=>by
   rcases W9.mp hx with h|h
   .obtain⟨n,hn,rfl⟩:=Bk.mp h
    exact Xq (all n hn).1
   .obtain⟨n,hn,rfl⟩:=Bk.mp h
    exact Xq (all n hn).2
  exact⟨λx hx=>(qL x).resolve_left (eX.mp hx),(λz=>by rw[z] at a0;cases a0),λx hx y hy=>(hc x hx).symm.trans (hc y hy)⟩
end
end LJ
namespace L2
open PySem PySem.Spec PyProof.Rows
variable[zt:aB]{X:Cx}{pos:Ε}
def yX(f g:WE):WE:=λh K=>f h λx c=>g c λy b=>fh x b λd=>fh y b λe=>match d,e with
 |.lst a,.int j=>(-(2 ^ 63)<=j/\j<2 ^ 63/\↑a*j.toNat<=1000)/\K (.o ↑b.mu) ⟨b.sl,b.mu++[ζ (.lst (Xb j.toNat a).flatten)]⟩
 |_,_=>False
theorem R_{a b f g}(v:JE X a (tD f))(w:JE X b (tD g)):JE X (.BinOp a .Mult b pos) (tD (yX f g)) :=
 (lq Bf v w).weak λW H Q ⟨F,z,A,K,S,q,k⟩↦⟨F,z,A,_,S,q,λx l B Y C m Z D E G=>⟨C,m,l,_,E,B,λy I J v2 o L H2 r h M=>by
  let⟨d,N,O⟩:=gF h (G.ext r) J;let⟨e,c,P⟩:=gF h M N;split at c
  .rename_i s j
   let⟨a,n,rfl,R,t⟩:22:=O
   let U:∀k ,ah o (Xb k s).flatten (Xb k n).flatten:=λk=>by
    induction k with
    |zero=>exact .nil
    |succ k T=>exact mH t T
   let V:∀{i},eT o i (.lst (Xb j.toNat s).flatten) (.lst (Xb j.toNat n).flatten):=λ{i}=>⟨_,rfl,U _⟩;exact(zI3 a j n ⟨rfl,P,R,c.1.1,c.1.2.1,jd (by rw[↑t];calc c.1.2.2),λp u=>k _ _ c.2 _ _ _ _ ((D.trans r).trans (Ext.own h u)) (h.own u V) (so h)⟩)
  .calc c.elim⟩⟩
end L2
namespace LJ
open PySem L2
variable[zt:aB]
inductive yY (ys:-DV) (aN:-OV) (K:RV->-OV->Prop):Prop
 |mk (m:Int) (ws:-Wy) (us:-Int) (q:ak m ws) (q:Nums ws us) (q:us.Nodup) (q:ys=[.p (az m ws),.p (aK us)]) (q:aN=[]) (q:(cw ws us->K (.p (.bl θ)) [])) (q:(¬ cw ws us->K (.p (.bl ι)) []))
def yZ:WS:=(ai (ar 2 (yX (br (ag (dC (.int 0)) af)) (d2 (aa 0) (dC (.int 0)) aE))) (ai (cD (aY (aa 1)) (aS 3) (cD (aY (dQ (d2 (d2 (aa 0) (dC (.int 1)) aE) (aa 3) aE) dP (iy (dC (.int 2))))) (aS 4) (lF (d2 (d2 (aa 2) (aa 4) aE) (dC (.int 1)) cv) (aa 2) (aa 4)))) (ai (aO (je (dT (d2 (dN (ag (aa 1) af) bH) (dC (.int 3)) oLt)) (dT (d2 (bX (aY (aa 2)) [η] (aS 0) (dT (d2 (aa 0) (bN (ag (dC (.int 0)) (ag (dC (.int 2)) af))) (dt θ))) (dC (.int 1))) (br af) hD))) (aA (dC (.bl ι))) bQ) (aA (d2 (dN (ag (aj 3 tM (ag (aa 0) (ag (aa 1) (ag (d2 (d2 (d2 (aa 0) (dC (.int 1)) aE) (d2 (aa 1) (dC (.int 0)) aE) aE) (dC (.int 0)) aE) af)))) af) bH) (dN (ag (aa 1) af) bH) oEq)))))
meta def i_(M:Nat)(f:Int->Nat):-D:=(aZ M).map λx=>D.int (f x)
theorem of_get{M a f}(h:a<M):(i_ M f)[a]?=ζ (.int (f a)):=by
 unfold i_ aZ;rw[Xd,KI,YG h];rfl
theorem ot{M f}:↑(i_ M f)=M:=by unfold i_;rw[kF,gj]
theorem E_{M a f}(h:a<M):(i_ M f).set a (.int ((f a:Int)+1))=i_ M λx=>f x+b1 ((a:Int)=x):=by
 refine Zr λi=>?_
 by_cases c:i<M
 .rw[of_get c]
  by_cases e:a=i
  .subst e
   rw[XD (by rw[ot];calc c),show b1 ((a:Int)=a)=1 from W_ Y];rfl
  .rw[XM e,of_get c,show b1 ((a:Int)=i)=0 from Vq ⋯];rfl
 .rw[Yt (by rw[Yr,ot];symm),Yt (by rw[ot];symm)]
theorem Fb{a M}(h:a<M):gY M (a:Int)=ζ a:=by
 unfold gY;simp;symm
theorem Sa:Sem 2 3 yY yZ:=by
 ext ys aN K'-⟨m,e,g,W,q,Z,rfl,rfl,ky,kn⟩;let fA:=W.fA;let m1:=W.m1;let EW:=W.h_;let ul:=jn q Z;let zu:=ew g;unfold yZ;rw[show aK g=.lst (g.map D.int) from rfl];calc aI λN A=>?_;simp![yX,az,cQ];calc⟨⟨⋯,⋯,⋯⟩,?_⟩;subst A
 rw[show(Xb m.toNat [D.int 0]).flatten=i_ m.toNat λx=>aU e x (g.take 0) by
  unfold i_
  rw[List.flatten_replicate_singleton,show(λx=>D.int (aU e x (g.take 0):Nat))=(λ_=>D.int 0) from rfl,q3_,gj]]
 calc aI λN A=>?_;calc iz λg' b' K2 J t K=>?_;simp!;subst J t K;refine hJ (λi u=>u=⟨[ζ (.p (.tup [.int m,.tup (e.map bc)])),ζ (.p (.lst (g.map D.int))),ζ (.o 0),η,η],[ζ (.lst (i_ m.toNat λx=>aU e x (g.take i)))]⟩) rfl ?_ ?_
 .ext i d u L hi rfl F
  rw[KI] at hi;let⟨n,s,rfl⟩:=My.mp hi;let M:=q n (Xw s);let en:=W.ends _ (gi M.1 M.2);let⟨a,B⟩:∃a:Nat,(ae e n).1=a:=⟨(ae e n).1.toNat,⋯⟩;let⟨b,eb⟩:∃b:Nat,(ae e n).2.1=b:=⟨(ae e n).2.1.toNat,⋯⟩;let et:g.take (i+1)=g.take i++[n]:=by rw[q3b,s];rfl
  let⟨f,O⟩:∃f:Int->Nat,(λx=>aU e x (g.take i))=f:=⟨_,rfl⟩
  let fe:(λx=>aU e x (g.take (i+1)))=λx=>f x+b1 ((a:Int)=x)+b1 ((b:Int)=x):=by
   funext x;rw[et,yg,<-B,<-eb,<-O];show aU e x (g.take i)+(_+_+0)=aU e x (g.take i)+_+_;symm
  let F:=F _ rfl;rw[fe] at F;rw[O];clear O fe;let C:a<m.toNat:=by symm
  let P:b<m.toNat:=by symm
  calc⟨trivial,?_⟩;erw[aS,XW,XX];calc iz λg' b' K2 J t K=>?_;simp![cR,lQ M,bc,nh,B,eb];subst J t K;refine hJ (λj u=>u=⟨[ζ (.p (.tup [.int m,.tup (e.map bc)])),ζ (.p (.lst (g.map D.int))),ζ (.o 0),ζ (.p (.int n)),η],[ζ (.lst (i_ m.toNat λx=>f x+(if 1<=j then b1 ((a:Int)=x) else 0)+(if 2<=j then b1 ((b:Int)=x) else 0)))]⟩) rfl ?_ ?_
  .ext j d u L3 E rfl r
   let r:=r _ rfl;refine⟨trivial,?_⟩
   match j,E with
   |0,E =>
    cases E
    simp![iG (of_get C),ot,Fb C];rw[E_ C];exact r
   |1,E =>
    cases E
    simp![iG (of_get P),ot,Fb P];rw[E_ P];exact r
  .ext u rfl
   exact⟨trivial,F⟩
 .ext u rfl
  rw[kF,Y3];calc⟨trivial,?_⟩;subst A;dsimp only;calc aI λN A=>?_;refine d4 λA1 B1 hA hB=>?_
  let Q:¬ cw e g->A1 ⟨[ζ (.p (.tup [.int m,.tup (e.map bc)])),ζ (.p (.lst (g.map D.int))),ζ (.o 0),η,η],[ζ (.lst (i_ m.toNat λx=>aU e x g))]⟩:=λh=>by
   subst hA;exact bg (kn h)
  simp!
  cases g with
  |nil =>
   rw[W_ (by decide)];exact Q λR=>R.some rfl
  |cons k l =>
  let y:=R9 W q Z rfl
  by_cases l3:(↑(k::l):Int)<3
  .rw[W_ (Bj l3)]
   exact Q λR=>by let:=(y.mp R).1;symm
  rw[Vq (λz=>l3 (Xq z))]
  refine L2.f_ (λd=>match d with
   |.int v=>μ (v≠0)&&μ (v≠2)
   |_=>ι) (λ_=>.int 1) (by rw[ot];symm) rfl ?_ ?_
  .ext d S acc L C T G
   let⟨x,U,rfl⟩:=Bk.mp S;dsimp only at T G;generalize((aU e x (k::l):Nat):Int)=v at T G ⊢;simp!;rw[hU,hU]
   by_cases H:(0:Int)=v
   .rw[Bj H]
    simp![q1X];exact G (by rw[Bh (λz=>z H.symm)];rfl)
   .rw[Bh H]
    by_cases I:(2:Int)=v
    .rw[Bj I]
     simp![q0Y];exact G (by rw[Bh (show ¬ v≠2 fromλz=>z I.symm),q1d])
    .rw[Bh I]
     simp!;exact⟨C,T (by rw[Bj (show v≠0 fromλz=>H z.symm),Bj (show v≠2 fromλz=>I z.symm)];rfl)⟩
  let w:((i_ m.toNat λx=>aU e x (k::l)).filter λd=>match d with
   |.int v=>μ (v≠0)&&μ (v≠2)
   |_=>ι)=[]↔∀x,aU e x (k::l)=0\/aU e x (k::l)=2:=by
   rw[q0z]
   constructor
   .ext h x
    by_cases c:x∈cE e (k::l)
    .let U:x∈aZ m.toNat:=by
      rcases W9.mp c with c|c
      .let⟨n,s,rfl⟩:=Bk.mp c
       let:=W.ends _ (gi (q n s).1 (q n s).2);exact aF.mpr ⋯
      .let⟨n,s,rfl⟩:=Bk.mp c
       let:=W.ends _ (gi (q n s).1 (q n s).2);exact aF.mpr ⋯
     let:=h _ (X0 U);erw[Xs,Xt] at this;symm
    .exact .inl (Xo λz=>c (eX.mpr z))
   .ext h d S
    let⟨x,U,rfl⟩:=Bk.mp S;erw[Xs,Xt];let:=h x;symm
  generalize((i_ m.toNat λx=>aU e x (k::l)).filter λd=>match d with
   |.int v=>μ (v≠0)&&μ (v≠2)
   |_=>ι)=V at w
  let e1:(V.map λ_=>D.int 1)=(Xb V.length 1).map D.int:=by rw[q3_,List.map_replicate]
  rw[e1];simp![ew]
  cases V with
  |cons f0 f1 =>
   exact Q λR=>nomatch w.mpr (y.mp R).2.1
  |nil =>
   subst hB A;let X:=q k (.head _);let en:=W.ends _ (gi X.1 X.2);let⟨a,B⟩:∃a:Nat,(ae e k).1=a:=⟨(ae e k).1.toNat,⋯⟩;simp![cQ,cR,lQ X,bc,B];calc⟨m,e,k::l,a,W,q,⋯,.inl ⟨rfl,rfl⟩,?_⟩;rw[B] at y;generalize cls m.toNat (bA e (k::l)) a=Y at y;rw[show aK Y=.lst (Y.map D.int) from rfl];simp!;rw[hU]
   by_cases c:(↑Y:Int)=(↑l+1:Nat)
   .rw[Bj c]
    exact bg (ky (y.mpr ⟨⋯,w.mp rfl,by rw[rC];symm⟩))
   .rw[Bh c]
    calc bg (kn λR=>c (by let:=(y.mp R).2.2;rw[rC] at this;symm))
inductive tP (ys:-DV) (aN:-OV) (K:RV->-OV->Prop):Prop
 |mk (l:-Int) (m:Int) (q:ys=[.p (aK l),.p (.int m)]) (q:aN=[]) (q:K (.p (.bl (eW m 0 l))) [])
def Fc:WS:=(ai (cD (iS (ag (aa 0) af)) (fN 2 (cH (aS 2) (cH (aS 3) fB))) (aO (je (cu (dT (aj 3 w1 (ag (aa 3) (ag (dC (.int 0)) (ag (d2 (aa 1) (dC (.int 1)) (oI λi j=>.int (i-j))) af)))))) (cJ (dT (d2 (aa 2) (dC (.int 0)) (oI λi j=>.bl (μ (j<i))))) (dT (d2 (d2 (aa 0) (d2 (aa 2) (dC (.int 1)) (oI λi j=>.int (i-j))) aE) (aa 3) (oI λi j=>.bl (μ (j<=i))))))) (aA (dC (.bl ι))) bQ)) (aA (dC (.bl θ))))
theorem Sb:Sem 2 2 tP Fc:=by
 ext O y P-⟨l,m,rfl,rfl,k⟩;calc aI λN A=>iz λQ R S B o C=>?_;subst B o C;refine hJ (λj r=>(∃a:Int,eW m 0 l=eW m a (l.drop j)/\(j=0->a=0)/\∀i,j=i+1->a=l.getD i 0+1/\0<=l.getD i 0)/\r=⟨[ζ (.p (.lst (l.map D.int))),ζ (.p (.int m)),η,η],[]⟩) ⟨⟨0,Y,λ_=>Y,λi e=>by symm⟩,Y⟩ ?_ ?_
 .ext j d r L E b F;let⟨⟨a,e,s,f⟩,rfl⟩:01:=b
  let⟨T,u,rfl⟩:=mF E;rw[KI] at u;let⟨x,v,rfl⟩:=My.mp u;let⟨t,G⟩:=mj.mp v;let w:l.getD j 0=x:=by rw[o8,v];rfl
  rw[Yc t,G,show eW m a (x::l.drop (j+1))=((μ (a<=x)&&μ (x<=m-1))&&eW m (x+1) (l.drop (j+1))) from Y] at e;calc⟨trivial,?_⟩;erw[fN,cH,fB,aS,fh,iw,rC,XO,Xm,q0y,XW,XX,Yd,q2Q,and_self,true_and,ZJ,Za];refine d4 λH I J K=>?_
  let g:¬ (a<=x/\x<=m-1)->H ⟨[ζ (.p (.lst (l.map D.int))),ζ (.p (.int m)),ζ (.p (.int j)),ζ (.p (.int x))],[]⟩:=λh=>by
   subst J
   let q:(μ (a<=x)&&μ (x<=m-1))=ι:=by
    cases z:(μ (a<=x)&&μ (x<=m-1)) with
    |false=>rfl
    |true=>erw[Xs,Xt] at z;exact absurd z h
   rw[e,q] at k;exact bg k
  let n:a<=x/\x<=m-1->0<=x->I ⟨[ζ (.p (.lst (l.map D.int))),ζ (.p (.int m)),ζ (.p (.int j)),ζ (.p (.int x))],[]⟩:=λh M=>by
   subst K
   exact(λh=>F _ ⟨h,Y⟩) ⟨x+1,by rw[e,Bj h.1,Bj h.2];rfl,λz=>by symm,λi z=>by
    obtain rfl:i=j:=by symm
    calc⟨by rw[w],by rw[w];calc M⟩⟩
  simp!;calc⟨.int x,0,m-1,Y,Y,?_⟩;rw[show p_ (.int x) 0 (m-1)=(μ (0<=x)&&μ (x<=m-1)) from Y]
  cases q:(μ (0<=x)&&μ (x<=m-1)) with
  |false =>
   refine g λh=>?_
   let:0<=a:=by
    cases j with
    |zero=>symm
    |succ i=>let:=f i Y;symm
   rw[Bj ⋯,Bj h.2] at q;cases q
  |true =>
   erw[Xs,Xt] at q;simp!
   cases j with
   |zero=>exact n ⟨by rw[s Y];calc q.1,q.2⟩ q.1
   |succ i =>
    rw[W_ (Bj ⋯),show(((i+1:Nat):Int)-1)=i by symm,iY ⋯];let⟨U,V⟩:=f i Y;simp!
    by_cases c:x<=l.getD i 0
    .rw[Bj c]
     exact g λh=>by symm
    .rw[Bh c]
     exact n ⟨⋯,q.2⟩ q.1
 .ext r ⟨⟨a,e,_,_⟩,rfl⟩
  rw[mE,kF,q1Q] at e;calc⟨trivial,?_⟩;subst A;rw[e] at k;calc bg k
inductive y0 (ys:-DV) (aN:-OV) (K:RV->-OV->Prop):Prop
 |mk (m:Int) (ws:-Wy) (l:-Int) (n:Int) (q:ak m ws) (q:(0<=n/\n<(↑ws:Int))) (q:ys=[.p (az m ws),.p (aK l),.p (.int n)]) (q:aN=[]) (q:K (.p (.bl (cV l (ae ws n)))) [])
def Fd:WS:=(ai (eJ (dQ (d2 (d2 (aa 0) (dC (.int 1)) aE) (aa 2) aE) dP (iy (dC (.int 2)))) (fN 2 (cH (aS 3) (cH (aS 4) fB)))) (aA (d2 (d2 (aa 3) (aa 1) (dt ι)) (d2 (aa 4) (aa 1) (dt ι)) hD)))
theorem Sd:Sem 3 2 y0 Fd:=by
 ext j a o-⟨m,b,l,n,W,⟨c,d⟩,rfl,rfl,k⟩;let⟨y,e,r,f,_⟩:13:=lK W c d;let g:ae b n=y:=e;rw[g] at k;calc aI λN h=>?_;let i:cutD [D.int y.1,D.int y.2.1,D.int y.2.2] η (ζ 2)=[D.int y.1,D.int y.2.1]:=Y;simp![az,cR,f,bc,i];subst h;simp![aK];let s:=ew l;calc⟨⋯,⋯,?_⟩;rw[fQ,fQ];unfold cV at k;generalize μ (y.1∈l)=p at k;generalize μ (y.2.1∈l)=q at k;cases p<;>cases q<;>calc bg k
meta def qM:D->D
 |.tup [_,n]=>n
 |_=>.non
inductive y4 (ys:-DV) (aN:-OV) (K:RV->-OV->Prop):Prop
 |mk (m:Int) (ws:-Wy) (l:-Int) (q:ak m ws) (q:ys=[.p (az m ws),.p (aK l),.p (aK (aZ ↑ws))]) (q:aN=[]) (q:∀os:-Int,os.Perm (eA ws l)->(os.map (bJ ws)).Pairwise kle->K (.p (aK os)) [])
def Fe:WS:=(ai (ar 3 (bX (aY (aa 2)) [η,ζ 0,ζ 1] (aS 0) (dT (aj 3 y0 (ag (aa 1) (ag (aa 2) (ag (aa 0) af))))) (bN (ag (aj 2 sQ (ag (aa 1) (ag (aa 0) af))) (ag (aa 0) af))))) (aA (bX (aY (dN (ag (aa 3) af) sM)) [η,η] (fN 2 (cH (aS 0) (cH (aS 1) fB))) bY (aa 1))))
theorem Se:Sem 3 1 y4 Fe:=by
 ext C t E-⟨m,ws,l,W,rfl,rfl,k⟩;let u:=W.h_;let F:=gj ↑ws;let v:=Qt (ws:=ws) (l:=l)
 refine aI λN w=>f_ (λd=>match d with
  |.int n=>cV l (ae ws n)
  |_=>ι) (λd=>match d with
  |.int n=>i5 ws n
  |_=>.non) (by rw[kF];symm) trivial ?_ ?_
 .ext d f i L j x y
  let⟨n,z,rfl⟩:11:=Bk.mp f;let p:=OW z;simp!;calc⟨m,ws,l,n,W,p,Y,Y,?_⟩;simp!
  cases q:cV l (ae ws n) with
  |false=>exact y q
  |true =>
   exact⟨m,ws,n,W,p,Y,Y,⟨j,x q⟩⟩
 let e:(((aZ ↑ws).map D.int).filter λd=>match d with
  |.int n=>cV l (ae ws n)
  |_=>ι).map (λd=>match d with
  |.int n=>i5 ws n
  |_=>.non)=(eA ws l).map (i5 ws):=by
  rw[XP,Xd];rfl
 rw[e];subst w;simp![sM]
 refine⟨⋯,λd=>match d with
  |.tup [.tup A,.int n]=>(match intsOf A with
   |some l=>l++[n]
   |none=>[])
  |_=>[],.inr ⟨3,λd f=>?_⟩,λg r o=>?_⟩
 .let⟨n,_,rfl⟩:11:=Bk.mp f
  refine(zI2 (bJ ws n) n ⟨Y,Y,?_⟩)
  show(match intsOf ((bJ ws n).map D.int) with
   |some l=>l++[n]
   |none=>[])=_
  rw[kO]
 .let⟨c,rfl,s⟩:∃c:-Int,g=c.map (i5 ws)/\c.Perm (eA ws l):=by
   refine⟨g.map λd=>match d with
    |.tup [_,.int n]=>n
    |_=>0,?_,?_⟩
   .rw[Xd]
    calc(YI g).symm.trans (YH λd f=>?_);let⟨n,_,rfl⟩:=Bk.mp (r.mem_iff.mp f);rfl
   .let:=r.map λd=>match d with
     |.tup [_,.int n]=>n
     |_=>0
    rw[Xd] at this;exact this.trans (List.Perm.of_eq ((YH λn _=>Y).trans (YI _)))
  let G:↑c<=↑ws:=by rw[s.length_eq];exact v
  let B:(c.map (bJ ws)).Pairwise kle:=by
   rw[Xd] at o;rw[X9] at o ⊢;calc o.imp λ{a b} h=>?_;exact PA Y h
  refine L2.gT qM (by rw[kF];symm) trivial ?_ ?_
  .ext d f i L j h
   let⟨n,_,rfl⟩:=Bk.mp f;simp![i5];exact⟨j,h⟩
  .let e:(c.map (i5 ws)).map qM=c.map D.int:=by rw[Xd];rfl
   rw[e];calc bg (k c s B)
end LJ
namespace L2
open PySem PySem.Spec PyProof.Rows PySem.W
section
variable{X:Cx}{pins:ax}{σ:St}{H:Hp}{s:ο}{E:aJ}{l I S:Z}{ts:-Z}{kw:-(π×ν)}{R:Result->ο->Prop}
def Sf(mx:Bool)(c:Nat->LK)(d:-Z)(i:Nat)(a:Array ν):Prop :=
 (i=0/\a = #[])\/∃(b:Nat)(t:Z),b<i/\d[b]?=ζ t/\a = #[.ref t,.ref t]/\∀j,j<i->i8 mx (c b) (c j)
def ni(X:Cx)(mx:Bool)(c:ax)(f:St)(H:Hp)(d:Nat->LK)(e:-Z):Prop:=∀(i j:Nat)(t u:Z)(a:ax)(b:ο)(Q:aJ)(E:aJ),e[i]?=ζ t->e[j]?=ζ u->Inv X a f H b->Q (.bool (qp mx (d i) (d j))) b->ρ (ς X.prog X.w) X.A.in1 (richCompare (xK mx) (.ref t) (.ref u)) Q E b
theorem Sg(mx:Bool)(P:Nat->LK)(hh:X.A.handled=η)(hu:X.A.units+1<cLine)(Q:l≠I)(s:S≠I)(fI:H I=η->bx X pins H I)(fS:H S=η->bx X pins H S)
  (hl:H l=ζ (.lst (ts.map V.ref))) (cmp:ni X mx pins σ H P ts)
  (U:∀s',Inv X pins σ H s'->(ts=[]->∃d,kw=[(YX "default",d)]/\R (.ok (.ret d)) s')/\∀(b:Nat)(t:ξ),ts[b]?=ζ t->(∀j,j<↑ts->i8 mx (P b) (P j))->R (.ok (.ret (.ref t))) s') :
  ∀(r i:Nat)(s':ο)(h:Array ν)(c:Nat)(D:Γ),i+r=↑ts->Inv X ((S,seqObj "list" h c)::(I,D)::pins) σ H s'->D.cls=.type "list_iterator" -> D.data=.fields #[.ref l,.int i 0]->Sf mx P ts i h →
   codeAny (ς X.prog X.w) X.A (.builtin (j5 mx) ⟨[.ref I,.none,.ref S],kw⟩) R s':=by
 let g:(toString (gv mx)++toString ".loop" : String)=j5 mx:=by cases mx<;>decide
 ext r
 induction r with
 |zero =>
  ext i T h c D hr J M N Y;let E:=J.pin (S,seqObj "list" h c) (Vp _ (.head _));let O:=J.pin (I,D) (Vp _ (.tail _ (.head _)));let Z:=J.cg.cg;let⟨y,rv,pl,_⟩:=Z.list (bf.of hl);let lv:=↑rv;rw[kF] at lv;let xN:i=↑y:=by symm
  calc Yj (sZ mx) ?_;rw[Zt (jm mx) _];show ρ _ X.A.in1 (seqItems? (.ref S) >>= _) _ _ _;calc dV (ZD E.1 rfl ?_);show ρ _ X.A.in1 (tryCatch (pyNext (.ref I)) _ >>= _) _ _ _;let W:=ZZ (prog:=X.prog) (w:=X.w) (A:=X.A.in1) hh I l Q y.toArray;calc dV (ZK (W.done _ _ _ ⟨⟨D,O.1,M,by rw[N,KJ,<-xN]⟩,q0b pl⟩ λG k B=>?_));let J1:Inv X pins σ H {T with heap:=G,toks:=k}:=Z.dj (fI O.2.1) λc o n e=>B c o n⁻¹ e;let m:=B S _ s⁻¹ E.1;rcases Y with⟨qq,rfl⟩|⟨b,t,Y,ht,rfl,a⟩
  .let⟨d,rfl,q⟩:11:=(U _ J1).1 (Yb.mp ⋯)
   exact dV (q07 (nF q))
  .let s1:=XE G S (X7 λ_=>(#[]:Array ν))
   show ρ _ X.A.in1 (updateSeq S (λ_ => #[]) >>= _) _ _ _;calc dV (Zc m rfl (dV (Z2 (nF ?_))));exact(U _ (J1.dj (fS E.2.1) λc o n e=>(s1.2 c n).trans e)).2 b t ht λj hj=>a j ⋯
 |succ r ih =>
  ext i T h c D hr J M N Y;let E:=J.pin (S,seqObj "list" h c) (Vp _ (.head _));let O:=J.pin (I,D) (Vp _ (.tail _ (.head _)));let Z:=J.cg.cg;let⟨y,rv,pl,_⟩:=Z.list (bf.of hl);let lv:=↑rv;rw[kF] at lv;calc Yj (sZ mx) ?_;rw[Zt (jm mx) _];show ρ _ X.A.in1 (seqItems? (.ref S) >>= _) _ _ _;calc dV (ZD E.1 rfl ?_);show ρ _ X.A.in1 (tryCatch (pyNext (.ref I)) _ >>= _) _ _ _;let W:=ZZ (prog:=X.prog) (w:=X.w) (A:=X.A.in1) hh I l Q y.toArray;calc dV (ZK (W.item i _ _ _ (by rw[KJ];symm) ⟨⟨D,O.1,M,N⟩,q0b pl⟩ λv G k hv mQ B=>?_));let hv:y[i]?=ζ v:=by simpa using hv
  let⟨F,K,L,C⟩:=id mQ.1;let hi:i<↑ts:=by symm
  let hx:=mf hi;generalize ts[i]=f at hx;let⟨u,e1,rx⟩:=rv.get (x:=.ref f) (by rw[KI,hx];rfl);rw[hv] at e1;cases e1
  cases rx
  let m:=B S _ s⁻¹ E.1;let nI:∀z,F.data≠.cell z:=λz e=>by rw[C] at e;cases e
  let J1:Inv X pins σ H {T with heap:=G,toks:=k}:=Z.dj (fI O.2.1) λc o n e=>B c o n⁻¹ e;let J2:=(J1.eN (fI O.2.1) K nI).eN ((fS E.2.1).cons (p:=(I,F)) s.symm) m oe
  let put:(∀j,j<i+1->i8 mx (P i) (P j))->codeAny (ς X.prog X.w) X.A (.builtin (j5 mx) ⟨[.ref I,.none,.ref S],kw⟩) R {T with heap:=G.update S (X7 λ_ => #[.ref f,.ref f]),toks:=k}:=λa=>by
   let s1:=XE G S (X7 λ_ => #[XH f,XH f]);let⟨c2,xQ⟩:∃c2,(G.update S (X7 λ_ => #[XH f,XH f])).get? S=ζ (seqObj "list" #[.ref f,.ref f] c2):=⟨_,q0U m λ_ => #[XH f,XH f]⟩;let J4:Inv X pins σ H {T with heap:=G.update S (X7 λ_ => #[XH f,XH f]),toks:=k}:=J1.dj (t':=k) (fS E.2.1) λc o n e=>(s1.2 c n).trans e;let J5:=(J4.eN (fI O.2.1) ((s1.2 I s.symm).trans K) nI).eN ((fS E.2.1).cons  s.symm) xQ oe;exact ih (i+1) _ _ c2 F ⋯ J5 L C (.inr (zI2 i f ⟨⋯,hx,rfl,a⟩))
  rcases Y with⟨qq,rfl⟩|⟨b,t,Y,ht,rfl,a⟩
  .show ρ _ X.A.in1 (updateSeq S (λ_ => #[.ref f,.ref f]) >>= _) _ _ _
   calc dV (Zc m rfl ?_);rw[g];calc nF ⟨Yy (jm mx) _,put λj hj=>?_⟩;obtain rfl:j=i:=by symm
   exact s_ _ _
  .show ρ _ X.A.in1 (tryCatch (holding [.ref f,.ref f] (richCompare _ (.ref f) (.ref t) >>= _)) _ >>= _) _ _ _
   calc dV (ZK (Xy (dV (cmp i b f t _ _ _ _ hx ht J2 (dV (Xy (Yu (dV (Z2 (nF ?_))))))))));split
   .rename_i hq
    calc dV (Zc m rfl (dV (Z2 ?_)));rw[g];refine nF ⟨Yy (jm mx) _,put λj hj=>?_⟩
    by_cases e:j=i
    .subst e;exact s_ _ _
    .exact D5 hq (a j ⋯)
   .rename_i hq
    calc dV (Z2 ?_);rw[g];refine nF ⟨Yy (jm mx) _,ih (i+1) _ _ c F ⋯ J2 L C (.inr (zI2 b t ⟨⋯,ht,rfl,λj hj=>?_⟩))⟩
    by_cases e:j=i
    .subst e;exact D6 hq
    .calc a j ⋯
theorem Sh mx {Q:aJ} {r} h (B:argsOk (gv mx) ⟨[.ref l],kw⟩) (C:Builtin.Builtins.bindParams (gv mx) ["key", "default"] 0 ⟨[],kw⟩=pure [η,r]) (D:(r.toList.map λd=>(YX "default",d))=kw) (J:Inv X pins σ H s) (F:X.A.handled=η) (G:X.A.units+1<cLine)
  (v:H l=ζ (.lst (ts.map V.ref))) (n:∀a,ni X mx a σ H h ts)
  (o:∀s',Inv X pins σ H s'->(ts=[]->∃d,kw=[(YX "default",d)]/\Q d s')/\∀b t,ts[b]?=ζ t->(∀j,j<↑ts->i8 mx (h b) (h j))->Q (.ref t) s') :
  ρ (ς X.prog X.w) X.A (call (.builtin (gv mx)) [.ref l] kw) Q E s:=by
 let c:(toString (gv mx)++toString ".loop")=j5 mx:=by cases mx<;>decide
 let⟨K,M,x,_⟩:12:=J.list (bf.of v);calc kmk_tree (D3 mx) (D4 mx) (D2 mx) B (dV (q1n C (dV (nF (dV (YW (q0b x) (dV (q0L ?_ (XZ _)))))))));rw[c,D];calc nF ⟨Yy (jm mx) _,?_⟩;let i:Inv X pins σ H {s with heap:=s.heap.push {cls:=.type "list_iterator",data:=.fields #[.ref l,.int 0 0]}}:=J.kept  λb u e=>mi _ e;let k:(s.heap.push {cls:=.type "list_iterator",data:=.fields #[.ref l,.int 0 0]}).get? ⇑s=ζ {cls:=.type "list_iterator",data:=.fields #[.ref l,.int 0 0]}:=Vs _ Y;let m:(s.heap.push {cls:=.type "list_iterator",data:=.fields #[.ref l,.int 0 0]}).objs.size≠⇑s:=λz=>Zf _ (q24 (Vo k) z)
 let p:H ⇑s=η->bx X pins H ⇑s:=J.fz (vr _);let f:=J.aM.fresh (vr _);let g:=W8 (PlainL.lt x);generalize ⇑s=I at k m p f g;generalize s.heap.push {cls:=.type "list_iterator",data:=.fields #[.ref l,.int 0 0]}=q at i k m;let y:H q.objs.size=η->bx X pins H q.objs.size:=i.fz (vr _);let L:Inv X pins σ H {s with heap:=q.push (seqObj "list" #[] 0)}:=i.kept  λb u e=>mi _ e;calc Sg mx h F G g m p y v (n _) o ↑ts 0 _ #[] 0 _ (by simp) ((L.eN (p f) (mi _ k) (λz e=>by cases e)).eN ((y (i.aM.fresh (vr _))).cons  m.symm) (Vs _ Y) oe) Y Y (.inl ⟨Y,Y⟩)
end
end L2
namespace HT
open PySem PySem.Spec PyProof.Rows
structure El(A:Β)(s:ο)(v w:ν)(e g:Bool):Prop where
 eq:q0j A s v w e
 gt:e=ι->∀(prog:ψ)(wd:ω)(Q:aJ)(E:aJ),Q (.bool g) s->ρ (ς prog wd) A (richCompare .Gt v w) Q E s
inductive fT (A:Β) (s:ο):-ν->-ν->Bool->Prop
 |nil:fT A s [] [] ι
 |cons {v w vs ws e g r}:El A s v w e g->fT A s vs ws r->fT A s (v::vs) (w::ws) (if e=θ then r else g)
theorem fT.length{A s vs ws r}(h:fT A s vs ws r):↑vs=↑ws:=by
 induction h with
 |nil=>rfl
 |cons _ _ a=>rw[rC,rC,a]
section
open PySem.SeqAt
open PySem.AutoSeq1 (wpAny_loadPart')
open PySem.MeetsSeq PySem.MeetsSeq2 PySem.MeetsSeq3
theorem Si(l b:ξ)(items a:Array ν)(n J:Nat)(K t:Option ξ)(L u:Array (Option ν))(v:Bool):
  Meets (Builtin.«tuple.__gt__» ⟨[.ref l,.ref b],[]⟩)
   (λA R s=>s.heap.get? l=ζ {cls:=.type "tuple",dict:=K,data:=.seq items n,slots:=L}/\s.heap.get? b=ζ {cls:=.type "tuple",dict:=t,data:=.seq a J,slots:=u} ∧
    fT A.in1 s items.toList a.toList v/\R (.ok (.ret (.bool v))) s) :=
 .of_wp λc w A R s h=>by
  let⟨z,g,d,B,C⟩:=s;let⟨hl,hb,H,h⟩:03:=h;let T:=Z9;let U:items.size=a.size:=by let:=↑H;simpa using this
  wp_walk using X_ hl,X_ hb,q0F _ (λe b D=>b.1=η/\D=⟨z,g,d,B,C⟩/\∃(p q:-ν)(r:Bool),e=p.zip q/\fT A.in1 ⟨z,g,d,B,C⟩ p q r/\R (.ok (.ret (.bool r))) ⟨z,g,d,B,C⟩) _
  case turn =>
   ext F e b D m;let⟨y,x⟩:=F;let⟨f,rfl,p,q,r,k,i,j⟩:0232:=m
   cases i with
   |nil=>cases k
   | @cons V W M N O X Y I P =>
    rw[YL] at k;injection k with oY gz;injection oY with hy hx;subst hy hx;refine dV (I.eq c w _ _ ?_)
    cases O with
    |true =>
     rw[W_ rfl] at j
     wp_walk
     exact⟨rfl,rfl,_,_,_,gz,P,j⟩
    |false =>
     rw[Vq Xh] at j;let G:=λQ E=>I.gt rfl c w Q E
     wp_walk using G
     exact⟨_,rfl,by simpa using j⟩
  case fin =>
   ext F D o;let⟨Z,b2⟩:=F;let⟨f,rfl,p,q,r,k,i,j⟩:0232:=o;simp only at f;subst f
   let S:r=μ (a.size<items.size):=by
    cases i with
    |nil=>exact(Bh ⋯).symm
    |cons _ _=>rw[YL] at k;cases k
   rw[S] at j
   wp_walk
   exact⟨_,rfl,by simpa[Zz] using j⟩
  case h =>
   calc⟨rfl,rfl,items.toList,a.toList,v,rfl,H,h⟩
end
section
variable{prog:ψ}{w:ω}{A:Β}{E:aJ}{s:ο}
theorem Sj{l b items a v}{Q:aJ}(o:IsTup s.heap l items)(p:IsTup s.heap b a)(he:fT A.in1 s items.toList a.toList v)
  (q:A.units<cLine) (h:Q (.bool v) s):ρ (ς prog w) A (richCompare .Gt (.ref l) (.ref b)) Q E s:=by
 let⟨⟨r,t,j,u⟩,k,y,n,z⟩:121:=id o;let⟨⟨m,d,e,f⟩,c,g,B,i⟩:121:=id p;subst y z g i
 exact q0u  ⟨_,k,Y⟩ ⟨_,c,Y⟩ q2d q1Z (q1O _ _) (Si l b items a n B t d u f v)
  ⟨k,c,he,⟨(λx=>nomatch x),h⟩⟩ q
end
end HT
namespace L2
open PySem PySem.Spec PyProof.Rows PySem.W
meta def lR(p:LK×Int):D:=.tup [tupI p.1,.int p.2]
theorem Ff:∀a b:-Int,bw (a.map D.int) (b.map D.int)=μ (a=b)
 |[],[]=>by simp[bw]
 |[],_::_=>by simp[bw]
 |_::_,[]=>by simp[bw]
 |a::r,b::s=>by
  rw[Xm,Xm];erw[bw,aD,Ff r s,q18,Bool.decide_and];congr 1
theorem Fg:∀k:-Int,bD (k.map D.int)<=1
 |[]=>by simp[bD]
 |a::r=>by let:=Fg r;erw[Xm,bD,dep];symm
theorem Sk a b:aD (tupI a) (tupI b)=μ (a=b):=by
 calc Ff a b
meta def kp(p:LK×Int):LK:=p.1++[p.2]
meta def kpr(ps:-(LK×Int))(i:Nat):LK:=(ps[i]?.map kp).getD []
theorem tQ{ps i p}(h:ps[i]?=ζ p):kpr ps i=kp p:=by unfold kpr;rw[h];rfl
theorem Sl a:argsOk "max" ⟨[a],[]⟩:=by kernel_rfl
section
variable[zt:aB]{X:Cx}{pins:ax}{σ:St}{H:Hp}{ts:-Z}
theorem Sm{L ps}(hu:X.A.units+8<cLine)(v:∀p∈ps,↑p.1=L)
  (w:∀(i:Nat) t,ts[i]?=ζ t->∃(p:LK×Int)(a:ξ),ps[i]?=ζ p/\H t=ζ (.tup [.ref a,.int p.2])/\H a=ζ (.tup (p.1.map V.int))) :
  ni X θ pins σ H (kpr ps) ts:=by
 ext i j t u g I Q E K M J h;let⟨p,a,x,N,y⟩:22:=w i t K;let⟨q,b,B,O,C⟩:22:=w j u M;rw[tQ x,tQ B] at h;let⟨i1,P,l,_⟩:12:=J.tuple (bE.of N);let⟨i2,R,m,_⟩:12:=J.tuple (bE.of O);let⟨x1,y1,rfl,S,T⟩:22:=vals2 P;let⟨x3,y3,rfl,U,W⟩:22:=vals2 R;cases S
 cases U
 let⟨n,rfl⟩:=T;let⟨o,rfl⟩:=W;let⟨i3,Y,r,_⟩:12:=J.tuple (bE.of y);let⟨i4,Z,s,_⟩:12:=J.tuple (bE.of C);let g1:Is H (tupI p.1) (.ref a):=(zI2 a _ ⟨rfl,y,j2⟩);let g2:Is H (tupI q.1) (.ref b):=(zI2 b _ ⟨rfl,C,j2⟩);let ee:=(rY J 3 (A:=X.A.in1.in1) (by unfold tupI;let:=Fg p.1;erw[dep];symm) (by show X.A.units+1+1+3<cLine;symm) g1 g2 (rfl) (rfl)).1;let⟨e,he,f⟩:=HT.u9 X.A.in1.in1 I p.2 n q.2 o;refine HT.Sj  l m (.cons ⟨ee,λ_ d D F G k=>HT.D0   r s (intsAre_of Y)⁻¹ (intsAre_of Z)⁻¹ (by show X.A.units+1+1<cLine;symm) k⟩ (.cons ⟨he,λ_ d D F G k=>HT.DZ _ _ _ _ _ _ d D G F k⟩ .nil)) (by show X.A.units+1<cLine;symm) ?_
 let hv:qp θ (kp p) (kp q)=(if aD (tupI p.1) (tupI q.1)=θ then(if e=θ then ι else μ (q.2<p.2)) else HT.lexLt q.1 p.1):=by
  show HT.lexLt (q.1++[q.2]) (p.1++[p.2])=_;rw[qk _ _ (by rw[(v p (Xw x)),(v q (Xw B))]),Sk]
  by_cases c:p.1=q.1
  .rw[W_ c.symm,W_ (Bj c)]
   cases e with
   |true=>exact Bh (by let:=f.mp rfl;symm)
   |false=>rw[Vq Xh]
  .rw[Vq (λz=>c z.symm),Vq c⁻¹]
 rw[hv] at h;calc h
theorem pairs_at{F}:∀{ps:-(LK×Int)}{us},ah F (ps.map lR) us->∃b:-Z,us=b.map V.ref/\↑b=↑ps/\∀(i:Nat) t,b[i]?=ζ t->∃(p:LK×Int)(a:Z),ps[i]?=ζ p/\F t=ζ (.tup [.ref a,.int p.2])/\F a=ζ (.tup (p.1.map V.int))
 |[],d,h=>by
  let:=↑h;exact⟨[],Yb.mp this,Y,λi t e=>by simp at e⟩
 |p::r,d,h=>by
  cases d with
  |nil=>let:=↑h;cases this
  |cons u d =>
   let j:=ah.at h (i:=0) Y Y;let⟨b,rfl,k,l⟩:12:=pairs_at (wj 1 h);let⟨t,m,rfl,f,c⟩:22:=j;refine⟨t::b,Y,by rw[rC,rC,k],λi t' e=>?_⟩
   cases i with
   |zero =>
    cases(e)
    match m,↑c,f,c with
    |[s,v],_,f,c =>
     let n:=ah.at c (i:=0) Y Y;let o:=ah.at c (i:=1) Y Y;let⟨a,w,rfl,g,q⟩:22:=n;rw[jZ q] at g;cases o
     exact(zI2 p a ⟨Y,f,g⟩)
   |succ i=>calc l i t' e
def y6(ds:-D)(K:D->Prop):Prop:=∃(a:-(LK×Int))(L:Nat),ds=[.lst (a.map lR)]/\a≠[]/\(∀p∈a,↑p.1=L)/\∀p∈a,(∀q∈a,kle (kp q) (kp p))->K (lR p)
theorem Sn(R:X.A.units+64<cLine)(y:X.calm=θ):cG X (.builtin "max") y6:=by
 ext m s S H T U Q I r ⟨F,V,K,c,z,q,B⟩;let⟨C,L,rfl,D,E,q⟩:23:=q;let⟨v,rfl,a,W,rfl,G,J⟩:1122:=f9 z;let⟨u,rfl,M⟩:=vals1 r;cases M
 let⟨Y,rfl,n,o⟩:12:=pairs_at J;refine Sh θ     (kpr C) (Sl _) rfl rfl I (I.ok.hd y) ⋯ G (λg=>Sm ⋯ E λi t e=>?_) λZ N=>⟨λO=>?_,λb t e d=>?_⟩
 .let⟨p,h,f,k,l⟩:22:=o i t e
  exact(zI2 p h ⟨f,c _ _ k,c _ _ l⟩)
 .exact (D (Yb.mp (by rw[<-n,O];rfl))).elim
 .let⟨p,h,f,k,l⟩:22:=o b t e
  refine⟨.ref t,H,N,rfl,B _ _ _ (q p (Xw f) λx P=>?_) (λ_ _ e=>e) ?_⟩
  .let⟨j,w⟩:=Vt.mp P
   let:=d j (by rw[n];calc(mj.mp w).1);rw[tQ f,tQ w] at this;exact this
  .rw[Nw.refl c];calc(zI2 t _ ⟨rfl,k,_,_,rfl,(zI2 h _ ⟨rfl,l,j2⟩),_,_,rfl,rfl,rfl⟩)
end
end L2
namespace LJ
open PySem L2
variable[zt:aB]
theorem So{ws:-Wy}{a b}(h:kle (kp (bJ ws a,a)) (kp (bJ ws b,b))):kle (bJ ws a) (bJ ws b):=by
 by_cases c:bJ ws a=bJ ws b
 .rw[c];exact kle_refl _
 let h:HT.lexLt (bJ ws b++[b]) (bJ ws a++[a])=ι:=h;rw[qk (k:=bJ ws b) (l:=bJ ws a) b a Y,Vq (λz=>c z.symm)] at h;calc h
theorem y7{us b:-Int} a {c K} (m:↑us<=100) (j:c.sl=[η,ζ (.p (.lst (b.map D.int)))]) (h:K ((us.filter λx=>if a then μ (x∉b) else μ (x∈b)).map D.int) c) :
  g9 c (λ_=>True) (aS 0) (dT (d2 (aa 0) (aa 1) (dt a))) (aa 0) K (us.map D.int) [] c:=by
 let⟨n,o⟩:=c;subst j;let r:=ew b
 refine L2.f_ (λd=>match d with
  |.int x=>if a then μ (x∉b) else μ (x∈b)
  |_=>ι) id (by rw[kF];symm) trivial ?_ ?_
 .ext d k l L i f g
  let⟨x,s,rfl⟩:=Bk.mp k;dsimp only at f g;simp!;calc⟨⋯,?_⟩;rw[fQ];cases a<;>by_cases q:x∈b
  .rw[Bj q] at f ⊢;exact⟨i,f Y⟩
  .rw[Bh q] at g ⊢;exact g Y
  .rw[Bj q];exact g (by simp[q])
  .rw[Bh q];exact⟨i,f (by simp[q])⟩
 let e:((us.map D.int).filter λd=>match d with
  |.int x=>if a then μ (x∉b) else μ (x∈b)
  |_=>ι).map id=(us.filter λx=>if a then μ (x∉b) else μ (x∈b)).map D.int:=by
  rw[YI,XP];rfl
 rw[e];calc h
meta def nk(ps a:-Int)(w:π):Option Int->D
 |none=>.non
 |some n=>if w="cut" then .tup [aK (sortI (ps++[n])),aK a] else .tup [aK ps,aK (sortI (a++[n]))]
inductive tR (ys:-DV) (aN:-OV) (K:RV->-OV->Prop):Prop
 |mk (m:Int) (ws:-Wy) (ps qs:-Int) (w:π) (l:-Int) (q:ak m ws) (q:Nums ws ps) (q:↑ps<=30) (q:↑qs<=30) (q:ys=[.p (az m ws),.p (.tup [aK ps,aK qs]),.p (.tup [.str w,aK l])]) (q:aN=[]) (q:∀r,(∀n,r=ζ n↔qz m ws ps qs w l n)->K (.p (nk ps qs w r)) [])
def y8:WS:=(ai (eJ (aa 1) (fN 2 (cH (aS 3) (cH (aS 4) fB)))) (ai (eJ (aa 2) (fN 2 (cH (aS 5) (cH (aS 6) fB)))) (ai (aO (cJ (dT (d2 (aa 5) (dC (.str "cut")) oEq)) (dT (aj 2 tP (ag (aa 6) (ag (d2 (aa 0) (dC (.int 0)) aE) af))))) (ai (ar 7 (aj 3 y4 (ag (aa 0) (ag (aa 6) (ag (aj 1 qe (ag (aa 0) af)) af))))) (ai (ar 8 (bX (aY (aa 7)) [η,ζ 4] (aS 0) (dT (d2 (aa 0) (aa 1) (dt θ))) (aa 0))) (aO (cJ (dT (d2 (aa 8) (br af) hD)) (dT (d2 (bX (aY (aa 7)) [η,ζ 3] (aS 0) (dT (d2 (aa 0) (aa 1) (dt ι))) (aa 0)) (br af) oEq))) (aA (bN (ag (dN (ag (d2 (aa 3) (dQ (aa 8) dP (iy (dC (.int 1)))) cv) af) gR) (ag (aa 4) af)))) bQ))) bQ) (ai (aO (cJ (dT (d2 (aa 5) (dC (.str "ring")) oEq)) (cJ (dT (aj 2 tP (ag (aa 6) (ag (dN (ag (d2 (aa 0) (dC (.int 1)) aE) af) bH) af)))) (dT (aj 2 yY (ag (aa 0) (ag (aa 6) af)))))) (ai (ar 8 (bX (aY (aa 6)) [η,ζ 0,ζ 3] (aS 0) (dT (d2 (aa 0) (aa 2) (dt θ))) (bN (ag (aj 2 sQ (ag (aa 1) (ag (aa 0) af))) (ag (aa 0) af))))) (aO (cJ (dT (d2 (aa 8) (br af) hD)) (dT (d2 (bX (aY (aa 6)) [η,ζ 4] (aS 0) (dT (d2 (aa 0) (aa 1) (dt ι))) (aa 0)) (br af) oEq))) (aA (bN (ag (aa 3) (ag (dN (ag (d2 (aa 4) (br (ag (d2 (dN (ag (aa 8) af) y6) (dC (.int 1)) aE) af)) cv) af) gR) af)))) bQ)) bQ) (aA (dC .non))))))
theorem Sq{c d:WT}{A B K a}(h:∀D:WT,aO (cJ c D) A B K a):aO (cJ c d) A B K a:=h d
theorem Sr:Sem 3 6 tR y8:=by
 ext ys aN K'-⟨m,f,b,c,w,l,W,pn,pl,ql,rfl,rfl,k⟩;let S:=W.h_;let zl:=ew l;unfold y8;rw[show aK b=.lst (b.map D.int) from rfl,show aK c=.lst (c.map D.int) from rfl,show aK l=.lst (l.map D.int) from rfl];calc aI λN i=>?_;simp!;subst i;calc aI λN i=>?_;simp!;subst i;refine aI λN i=>?_
 let g:∀F G,w≠"ring" -> (∀n,¬ qz m f b c w l n)->N ⟨[ζ (.p (az m f)),ζ (.p (.tup [.lst (b.map D.int),.lst (c.map D.int)])),ζ (.p (.tup [.str w,.lst (l.map D.int)])),ζ (.p (.lst (b.map D.int))),ζ (.p (.lst (c.map D.int))),ζ (.p (.str w)),ζ (.p (.lst (l.map D.int))),F,G],[]⟩:=λF G t h=>by
  subst i;calc aI λN i=>Sq λD1=>d4 λA1 B1 M u=>?_;simp![aD];rw[Vq (λz=>t (ZO.mp z))];subst u;show N _;subst i;exact bg (k η (j7 h))
 calc d4 λA1 B1 M u=>?_;simp![aD]
 by_cases v:w="cut"
 .rw[W_ (ZO.mpr v)]
  let t:w≠"ring" := by rw[v];decide
  let g:=λF G (h:∀n,¬ dg m f b c l n)=>g F G t λn z=>z.elim (λz=>h n z.2) λz=>t z.1;simp![az,cQ];refine⟨l,m,rfl,rfl,?_⟩
  cases A:eW m 0 l with
  |false =>
   simp!;subst u;exact g _ _ λn C=>by rw[C.rise] at A;cases A
  |true =>
   simp!;subst M;clear u;calc aI λN2 j=>?_;simp!;calc⟨m,f,W,rfl,rfl,?_⟩;simp!;calc⟨m,f,l,W,rfl,rfl,λo T up=>?_⟩;let R:∀x,x∈o↔(0<=x/\x<(↑f:Int))/\cV l (ae f x)=θ:=λx=>T.mem_iff.trans bh
   let ol:↑o<=30:=by
    rw[T.length_eq];calc XQ (Yi _ _) ?_;rw[gj];exact S
   rw[show aK o=.lst (o.map D.int) from rfl];simp!;subst j;calc aI λN2 j=>?_;simp!;calc y7 θ ⋯ rfl ?_;let y:∀x,x∈o.filter (λx=>if θ then μ (x∉c) else μ (x∈c))↔x∈o/\x∉c:=λx=>by rw[Xf,W_ rfl,Yg]
   let U:((o.filter λx=>if θ then μ (x∉c) else μ (x∈c)).map (bJ f)).Pairwise kle:=up.sublist (YY.map _);generalize o.filter (λx=>if θ then μ (x∉c) else μ (x∈c))=B at y U;simp!;subst j;calc d4 λA2 B2 H s=>?_;simp![ew]
   cases B with
   |nil =>
    simp![aD,bw];subst s;calc g _ _ λn C=>?_;let:=(y n).mpr ⟨(R n).mpr ⟨C.num,C.lead⟩,C.nq⟩;cases this
   |cons n V =>
    simp![aD,bw];calc y7 ι ⋯ rfl ?_;let I:∀x,x∈o.filter (λx=>if ι then μ (x∉b) else μ (x∈b))↔x∈o/\x∈b:=λx=>by rw[Xf,Vq (by decide),Yg]
    generalize o.filter (λx=>if ι then μ (x∉b) else μ (x∈b))=X at I;simp![ew]
    cases X with
    |cons x xr =>
     simp![aD,bw];subst s;calc g _ _ λn C=>?_;let⟨E,K⟩:=(I x).mp (.head _);let:=C.free x K;rw[((R x).mp E).2] at this;cases this
    |nil =>
     simp![aD,bw];subst H;let⟨Y,Z⟩:=(y n).mp (.head _);let⟨n3,n4⟩:=(R n).mp Y
     let O:∀x∈b,cV l (ae f x)=ι:=λx L=>by
      cases q:cV l (ae f x) with
      |false=>rfl
      |true=>exact nomatch (I x).mpr ⟨(R x).mpr ⟨pn x L,q⟩,L⟩
     let low:∀e∈eA f l,e∉c->kle (bJ f n) (bJ f e):=λe J z=>by
      let J:=(y e).mpr ⟨T.mem_iff.mpr J,z⟩;rcases KN.mp J with rfl|J
      .exact kle_refl _
      .rw[Xm] at U
       exact(Ya.mp U).1 _ (X0 J)
     let C:dg m f b c l n:=⟨A,O,n3,n4,Z,low⟩;simp!;let ct:cutD ((n::V).map D.int) η (ζ 1)=[D.int n]:=by rw[show(1:Int)=((1:Nat):Int) from rfl,EU (by simp)];rfl
     erw[Xm] at ct;rw[ct,show b.map D.int++[D.int n]=(b++[n]).map D.int by rw[Xj];rfl];simp![gR,kO];calc⟨⋯,⋯,?_⟩;let:=k (ζ n) (tE (.inl ⟨v,C⟩) λx z=>z.elim (λz=>z.2.one W C) λz=>absurd z.1 t);rw[show nk b c w (ζ n)=_ from W_ v] at this;exact bg this
 .rw[Vq (λz=>v (ZO.mp z))]
  subst u;clear M
  by_cases t:w="ring"
  rotate_left
  .exact g _ _ t λn z=>z.elim (λz=>v z.1) λz=>t z.1
  clear g;show N _;subst i;let kz:(∀n,¬ bG f b c l n)->K' (.p .non) []:=λh=>k η (j7 λn z=>z.elim (λz=>v z.1) λz=>h n z.2);refine aI λN i=>?_
  let g:∀F G,(∀n,¬ bG f b c l n)->N ⟨[ζ (.p (.tup [.int m,.tup (f.map bc)])),ζ (.p (.tup [.lst (b.map D.int),.lst (c.map D.int)])),ζ (.p (.tup [.str w,.lst (l.map D.int)])),ζ (.p (.lst (b.map D.int))),ζ (.p (.lst (c.map D.int))),ζ (.p (.str w)),ζ (.p (.lst (l.map D.int))),F,G],[]⟩:=λF G h=>by
   subst i;exact bg (kz h)
  clear i;calc d4 λA1 B1 M u=>?_;simp![aD];rw[W_ (ZO.mpr t)];simp![az,cR];refine⟨l,↑f,rfl,rfl,?_⟩
  cases A:eW ↑f 0 l with
  |false =>
   simp!;subst u;exact g _ _ λn C=>by rw[C.rise] at A;cases A
  |true =>
   let⟨E,hu⟩:=qy A;let nd:l.Nodup:=E.imp λh=>by symm
   let ll:=jn hu nd;simp!;refine⟨m,f,l,W,hu,nd,rfl,rfl,λP=>?_,λz=>?_⟩
   rotate_left
   .simp!
    subst u;exact g _ _ λn C=>z C.ring
   simp!;subst M;clear u;calc aI λN2 j=>?_;simp!;let zp:=ew b
   refine L2.f_ (λd=>match d with
    |.int x=>μ (x∉b)
    |_=>ι) (λd=>match d with
    |.int e=>lR (bJ f e,e)
    |_=>.non) (by rw[kF];symm) trivial ?_ ?_
   .ext d hd acc L' ha E K
    let⟨x,L,rfl⟩:=Bk.mp hd;dsimp only at E K;simp!;calc⟨⋯,?_⟩;rw[fQ]
    by_cases q:x∈b
    .rw[Bj q]
     simp!;exact K (Bh λz=>z q)
    .rw[Bh q]
     simp!;calc⟨m,f,x,W,hu x L,rfl,rfl,?_⟩;simp!;exact⟨ha,E (Bj q)⟩
   let e:((l.map D.int).filter λd=>match d with
    |.int x=>μ (x∉b)
    |_=>ι).map (λd=>match d with
    |.int e=>lR (bJ f e,e)
    |_=>.non)=((l.filter λx=>μ (x∉b)).map λe=>(bJ f e,e)).map lR:=by
    rw[XP,Xd,Xd];rfl
   rw[e];let y:∀x,x∈l.filter (λx=>μ (x∉b))↔x∈l/\x∉b:=λx=>by rw[Xf,Yg]
   generalize l.filter (λx=>μ (x∉b))=B at y;simp!;subst j;refine d4 λA2 B2 H s=>?_
   let dz:∀B:-Int,bD ((B.map λe=>(bJ f e,e)).map lR)<=5:=λB=>by
    induction B with
    |nil=>simp[bD]
    |cons a r ih =>
     erw[Xm,bD,lR,tupI,dep,ew];symm
   simp!;refine⟨by let:=dz B;symm,?_⟩
   cases B with
   |nil =>
    simp![aD,bw];subst s;calc g _ _ λn C=>?_;let:=(y n).mpr ⟨C.mem,C.np⟩;cases this
   |cons n0 V =>
    simp![aD,bw];calc y7 ι ⋯ rfl ?_;let I:∀x,x∈l.filter (λx=>if ι then μ (x∉c) else μ (x∈c))↔x∈l/\x∈c:=λx=>by rw[Xf,Vq (by decide),Yg]
    generalize l.filter (λx=>if ι then μ (x∉c) else μ (x∈c))=X at I;simp![ew]
    cases X with
    |cons x xr =>
     simp![aD,bw];subst s;calc g _ _ λn C=>?_;let⟨E,K⟩:=(I x).mp (.head _);exact C.free x E K
    |nil =>
     subst H;simp![y6];refine(zI2 ((n0::V).map λe=>(bJ f e,e)) 3 ⟨rfl,by simp,λp hp=>?_,λp hp Q=>?_⟩)
     .let⟨e,_,rfl⟩:=Bk.mp hp
      rfl
     let⟨n,hn,rfl⟩:11:=Bk.mp hp;let⟨Y,Z⟩:=(y n).mp hn;let C:bG f b c l n:=⟨A,P,(λx L z=>nomatch (I x).mpr ⟨L,z⟩),Y,Z,λe J z=>So (Q _ (X0 ((y e).mpr ⟨J,z⟩)))⟩;calc⟨⋯,?_⟩;rw[show c.map D.int++[D.int n]=(c++[n]).map D.int by rw[Xj];rfl];simp![gR,kO];calc⟨⋯,?_⟩;let:=k (ζ n) (tE (.inr ⟨t,C⟩) λx z=>z.elim (λz=>absurd z.1 v) λz=>z.2.one W C);rw[show nk b c w (ζ n)=_ from Vq v] at this;calc bg this
inductive y9 (ys:-DV) (aN:-OV) (K:RV->-OV->Prop):Prop
 |mk (l:-Int) (q:↑l<=100) (q:ys=[.p (aK l)]) (q:aN=[]) (q:K (.p (.bl θ)) [])
def Fh:WS:=(aA (jF (d1 (aa 0) (eM "list")) (d2 (bX (aY (aa 0)) [η] (aS 0) (cu (dT (aj 1 sy (ag (aa 0) af)))) (dC (.int 1))) (br af) oEq)))
theorem Ss:Sem 1 0 y9 Fh:=by
 ext f a g-⟨l,h,rfl,rfl,k⟩;refine L2.f_ (λ_=>ι) (λ_=>.int 1) (by rw[kF];symm) trivial ?_ ?_
 .ext d b c L i j e
  let⟨x,m,rfl⟩:11:=Bk.mp b;simp!;exact⟨.int x,Y,Y,e Y⟩
 rw[q0z.mpr (by simp)];simp![aD,bw];calc bg k
inductive y_ (ys:-DV) (aN:-OV) (K:RV->-OV->Prop):Prop
 |mk (m:Int) (ws:-Wy) (ps qs:-Int) (d:D) (q:ak m ws) (q:bz ws ps qs) (q:ys=[.p (az m ws),.p (.tup [aK ps,aK qs]),.p d]) (q:aN=[]) (q:((↑ps+↑qs=↑ws/\d=.non)\/(↑ps+↑qs≠↑ws/\∃(s:Bool×-Int)(n:Int),d=fH s/\bO m ws ps qs s.1 s.2 n/\↑s.2<=100))) (q:K (.p (.bl θ)) [])
def Fi:WS:=(ai (aO (dT (d2 (d2 (dN (ag (d2 (aa 1) (dC (.int 0)) aE) af) bH) (dN (ag (d2 (aa 1) (dC (.int 1)) aE) af) bH) cv) (dN (ag (d2 (aa 0) (dC (.int 1)) aE) af) bH) oEq)) (aA (d2 (aa 2) (dC .non) iX)) bQ) (ai (aO (je (cu (dT (d1 (aa 2) (eM "tuple")))) (je (dT (d2 (dN (ag (aa 2) af) bH) (dC (.int 2)) hD)) (je (cu (dT (d1 (d2 (aa 2) (dC (.int 0)) aE) (eM "str")))) (cu (dT (aj 1 y9 (ag (d2 (aa 2) (dC (.int 1)) aE) af))))))) (aA (dC (.bl ι))) bQ) (aA (d2 (aj 3 tR (ag (aa 0) (ag (aa 1) (ag (aa 2) af)))) (dC .non) n8))))
theorem Su:Sem 3 0 y_ Fi:=by
 ext u o v-⟨m,p,a,b,d,W,S,rfl,rfl,h,k⟩;let q:=W.h_;let⟨f,g,_⟩:02:=XT.mp S.nd;let w:=jn S.pn f;let x:=jn S.qn g;rw[show aK a=.lst (a.map D.int) from Y,show aK b=.lst (b.map D.int) from Y];calc aI λN i=>?_;simp![az,cQ,cR];rw[hU];rcases h with⟨e,rfl⟩|⟨y,⟨c,l⟩,n,rfl,C,s⟩
 .rw[Bj ⋯]
  exact bg k
 .rw[Bh ⋯]
  simp!;subst i;calc aI λN i=>?_;simp![fH,fg,cP,cQ,cR,aD,q1X];calc⟨l,s,Y,Y,?_⟩;subst i;simp! at ⊢;calc⟨m,p,a,b,(if c=θ then "cut" else "ring"),l,W,S.pn,⋯,⋯,Y,Y,λr t=>?_⟩;rw[(t n).mpr C.word]
  let:∃j,nk a b (if c=θ then "cut" else "ring") (ζ n)=.tup j:=by
   unfold nk;dsimp only;split<;>exact⟨_,Y⟩
  let⟨j,e⟩:1:=this;rw[e];calc bg k
theorem bz.perm{ws ps d P Q}(S:bz ws ps d)(b:P.Perm ps)(c:Q.Perm d):bz ws P Q :=
 ⟨λx a=>S.pn x (b.mem_iff.mp a),λx a=>S.qn x (c.mem_iff.mp a),(b.append c).nodup_iff.mpr S.nd,λx a=>S.tree x (b.mem_iff.mp a),λx a=>S.out x (c.mem_iff.mp a)⟩
theorem bZ.pre{m ws b c su}:∀{st ps a},bZ m ws ps a (st++su) b c->∃p q,bZ m ws ps a st p q
 |[],d,a,_=>(zI2 _ _ .nil)
 |(true,l)::e,d,a,h=>by
  cases h with
  |cut C h=>let⟨p,q,h⟩:2:=h.pre;exact(zI2 p q (.cut C h))
 |(false,l)::e,d,a,h=>by
  cases h with
  |ring C h=>let⟨p,q,h⟩:2:=h.pre;calc(zI2 p q (.ring C h))
theorem bO.left{m ws ps a l n c}(C:bO m ws ps a c l n):(0<=n/\n<(↑ws:Int))/\n∉ps/\n∉a:=by
 cases c with
 |true =>
  let C:=C;exact⟨C.num,(λz=>by let:=C.free n z;rw[C.lead] at this;cases this),C.nq⟩
 |false =>
  let C:=C;calc⟨C.nums.1 n C.mem,C.np,C.free n C.mem⟩
theorem bO.len{m}{ws:-Wy}{ps a l n c}(W:ak m ws)(C:bO m ws ps a c l n):↑l<=30:=by
 let b:=W.h_;let d:=W.fA
 cases c with
 |true =>
  let C:=C;let⟨e,f⟩:=qy C.rise;let:=YF  (l₂:=aZ m.toNat) (e.imp λh=>by symm) λx g=>aF.mpr (by let:=f x g;symm);rw[gj] at this;symm
 |false =>
  let C:=C;let:=jn C.nums.1 C.nums.2;symm
theorem za{m ws ps a l}(h:∀n,¬ dg m ws ps a l n):m9 m ws ps a (.tup [.str "cut",aK l]):=(zI2 "cut" l ⟨Y,λn z=>z.elim (λz=>h n z.2) λz=>absurd z.1 (by decide)⟩)
theorem Fj:∀st:-(Bool×-Int),bD (st.map fH)<=3
 |[]=>by simp[bD]
 |s::r=>by
  let:=Fj r;rw[Xm];erw[bD,fH,dep,aK,ew];symm
meta abbrev KL:KS:=⟨λ_=>False,λx _=>x=.p (.bl θ),λ_=>False,λ_=>False⟩
def zb:WS:=(ai (cD (g_ (ag (dC (.int 3)) af)) (aS 2) (ai (ar 3 (aj 3 wU (ag (aj 1 wL (ag (aa 1) af)) (ag (d2 (br (ag (dC (.int 6)) (ag (dC (.int 12)) (ag (dC (.int 5)) af)))) (aa 2) aE) (ag (dC (.int 20)) af))))) (ai (ar 4 (dN (ag (dN (ag (d2 (aa 3) (dC (.int 1)) aE) af) bH) (ag (d2 (br (ag (dC (.int 99)) (ag (aj 2 e_ (ag (aa 1) (ag (dC (.int 9)) af))) (ag (d2 (dN (ag (d2 (aa 3) (dC (.int 1)) aE) af) bH) (dC (.int 1)) (oI λi j=>.int (i-j))) af)))) (aj 2 e_ (ag (aa 1) (ag (dC (.int 3)) af))) aE) af)) pU)) (ai (ar 5 (kJ af)) (ai (ar 6 (bN (ag (br af) (ag (br af) af)))) (ai (cD (g_ (ag (aa 4) af)) (aS 7) (ai (ar 8 (aj 3 yV (ag (aa 1) (ag (aa 3) (ag (aa 6) af))))) (ai (jf (fE (aa 5) (ag (aa 8) af))) (ar 6 (aj 3 tR (ag (aa 3) (ag (aa 6) (ag (aa 8) af)))))))) (ai (ar 9 (bX (aY (aa 5)) [η,η] (fN 2 (cH (aS 0) (cH (aS 1) fB))) bY (bN (ag (aa 0) (ag (dN (ag (aa 1) af) wq) af))))) (ai (cD (g_ (ag (dC (.int 2)) af)) (aS 10) (ai (ar 11 (cy 2 tN (ag (aa 3) (ag (aa 9) af)))) (ai (aO (mY (je (cu (dT (aj 3 y_ (ag (aa 3) (ag (aa 6) (ag (aa 11) af)))))) (dT (d2 (aa 9) (aa 5) hD)))) (aA (dC (.bl ι))) bQ) (aO (mY (dT (d2 (aa 11) (dC .non) n8))) (jf (fE (bq (aa 11)) (ag (dC (.int 9)) af))) bQ)))) (ai (ar 12 (aj 2 e_ (ag (aa 1) (ag (d2 (dN (ag (aa 5) af) bH) (dC (.int 1)) cv) af)))) (ai (ar 13 (d2 (br (ag (bN (ag (dC (.str "cut")) (ag (br af) af))) (ag (bN (ag (dC (.str "ring")) (ag (br af) af))) (ag (bN (ag (dC (.str "cut")) (ag (n5 (ag (d2 (aa 3) (dC (.int 0)) aE) af)) af))) (ag (bN (ag (dC (.str "odd")) (ag (br (ag (dC (.int 0)) af)) af))) (ag (bN (ag (dC (.str "cut")) (ag (br (ag (d1 (dC (.int 1)) kP) af)) af))) af)))))) (aj 2 e_ (ag (aa 1) (ag (dC (.int 5)) af))) aE)) (aO (dT (d2 (cy 2 tN (ag (aa 3) (ag (d2 (d2 (dQ (aa 5) dP (iy (aa 12))) (br (ag (aa 13) af)) cv) (dQ (aa 5) (iy (aa 12)) dP) cv) af))) (br (ag (dC (.str "step")) (ag (aa 12) af))) hD)) (aA (dC (.bl ι))) bQ))))))))))) (aA (dC (.bl θ))))
theorem Sv(ns:-Int)(hn:ns.length<=63):zb KL ⟨η::ζ (.o 0)::Xb 12 η,[ζ (fF ns 0 0)]⟩:=by
 unfold zb;calc aI λN hN=>?_;simp!;calc⟨by decide,?_⟩;refine hJ (λi v=>∃o,aW (3000*i) o/\v=⟨η::ζ (.o 0)::Xb 12 η,[ζ o]⟩) ⟨fF ns 0 0,⟨ns,0,0,rfl,hn,⋯,⋯⟩,rfl⟩ ?_ ?_
 .ext j d v L hj w hL;let⟨o,P,rfl⟩:11:=w
  let⟨G,rfl⟩:=iT hj;let G:j<3:=G;calc⟨trivial,?_⟩;erw[aS,ZC,q2L,XW,XX]
  let⟨K,ea,h1,OF⟩:∃K:Int,eD [D.int 6,D.int 12,D.int 5] (0+(j:Int))=ζ (.int K)/\1<=K/\K<=12:=by
   match j,G with
   |0,_=>exact⟨6,rfl,by decide,by decide⟩
   |1,_=>exact⟨12,rfl,by decide,by decide⟩
   |2,_=>exact⟨5,rfl,by decide,by decide⟩
  generalize(0+(j:Int))=jt at ea;calc aI λE b=>?_;simp!;calc⟨3000*j,o,rfl,rfl,P,λo1 P1=>?_⟩;simp![ea];calc⟨3000*j,K,20,o1,rfl,rfl,P1,⋯,⋯,⋯,⋯,⋯,λm g o2 W _ H P2=>?_⟩;let H:↑g<=20:=by symm
  let m1:=W.m1;let fA:=W.fA;simp!;subst b;calc aI λE b=>?_;simp![az,cR];calc⟨_,9,o2,rfl,rfl,P2,⋯,⋯,⋯,λt9 o3 t0 t1 P3=>?_⟩;simp!;refine⟨_,3,o3,rfl,rfl,P3,⋯,⋯,⋯,λt3 o4 u0 u1 P4=>?_⟩
  let⟨M,e3,Wd⟩:∃M:Int,eD [D.int 99,D.int t9,D.int ((↑g:Int)-1)] t3=ζ (.int M) /\ -1<=M:=by
   let⟨Y,rfl⟩:∃Y:Nat,t3=Y:=⟨t3.toNat,⋯⟩
   match Y,(show Y<3 by symm) with
   |0,_=>exact⟨99,rfl,by decide⟩
   |1,_=>exact⟨t9,rfl,⋯⟩
   |2,_=>exact⟨_,rfl,⋯⟩
  simp![e3];let Sw:min (↑g:Int) M<=↑g /\ -1<=min (↑g:Int) M:=by symm
  generalize min (↑g:Int) M=mo at Sw;subst b;calc aI λE b=>?_;simp!;subst b;calc aI λE b=>?_;simp!;subst b;calc aI λE b=>?_;calc iz λg' b' K2 hg I hK=>?_;simp!;calc⟨⋯,?_⟩;subst hg I hK;refine hJ (λi v=>∃(st:-(Bool×-Int))(x y k t:-Int)(J:OV),↑st=i/\bZ m g [] [] st x y/\k.Perm x/\t.Perm y/\aW (3000*j+400+70*i) J/\v=⟨[η,ζ (.o 0),ζ (.p (.int jt)),ζ (.p (.tup [.int m,.tup (g.map bc)])),ζ (.p (.int mo)),ζ (.o 1),ζ (.p (.tup [.lst (k.map D.int),.lst (t.map D.int)])),η,η,η,η,η,η,η],[ζ J,ζ (.lst (st.map fH))]⟩) (zI6 [] [] [] [] [] o4 ⟨rfl,.nil,.nil,.nil,P4.mono ⋯,rfl⟩) ?_ ?_
  .ext i d v L5 hi w u;let⟨st,x,y,k,t,J,sl,R,A,B,T,rfl⟩:65:=w
   let⟨We,rfl⟩:=iT hi;calc⟨trivial,?_⟩;erw[aS,XW,XX];let S:=(R.ok W (bz.start g)).perm A B;let rl:↑x+↑y=↑st:=by let:=R.len;rw[XO] at this;symm
   let l1:=A.length_eq;let l2:=B.length_eq;calc aI λO f=>?_;simp!;refine⟨_,m,g,k,t,J,W,S,rfl,rfl,T,⋯,λZ P5=>⟨λz=>?_,λs n C=>?_⟩⟩
   .let:=EY z
    symm
   .let⟨c,l⟩:=s
    simp!;subst f;calc aI λO f=>?_;simp!;calc⟨⋯,?_⟩;subst f;rw[show st.map fH++[fH (c,l)]=(st++[(c,l)]).map fH by rw[Xj];rfl];simp!;calc⟨m,g,k,t,(if c=θ then "cut" else "ring"),l,W,S.pn,⋯,⋯,rfl,rfl,λr hr=>?_⟩;rw[(hr n).mpr C.word];let C':=C.congr (λ_=>A.mem_iff) λ_=>B.mem_iff;let U:↑(st++[(c,l)])=i+1:=by rw[KG,sl];rfl
    cases c with
    |true =>
     rw[show nk k t (if θ=θ then "cut" else "ring") (ζ n)=.tup [.lst ((sortI (k++[n])).map D.int),.lst (t.map D.int)] from rfl];simp!;exact u _ (zI6 (st++[(θ,l)]) (x++[n]) y (sortI (k++[n])) t Z ⟨U,R.app (.cut C' .nil),(sortI_perm _).trans (A.append_right _),B,P5.mono ⋯,rfl⟩)
    |false =>
     rw[show nk k t (if ι=θ then "cut" else "ring") (ζ n)=.tup [.lst (k.map D.int),.lst ((sortI (t++[n])).map D.int)] from rfl];simp!;exact u _ (zI6 (st++[(ι,l)]) x (y++[n]) k (sortI (t++[n])) Z ⟨U,R.app (.ring C' .nil),A,(sortI_perm _).trans (B.append_right _),P5.mono ⋯,rfl⟩)
  .ext v ⟨st,x,y,k,t,J,sl,R,A,B,T,rfl⟩
   rw[iU] at sl T;let S0:=R.ok W (bz.start g);let S:=S0.perm A B;let rl:↑x+↑y=↑st:=by let:=R.len;rw[XO] at this;symm
   let l1:=A.length_eq;let l2:=B.length_eq;let ds:=Fj st;let sm:↑st<=20:=by symm
   calc⟨trivial,?_⟩;subst b;dsimp only;calc aI λE b=>?_;simp!;refine L2.gT id (by rw[kF];symm) rfl ?_ ?_
   .ext d hd acc L' ha h
    let⟨⟨c,l⟩,K,rfl⟩:=Bk.mp hd;simp![fH,aK];exact⟨ha,h⟩
   rw[YI];simp!;subst b;calc aI λE b=>?_;calc iz λg' b' K2 hg I hK=>?_;simp!;calc⟨by decide,?_⟩;subst hg I hK;refine hJ (λi v=>v=⟨[η,ζ (.o 0),ζ (.p (.int jt)),ζ (.p (.tup [.int m,.tup (g.map bc)])),ζ (.p (.int mo)),ζ (.o 1),ζ (.p (.tup [.lst (k.map D.int),.lst (t.map D.int)])),η,η,ζ (.p (.lst (st.map fH))),η,η,η,η],[ζ J,ζ (.lst (st.map fH))]⟩) rfl ?_ ?_
   .ext i d v L5 hi rfl u
    let u:=u _ rfl;calc⟨trivial,?_⟩;erw[aS,XW,XX];generalize d=dd;let⟨Wf,k',z',rfl,_,_,_⟩:33:=T.out;calc aI λO f=>?_;simp![cL,bq,cy,bp];refine⟨m,g,st,x,y,[],W,H,⟨by rw[XO];symm,R,λd r e=>nomatch e⟩,by rw[Yx];rfl,rfl,λ_=>⟨λz=>?_,λs n C=>?_⟩⟩
    .let:=EY z
     simp![cL,bq,cy,bp];subst f;calc aI λO f=>?_;calc d4 λA1 B1 V F=>?_;simp![cL,bq,cy,bp,mY,aH.du,mX,fF];calc⟨m,g,k,t,.non,W,S,rfl,rfl,.inl ⟨⋯,rfl⟩,?_⟩;simp![cL,bq,cy,bp];calc⟨⋯,?_⟩;rw[iV];simp![cL,bq,cy,bp];subst F;show O _;subst f;calc d4 λA1 B1 V F=>?_;simp![cL,bq,cy,bp,mY,aH.du,mX,fF];subst F;exact u
    .let⟨c,l⟩:=s
     let cl:↑l<=30:=C.len W;let⟨hk,kp,kq⟩:=bO.left C;let ne:k.length+↑t≠↑g:=λz=>(S0.all ⋯ n hk).elim kp kq;simp![cL,bq,cy,bp];subst f;calc aI λO f=>?_;calc d4 λA1 B1 V F=>?_;simp![cL,bq,cy,bp,mY,aH.du,mX,fF];calc⟨m,g,k,t,fH (c,l),W,S,rfl,rfl,.inr ⟨ne,(c,l),n,rfl,C.congr (λ_=>A.mem_iff.symm) (λ_=>B.mem_iff.symm),(show ↑l<=100 by symm)⟩,?_⟩;simp![cL,bq,cy,bp];calc⟨⋯,?_⟩;rw[iV];simp![cL,bq,cy,bp];subst F;show O _;subst f;calc d4 λA1 B1 V F=>?_;simp![cL,bq,cy,bp,mY,aH.du,mX,fF];subst V
     simp![cL,bq,cy,bp];calc⟨⋯,?_⟩;exact u
   .ext v rfl
    calc⟨trivial,?_⟩;subst b;dsimp only;calc aI λE b=>?_;simp![cL,bq,cy,bp];calc⟨_,(↑st:Int)+1,J,rfl,rfl,T,⋯,⋯,⋯,λX Z a0 a1 P5=>?_⟩;let⟨a,rfl⟩:∃a:Nat,X=a:=⟨X.toNat,⋯⟩;simp![cL,bq,cy,bp];subst b;calc aI λE b=>?_;simp![cL,bq,cy,bp,n5,cQ];calc⟨⋯,?_⟩;calc⟨_,5,Z,rfl,rfl,P5,⋯,⋯,⋯,λQ o6 b0 b1 P6=>?_⟩;let⟨Q,rfl⟩:∃a:Nat,Q=a:=⟨Q.toNat,⋯⟩
    let⟨d5,e5,bad⟩:∃d5,eD [D.tup [.str "cut",.lst []],.tup [.str "ring",.lst []],.tup [.str "cut",.lst (cb 0 m.toNat)],.tup [.str "odd",.lst [.int 0]],.tup [.str "cut",.lst [.int (-1)]]] (Q:Int)=ζ d5/\∀p q,m9 m g p q d5:=by
     match Q,(show Q<5 by symm) with
     |0,_=>exact⟨_,rfl,λp q=>za (l:=[]) λn C=>by let:=C.lead;rw[tF (by simp)] at this;cases this⟩
     |1,_=>exact⟨_,rfl,λp q=>⟨"ring",[],rfl,λn z=>z.elim (λz=>absurd z.1 (by decide)) λz=>nomatch z.2.mem⟩⟩
     |2,_ =>
      calc⟨_,rfl,λp q=>?_⟩;rw[j4];calc za (l:=aZ m.toNat) λn C=>?_;let:=C.lead;let en:=W.ends _ (gi C.num.1 C.num.2);rw[tF ⟨λ_=>aF.mpr ⋯,λ_=>aF.mpr ⋯⟩] at this;cases this
     |3,_=>exact⟨_,rfl,λp q=>⟨"odd",[0],rfl,λn z=>z.elim (λz=>absurd z.1 (by decide)) λz=>absurd z.1 (by decide)⟩⟩
     |4,_=>exact⟨_,rfl,λp q=>za (l:=[-1]) λn C=>by let:=C.rise;simp[eW] at this⟩
    simp![cL,bq,cy,bp,e5];subst b;let ha:a<=↑(st.map fH):=by rw[kF];symm
    let⟨p,q,R1⟩:=bZ.pre (st:=st.take a) (su:=st.drop a) (by rw[List.take_append_drop];calc R);calc d4 λA1 B1 V F=>?_;simp![cL,bq,cy,bp];rw[EU ha,RR ha];let la:↑(st.take a)=a:=by rw[XN];symm
    calc⟨by rw[XN,kF];symm,by rw[XN,YM,kF];symm,?_⟩;calc⟨m,g,st.take a,p,q,d5::(st.drop a).map fH,W,H,⟨by rw[rC,kF,YM,la];symm,R1,λd r e=>⟨by cases e;calc bad p q,?_⟩⟩,by rw[<-q40,<-q41,YV];rfl,rfl,(λz=>nomatch z)⟩;rw[la];calc⟨(show 1<=60 by decide),?_⟩;rw[show oq ι 2 a=.lst [.str "step",.int a] from rfl,iV];subst F;exact hL _ ⟨o6,P6.mono ⋯,rfl⟩
 .ext v ⟨o,P,rfl⟩
  calc⟨trivial,?_⟩;subst hN;simp!
end LJ
namespace L2
open PySem PySem.Spec PyProof.Rows
meta def Sx:υ->-π
 |.Name x _=>[x]
 |.Tuple a _ _=>a.filterMap fun
  |.Name x _=>ζ x
  |_=>η
 |_=>[]
meta def bR(N:-π)(cp:-(Option Nat))(a:υ):-π:=Sx a++cp.filterMap λc=>c.bind λi=>N[i]?
variable[zt:aB]
section
variable{X:Cx}{tg iter elt:υ}{ifs:-υ}{scope:Δ}{pos:Ε}{w:WI}{g:WG}{t:WT}{f:WE}{cp:-(Option Nat)}
theorem Sy(a:JI X tg iter (g8 w))(b:∀d,(bR X.N cp tg).Nodup->JG (bT X scope (bR X.N cp tg) d) tg (gP g))(c:∀d,JF (bT X scope (bR X.N cp tg) d) ifs (cq t))(he:∀d,JE (bT X scope (bR X.N cp tg) d) elt (tD f))(e:‹X.calm=θ›)(hn:autoParam (μ (bR X.N cp tg).Nodup=θ) qz0._auto_1)
  (h:‹scope.kind=.function›) (i:autoParam (iL X.N X.env.scope scope (bR X.N cp tg) cp=θ) qz0._auto_1) (j:‹∀x,foldedSetIterable iter X.env x=pure x›) :
  JE X (.ListComp elt [⟨tg,iter,ifs,0⟩] scope pos) (tD (bX w cp g t f)):=MR cp _ e a (λd=>b d (Xq hn)) c he h i j
theorem Sz(a:JI X tg iter (g8 w))(b:∀d,(bR X.N cp tg).Nodup->JG (bT X scope (bR X.N cp tg) d) tg (gP g))(c:∀d,JF (bT X scope (bR X.N cp tg) d) ifs (cq t))(he:∀d,JE (bT X scope (bR X.N cp tg) d) elt (tD f))(e:‹X.calm=θ›)(hn:autoParam (μ (bR X.N cp tg).Nodup=θ) qz0._auto_1)
  (h:‹scope.kind=.function›) (i:autoParam (iL X.N X.env.scope scope (bR X.N cp tg) cp=θ) qz0._auto_1) (j:‹∀x,foldedSetIterable iter X.env x=pure x›) :
  JE X (.ListComp elt [⟨tg,iter,ifs,0⟩] scope pos) (tD (jh w cp g t f)):=MS cp _ e a (λd=>b d (Xq hn)) c he h i j
theorem SA[bV]{i x a b}(j:X.N.Nodup)(c:JI X tg iter (g8 w))(k:∀d,(bR X.N cp tg).Nodup->JG (bT X scope (bR X.N cp tg) d) tg (gP g))(l:∀d,JF (bT X scope (bR X.N cp tg) d) ifs (cq t))(he:∀d,JE (bT X scope (bR X.N cp tg) d) elt (tD f))(m:‹X.N[i]?=ζ x›)(n:autoParam (Loc X.env.scope x) qz8._auto_1)(o:‹X.calm=θ›)(hn:autoParam (μ (bR X.N cp tg).Nodup=θ) qz0._auto_1)
  (p:‹scope.kind=.function›) (q:autoParam (iL X.N X.env.scope scope (bR X.N cp tg) cp=θ) qz0._auto_1) (r:‹∀x,foldedSetIterable iter X.env x=pure x›)
  (e:‹swapsWith (.ListComp elt [⟨tg,iter,ifs,0⟩] scope pos) (ζ (.Name x a)) b.line X.env=pure θ›)
  (h:autoParam (cW X x) qz1._auto_1) :
  JS X (.Assign [.Name x a] (.ListComp elt [⟨tg,iter,ifs,0⟩] scope pos) b) (cB (ar i (bX w cp g t f))):=MT cp _ j m n o c (λd=>k d (Xq hn)) l he p q r e h
theorem SD[bV]{i x a b}(j:X.N.Nodup)(c:JI X tg iter (g8 w))(k:∀d,(bR X.N cp tg).Nodup->JG (bT X scope (bR X.N cp tg) d) tg (gP g))(l:∀d,JF (bT X scope (bR X.N cp tg) d) ifs (cq t))(he:∀d,JE (bT X scope (bR X.N cp tg) d) elt (tD f))(m:‹X.N[i]?=ζ x›)(n:autoParam (Loc X.env.scope x) qz8._auto_1)(o:‹X.calm=θ›)(hn:autoParam (μ (bR X.N cp tg).Nodup=θ) qz0._auto_1)
  (p:‹scope.kind=.function›) (q:autoParam (iL X.N X.env.scope scope (bR X.N cp tg) cp=θ) qz0._auto_1) (r:‹∀x,foldedSetIterable iter X.env x=pure x›)
  (e:‹swapsWith (.ListComp elt [⟨tg,iter,ifs,0⟩] scope pos) (ζ (.Name x a)) b.line X.env=pure θ›)
  (h:autoParam (cW X x) qz1._auto_1) :
  JS X (.Assign [.Name x a] (.ListComp elt [⟨tg,iter,ifs,0⟩] scope pos) b) (cB (ar i (jh w cp g t f))):=MU cp _ j m n o c (λd=>k d (Xq hn)) l he p q r e h
end
end L2
namespace LJ
open PySem L2 PySem.Spec PySem.W PyProof.Rows
variable[zt:aB]{X:Cx}{Z:Ev}{x:π}{ps:-π}{G:GD}{e:υ}{es:-υ}{fa:WA}{p pos:Ε}{j k n:Nat}
end LJ
namespace LJ
open PySem L2
meta def top(i:Nat):χ:=PySem.Challenge.pw_lotjoin_k31_step_told.main.body.getD i (.Pass ⟨0,0,0,0⟩)
section
variable[zt:aB]{Z:Ev}
set_option hygiene false
open Lean in
local macro_rules | `(tactic| ac_rfl) => do
  let b:String->MacroM Term:=fun s=>match s with
    |"?"=>`(?_)
    |"_"=>`(_)
    |"%a"=>`(by assumption)
    |"%b"=>`(by rfl)
    |"%c"=>`(λ_ _=>rfl)
    |"%d"=>`(λd nd=>?_)
    |"%e"=>`(λd=>?_)
    |"%f"=>`(by trivial)
    |s=>if s.front=='.' then `(.$(mkIdent (s.drop 1).toName)) else if s.front=='=' then do
      let f←`(f (op:=.$(mkIdent (s.drop 1).toName)))
      pure ⟨f.raw[1][0]⟩
     else pure (mkIdent s.toName)
  let g:=fun (c:String)(b:String->MacroM Term)(s:String)=>do
    let l←(s.splitOn c).mapM b
    pure (if l.length==1 then l.head! else Syntax.mkApp l.head! l.tail.toArray)
  let b:=g " " (g "/" (g "," b))
  let a←("JE _ .Name/_/_ _;dv _|RQ ?|QZ %a#JE _ .Constant/_/_/_ _;vT|Mn|vU|Mo#JA _ _ _;nP|jD ? ?|vV ? ?|vW ? ?|mz ? ?|vY ? ?|vX ? ?|Mq ? ?#JE _ .Call/_/_/_/_ _;mW %a hr ?|QY %a hr ?|Rc %a hr ?|lE NA %b B.len q2u ?|lE NF/rfl %b B.all Mh ?|lE QR/rfl %b B.any N3 ?|lE NG/rfl %b B.min C8 ?|lE NH/rfl %b B.max wC ?|lE Sn/hu/rfl %b B.max wC ?|lE Pr/hu %b B.sorted si ?|lE ND %b B.sorted si ?|N6 N7 %b B.sorted si ?|B_ NB %b B.list rN ?|B_ NC %b B.tuple BS ?|pV NJ %b B.isinstance %b B.int Mf ?|pV NK %b B.isinstance %b B.bool Me ?|pV NL %b B.isinstance %b B.str Mg ?|pV NM %b B.isinstance %b B.tuple BS ?|pV NN %b B.isinstance %b B.list rN ?|NI rfl %b B.list rN %b B.range C7 ?|N8 rfl %b B.list rN %b B.range C7 ?|Of rfl %b B.sorted si %b B.set vO ?|OK rfl hu %b B.len q2u %b B.set vO ?|QK rfl hu %b B.len q2u %b B.set vO ?|PF hu ? ? ?|JE.weak nE/YO/PySem.F.slot_list_append/PySem.F.type_list_append/Bc/?/? NO|JE.weak nE/YO/PySem.F.slot_list_extend/PySem.F.type_list_extend/KC/?/? NP|JE.weak nE/YO/PySem.F.slot_list_pop/PySem.F.type_list_pop/KD/?/? NQ|JE.weak nE/YO/q1S/q1T/BC/?/? NV#JE _ .Subscript/_/_/_ _;pB pS ? ? %c|Ra ?|Ou ? ? ?|PE hu ? ?#JE _ .BinOp/_/_/_/_ _;nO =Add Oq ? ?|nO =Sub Nm ? ?|nO =Mult Nn ? ?|nO =Mod Np ? ?|nO =FloorDiv Ov ? ?|nO =Pow Nq ? ?|N9 ? ?|R_ ? ?#JE _ .Compare/_/_/_/_ _;lD =Eq CI/hu ? ? %b|lD =NotEq CJ/hu ? ? %b|lD =Lt CK/hu ? ? %b|lD =Gt CM ? ? %b|lD =In CP/hu ? ? %b|lD =NotIn CQ/hu ? ? %b|lD =Is Dd ? ? %b|lD =IsNot De ? ? %b|Nz CL CL ? ? ?#JE _ _ _;Q_ ?|Ms ?|Mt ?|Mr ?|MC ? ?|MB ?|MD ?|Ny ?|ME ? ? ?|PH ? ?|Sy ? %d %e %e|Sz ? %d %e %e#JS _ _ _;RE %a R Rg hr nd rfl %f ?|RF %a R hr ?|v5 ?|MJ ? ? ?|SA nd ? %d %e %e|SD nd ? %d %e %e|v3 nd rfl %f ?|MI ?|PG hu ? ? ?|JS.weak uS/?/Av,?,?,set_list NR|MO ? ?|Cd q19 rfl ? ? ?|Cd PassesOwn.leaving rfl ? ? ?|PJ q19 ? ?|N_#b3 _ _ _;rT ?|vZ ? ?|MG#JT _ _ _;kK =Eq CI/hu ? ? %b|kK =NotEq CJ/hu ? ? %b|kK =Lt CK/hu ? ? %b|kK =Gt CM ? ? %b|kK =GtE Nr ? ? %b|kK =In CP/hu ? ? %b|kK =NotIn CQ/hu ? ? %b|kK =Is Dd ? ? %b|kK =IsNot De ? ? %b|PD hu ? ?|Rb ?|Mv ?|JW.jt Cc/?/?|JW.jt Cb/?/?|Mu ?#JW _ _ _;Cc ? ?|MA ?|Cb ? ?|Mz ?#;Nv|Nx ?|Nj %b B.range ?|Nk %b B.range ?|Nh %b B.enumerate ?|Ng ?|MK nd rfl %f|MN rfl ?|ML|MM ? ?|MP|MQ ?".splitOn "#").mapM fun s=>match s.splitOn ";" with
    |[h,r]=>do
      let a←(r.splitOn "|").mapM fun s=>do `(tacticSeq|refine $(←b s))
      let a:=a.toArray
      let r←`(tactic|first $[|$a]*)
      if h=="" then `(tacticSeq|$r:tactic) else `(tacticSeq|show $(←b h);$r:tactic)
    |_=>`(tacticSeq|skip)
  let a:=a.toArray
  `(tactic|repeat' first $[|$a]*)
meta abbrev Fl:χ:=top 19
abbrev Fm(Z:Ev):Prop:=Fx Z 1 "is_whole" ["thing"] 1 sx
theorem SE(D:Dx Z "is_whole" Fl)(B:BT Z.mg):Fm Z:=bW (N:=["thing"]) D j8 λhr nd hu=>⟨wX,(by ac_rfl),Dl⟩
meta abbrev Fp:χ:=top 20
abbrev qN(Z:Ev):Prop:=Fx Z 2 "is_within" ["thing", "least", "most"] 3 lJ
theorem SF(D:Dx Z "is_within" Fp)(B:BT Z.mg)(Wg:Fm Z):qN Z:=bW (N:=["thing", "least", "most"]) D iD λhr nd hu=>⟨wY,(by ac_rfl),Dm⟩
meta abbrev Fq:χ:=top 21
abbrev tT(Z:Ev):Prop:=Fx Z 1 "is_tuple_of" ["thing", "size"] 2 qc
theorem SG(D:Dx Z "is_tuple_of" Fq)(B:BT Z.mg):tT Z:=bW (N:=["thing", "size"]) D fK λhr nd hu=>⟨wZ,(by ac_rfl),OH⟩
meta abbrev Fs:χ:=top 22
abbrev Ft(Z:Ev):Prop:=Fx Z 3 "are_ends" ["many", "one", "other"] 3 w4
theorem SH(D:Dx Z "are_ends" Fs)(B:BT Z.mg)(zc:qN Z):Ft Z:=bW (N:=["many", "one", "other"]) D iD λhr nd hu=>⟨w5,(by ac_rfl),OL⟩
meta abbrev Fu:χ:=top 23
abbrev Fv(Z:Ev):Prop:=Fx Z 4 "is_way" ["many", "thing"] 2 w6
theorem SI(D:Dx Z "is_way" Fu)(B:BT Z.mg)(Wh:Ct Z "MOST_PRICE" 1000000000)(Fw:tT Z)(Wi:Ft Z)(zc:qN Z):Fv Z:=bW (N:=["many", "thing"]) D fK λhr nd hu=>⟨Dt,(by ac_rfl),OM⟩
meta abbrev FA:χ:=top 24
abbrev FC(Z:Ev):Prop:=Fx Z 5 "are_ways" ["many", "thing"] 2 w9
theorem SJ(D:Dx Z "are_ways" FA)(B:BT Z.mg)(Wj:Ct Z "MOST_WAYS" 30)(Wk:Fv Z):FC Z:=bW (N:=["many", "thing"]) D fK λhr nd hu=>⟨Du,(by ac_rfl),ON⟩
meta abbrev FD:χ:=top 25
abbrev FE(Z:Ev):Prop:=Fx Z 6 "is_web" ["thing"] 1 w_
theorem SK(D:Dx Z "is_web" FD)(B:BT Z.mg)(Wl:Ct Z "MOST_HOUSES" 12)(Fw:tT Z)(zc:qN Z)(Wm:FC Z):FE Z:=bW (N:=["thing"]) D j8 λhr nd hu=>⟨Dv,(by ac_rfl),OO⟩
meta abbrev FF:χ:=top 26
abbrev FG(Z:Ev):Prop:=Fx Z 7 "need_web" ["web"] 1 xw
theorem SM(D:Dx Z "need_web" FF)(B:BT Z.mg)(Wn:FE Z):FG Z:=bW (N:=["web"]) D j8 λhr nd hu=>⟨xx,(by ac_rfl),Px⟩
meta abbrev FH:χ:=top 27
abbrev zd(Z:Ev):Prop:=Fx Z 1 "rank_of" ["way"] 1 sO
theorem SN(D:Dx Z "rank_of" FH)(B:BT Z.mg):zd Z:=bW (N:=["way"]) D j8 λhr nd hu=>⟨xy,(by ac_rfl),Py⟩
meta abbrev FI:χ:=top 29
abbrev FJ(Z:Ev):Prop:=Fx Z 1 "joined" ["firsts", "one", "other"] 3 sC
theorem SO(D:Dx Z "joined" FI)(B:BT Z.mg):FJ Z:=bW (N:=["firsts", "one", "other", "gone", "kept"]) D iD λhr nd hu=>⟨xa,(by ac_rfl),OP⟩
meta abbrev FK:χ:=top 30
abbrev tU(Z:Ev):Prop:=Fx Z 2 "firsts_of" ["web", "ways"] 2 n9
theorem SQ(D:Dx Z "firsts_of" FK)(B:BT Z.mg)(Wo:FJ Z):tU Z:=bW (N:=["web", "ways", "firsts", "number", "way"]) D fK λhr nd hu=>⟨Dw,(by ac_rfl),OQ⟩
meta abbrev FL:χ:=top 32
abbrev ze(Z:Ev):Prop:=Fx Z 3 "is_rising" ["thing", "many"] 2 tq
theorem SS(D:Dx Z "is_rising" FL)(B:BT Z.mg)(zc:qN Z):ze Z:=bW (N:=["thing", "many", "least", "number"]) D fK λhr nd hu=>⟨Eg,(by ac_rfl),QB⟩
meta abbrev FN:χ:=top 33
abbrev FO(Z:Ev):Prop:=Fx Z 5 "least_of" ["web", "ways"] 2 xY
theorem SU{T:ξ}(D:qB Z "least_of" FN T ⟨91,25,91,63⟩ ((("least_of" : π)++".<locals>.")++"<lambda>"))(B:BT Z.mg)(zf:zd Z):FO Z:=EC (N:=["web", "ways"]) D fK λLD hc hr nd hu=>⟨Ec,(rT (v5 (Ea ι (iA.mk (x:="number") (Nb:=["web"]) (cp:=[ζ 0]) ⟨LD.env hc,LD.ng,LD.blt⟩ LD.tbl Y Y (by first|rfl|kernel_rfl) Y Y (λ_ _ _ _ _=>Y) ⟨1,hr.mono (by decide),λd hr=>(mW zf hr (mz (pB pS (pB pS (dv 1) vT (λ_ _=>Y)) (dv 0) (λ_ _=>Y)) nP))⟩) hu (by rfl) B.min C8 (jD (dv 1) nP)))),Qs⟩
meta abbrev FP:χ:=top 34
abbrev FQ(Z:Ev):Prop:=Fx Z 5 "greatest_of" ["web", "ways"] 2 ya
theorem SV{T:ξ}(D:qB Z "greatest_of" FP T ⟨93,25,93,63⟩ ((("greatest_of" : π)++".<locals>.")++"<lambda>"))(B:BT Z.mg)(zf:zd Z):FQ Z:=EC (N:=["web", "ways"]) D fK λLD hc hr nd hu=>⟨Ef,(rT (v5 (Ea θ (iA.mk (x:="number") (Nb:=["web"]) (cp:=[ζ 0]) ⟨LD.env hc,LD.ng,LD.blt⟩ LD.tbl Y Y (by first|rfl|kernel_rfl) Y Y (λ_ _ _ _ _=>Y) ⟨1,hr.mono (by decide),λd hr=>(mW zf hr (mz (pB pS (pB pS (dv 1) vT (λ_ _=>Y)) (dv 0) (λ_ _=>Y)) nP))⟩) hu (by rfl) B.max wC (jD (dv 1) nP)))),Qy⟩
meta abbrev FT:χ:=top 35
abbrev FU(Z:Ev):Prop:=Fx Z 1 "leads_out" ["way", "houses"] 2 xV
theorem SW(D:Dx Z "leads_out" FT)(B:BT Z.mg):FU Z:=bW (N:=["way", "houses"]) D fK λhr nd hu=>⟨xW,(by ac_rfl),Qq⟩
meta abbrev FW:χ:=top 36
abbrev FX(Z:Ev):Prop:=Fx Z 2 "ways_out" ["web", "houses"] 2 xX
theorem SX(D:Dx Z "ways_out" FW)(B:BT Z.mg)(Wq:FU Z):FX Z:=bW (N:=["web", "houses"]) D fK λhr nd hu=>⟨Eb,(by ac_rfl),Qr⟩
meta abbrev FY:χ:=top 37
abbrev FZ(Z:Ev):Prop:=Fx Z 3 "lot_at" ["web", "ways", "house"] 3 yJ
theorem SY(D:Dx Z "lot_at" FY)(B:BT Z.mg)(F0:tU Z):FZ Z:=bW (N:=["web", "ways", "house", "firsts"]) D iD λhr nd hu=>⟨yK,(by ac_rfl),RK⟩
meta abbrev F7:χ:=top 38
abbrev F8(Z:Ev):Prop:=Fx Z 1 "ends_of" ["web", "ways"] 2 ym
theorem S7(D:Dx Z "ends_of" F7)(B:BT Z.mg):F8 Z:=bW (N:=["web", "ways"]) D fK λhr nd hu=>⟨Er,(by ac_rfl),QM⟩
meta abbrev F9:χ:=top 39
abbrev F_(Z:Ev):Prop:=Fx Z 3 "is_ring" ["web", "ways"] 2 yn
theorem S8(D:Dx Z "is_ring" F9)(B:BT Z.mg)(Wr:F8 Z)(F0:tU Z):F_ Z:=bW (N:=["web", "ways", "ends", "firsts"]) D fK λhr nd hu=>⟨Es,(by ac_rfl),QO⟩
meta abbrev Ga:χ:=top 40
abbrev Gb(Z:Ev):Prop:=Fx Z 3 "parts" ["web", "ways", "gone", "one", "other"] 5 yb
theorem S9(D:Dx Z "parts" Ga)(B:BT Z.mg)(F0:tU Z):Gb Z:=bW (N:=["web", "ways", "gone", "one", "other", "firsts"]) D Q4 λhr nd hu=>⟨yc,(by ac_rfl),Qz⟩
meta abbrev Gd:χ:=top 41
abbrev Ge(Z:Ev):Prop:=Fx Z 4 "road_of" ["web", "ways", "one", "other"] 4 yd
theorem S_(D:Dx Z "road_of" Gd)(B:BT Z.mg)(Ws:Gb Z):Ge Z:=bW (N:=["web", "ways", "one", "other"]) D om λhr nd hu=>⟨Eh,(by ac_rfl),QC⟩
meta abbrev Gf:χ:=top 43
abbrev Gg(Z:Ev):Prop:=Fx Z 6 "way_by_cut" ["web", "put_in", "left_out", "houses"] 4 yo
theorem Ta(D:Dx Z "way_by_cut" Gf)(B:BT Z.mg)(Tb:ze Z)(Wt:FX Z)(Wu:FO Z):Gg Z:=bW (N:=["web", "put_in", "left_out", "houses", "out"]) D om λhr nd hu=>⟨Et,(by ac_rfl),QS⟩
meta abbrev Gh:χ:=top 44
abbrev Gi(Z:Ev):Prop:=Fx Z 6 "way_by_ring" ["web", "put_in", "left_out", "ways"] 4 yp
theorem Tc(D:Dx Z "way_by_ring" Gh)(B:BT Z.mg)(Tb:ze Z)(Wv:F_ Z)(Ww:FQ Z):Gi Z:=bW (N:=["web", "put_in", "left_out", "ways"]) D om λhr nd hu=>⟨Eu,(by ac_rfl),QT⟩
meta abbrev Gj:χ:=top 45
abbrev Gk(Z:Ev):Prop:=Fx Z 7 "way_by_step" ["web", "put_in", "left_out", "step"] 4 yq
theorem Td(D:Dx Z "way_by_step" Gj)(B:BT Z.mg)(Fw:tT Z)(Wx:Gg Z)(Wz:Gi Z):Gk Z:=bW (N:=["web", "put_in", "left_out", "step"]) D om λhr nd hu=>⟨Ew,(by ac_rfl),QU⟩
meta abbrev Gm:χ:=top 47
abbrev Gn(Z:Ev):Prop:=Fx Z 5 "step_for" ["web", "put_in", "number"] 3 yM
theorem Te(D:Dx Z "step_for" Gm)(B:BT Z.mg)(WB:FZ Z)(WC:Ge Z):Gn Z:=bW (N:=["web", "put_in", "number", "way", "lot"]) D iD λhr nd hu=>⟨ET,(by ac_rfl),RL⟩
meta abbrev Gp:χ:=top 50
abbrev Gq(Z:Ev):Prop:=Fx Z 1 "_law_spread" ["cell", "at"] 2 wJ
theorem Tf(D:Dx Z "_law_spread" Gp)(B:BT Z.mg):Gq Z:=bW (N:=["cell", "at", "primes", "one", "two", "three"]) D fK λhr nd hu=>⟨wK,(by ac_rfl),Oy⟩
meta abbrev Gr:χ:=top 52
abbrev Gs(Z:Ev):Prop:=Fx Z 1 "_law_anew" ["pen"] 1 wL
theorem Tg(D:Dx Z "_law_anew" Gr)(B:BT Z.mg):Gs Z:=bW (N:=["pen"]) D j8 λhr nd hu=>⟨Dh,(by ac_rfl),Oz⟩
meta abbrev Gu:χ:=top 53
abbrev ou(Z:Ev):Prop:=Fx Z 2 "_law_take" ["pen", "many"] 2 e_
theorem Th(D:Dx Z "_law_take" Gu)(B:BT Z.mg)(WD:Gq Z):ou Z:=bW (N:=["pen", "many", "at", "cell", "found"]) D fK λhr nd hu=>⟨wM,(by ac_rfl),OA⟩
meta abbrev Gv:χ:=top 54
abbrev zg(Z:Ev):Prop:=Fx Z 1 "_law_is_whole" ["thing"] 1 sy
theorem Ti(D:Dx Z "_law_is_whole" Gv)(B:BT Z.mg):zg Z:=bW (N:=["thing"]) D j8 λhr nd hu=>⟨Dp,(by ac_rfl),OI⟩
meta abbrev Gw:χ:=top 55
abbrev Gx(Z:Ev):Prop:=Fx Z 3 "_law_pairs_of" ["pen", "kind", "many"] 3 wN
theorem Tj(D:Dx Z "_law_pairs_of" Gw)(B:BT Z.mg)(tV:ou Z):Gx Z:=bW (N:=["pen", "kind", "many", "every", "other", "ring", "half"]) D iD λhr nd hu=>⟨wO,(by ac_rfl),OC⟩
meta abbrev Gy:χ:=top 56
abbrev Gz(Z:Ev):Prop:=Fx Z 4 "_law_web" ["pen", "houses", "most"] 3 wU
theorem Tn(D:Dx Z "_law_web" Gy)(B:BT Z.mg)(tV:ou Z)(WH:Gx Z):Gz Z:=bW (N:=["pen", "houses", "most", "kind", "prices", "many", "pairs", "ways", "k", "one", "other", "price"]) D iD λhr nd hu=>⟨wV,(by ac_rfl),OE⟩
meta abbrev GA:χ:=top 57
abbrev zi(Z:Ev):Prop:=Fx Z 1 "_law_key" ["web", "number"] 2 sQ
theorem To(D:Dx Z "_law_key" GA)(B:BT Z.mg):zi Z:=bW (N:=["web", "number", "one", "other", "price"]) D fK λhr nd hu=>⟨xA,(by ac_rfl),Pz⟩
meta abbrev GB:χ:=top 58
abbrev zj(Z:Ev):Prop:=Fx Z 1 "_law_marks_by" ["web", "ways"] 2 sE
theorem Tp(D:Dx Z "_law_marks_by" GB)(B:BT Z.mg):zj Z:=bW (N:=["web", "ways", "found", "number", "one", "other"]) D fK λhr nd hu=>⟨Dy,(by ac_rfl),OS⟩
meta abbrev GC:χ:=top 59
abbrev GF(Z:Ev):Prop:=Fx Z 2 "_law_lots" ["web", "ways"] 2 xc
theorem Tq(D:Dx Z "_law_lots" GC)(B:BT Z.mg)(Tr:zj Z):GF Z:=bW (N:=["web", "ways", "marks"]) D fK λhr nd hu=>⟨Dz,(by ac_rfl),OU⟩
meta abbrev GG:χ:=top 60
abbrev zk(Z:Ev):Prop:=Fx Z 2 "_law_lot_at" ["web", "ways", "house"] 3 tM
theorem Ts(D:Dx Z "_law_lot_at" GG)(B:BT Z.mg)(Tr:zj Z):zk Z:=bW (N:=["web", "ways", "house", "marks"]) D iD λhr nd hu=>⟨yQ,(by ac_rfl),RT⟩
meta abbrev GH:χ:=top 61
abbrev GI(Z:Ev):Prop:=Fx Z 1 "_law_leads_out" ["web", "houses", "number"] 3 y0
theorem Tt(D:Dx Z "_law_leads_out" GH)(B:BT Z.mg):GI Z:=bW (N:=["web", "houses", "number", "one", "other"]) D iD λhr nd hu=>⟨Fd,(by ac_rfl),Sd⟩
meta abbrev GJ:χ:=top 62
abbrev GK(Z:Ev):Prop:=Fx Z 2 "_law_outs" ["web", "houses", "ways"] 3 y4
theorem Tu(D:Dx Z "_law_outs" GJ)(B:BT Z.mg)(WJ:GI Z)(Tv:zi Z):GK Z:=bW (N:=["web", "houses", "ways", "found"]) D iD λhr nd hu=>⟨Fe,(by ac_rfl),Se⟩
meta abbrev GL:χ:=top 63
abbrev GN(Z:Ev):Prop:=Fx Z 2 "_law_is_in" ["thing", "low", "high"] 3 w1
theorem Tw(D:Dx Z "_law_is_in" GL)(B:BT Z.mg)(Tx:zg Z):GN Z:=bW (N:=["thing", "low", "high"]) D iD λhr nd hu=>⟨Dq,(by ac_rfl),OJ⟩
meta abbrev GP:χ:=top 65
abbrev zm(Z:Ev):Prop:=Fx Z 1 "_law_road" ["web", "ways", "one", "other"] 4 tu
theorem Tz(D:Dx Z "_law_road" GP)(B:BT Z.mg):zm Z:=bW (N:=["web", "ways", "one", "other", "roads", "due", "here", "number", "ends", "there"]) D om λhr nd hu=>⟨yf,(by ac_rfl),QG⟩
meta abbrev GQ:χ:=top 66
abbrev GS(Z:Ev):Prop:=Fx Z 3 "_law_rises" ["numbers", "many"] 2 tP
theorem TB(D:Dx Z "_law_rises" GQ)(B:BT Z.mg)(WK:GN Z):GS Z:=bW (N:=["numbers", "many", "k", "number"]) D fK λhr nd hu=>⟨Fc,(by ac_rfl),Sb⟩
meta abbrev GU:χ:=top 67
abbrev GV(Z:Ev):Prop:=Fx Z 3 "_law_one_ring" ["web", "ways"] 2 yY
theorem TC(D:Dx Z "_law_one_ring" GU)(B:BT Z.mg)(TF:zk Z):GV Z:=bW (N:=["web", "ways", "often", "number", "house"]) D fK λhr nd hu=>⟨yZ,(by ac_rfl),Sa⟩
meta abbrev GW:χ:=top 68
abbrev tW(Z:Ev):Prop:=Fx Z 1 "_law_all" ["web"] 1 qe
theorem TH(D:Dx Z "_law_all" GW)(B:BT Z.mg):tW Z:=bW (N:=["web"]) D j8 λhr nd hu=>⟨xb,(by ac_rfl),OT⟩
meta abbrev GX:χ:=top 69
abbrev GY(Z:Ev):Prop:=Fx Z 2 "_law_numbers" ["thing"] 1 y9
theorem TJ(D:Dx Z "_law_numbers" GX)(B:BT Z.mg)(Tx:zg Z):GY Z:=bW (N:=["thing"]) D j8 λhr nd hu=>⟨Fh,(by ac_rfl),Ss⟩
meta abbrev GZ:χ:=top 70
abbrev zo(Z:Ev):Prop:=Fx Z 4 "_law_step_done" ["web", "stand", "step"] 3 tR
theorem TK(D:Dx Z "_law_step_done" GZ)(B:BT Z.mg)(WL:GS Z)(WM:GK Z)(G0:tW Z)(WN:GV Z)(Tv:zi Z):zo Z:=bW (N:=["web", "stand", "step", "inside", "outside", "word", "some", "over", "left"]) D iD λhr nd hu=>⟨y8,(by ac_rfl),Sr⟩
meta abbrev G1:χ:=top 72
abbrev G2(Z:Ev):Prop:=Fx Z 3 "_law_any_road" ["pen", "web", "number", "barred"] 4 yS
theorem TM(D:Dx Z "_law_any_road" G1)(B:BT Z.mg)(G0:tW Z)(tV:ou Z)(TF:zk Z)(TN:zm Z):G2 Z:=bW (N:=["pen", "web", "number", "barred", "left", "found", "k", "way", "one", "other"]) D om λhr nd hu=>⟨yT,(by ac_rfl),RU⟩
meta abbrev G3:χ:=top 71
abbrev G4(Z:Ev):Prop:=Fx Z 4 "_law_some_step" ["pen", "web", "stand"] 3 yV
theorem TQ(D:Dx Z "_law_some_step" G3)(B:BT Z.mg)(tV:ou Z)(G0:tW Z)(TN:zm Z)(WQ:G2 Z)(WR:GF Z):G4 Z:=bW (N:=["pen", "web", "stand", "inside", "outside", "kind", "wide", "left", "number", "one", "other", "road", "houses", "lot"]) D iD λhr nd hu=>⟨yW,(by ac_rfl),RZ⟩
meta abbrev G5:χ:=top 74
abbrev G6(Z:Ev):Prop:=Fx Z 5 "_law_right" ["web", "stand", "found"] 3 y_
theorem TR(D:Dx Z "_law_right" G5)(B:BT Z.mg)(WU:GY Z)(TU:zo Z):G6 Z:=bW (N:=["web", "stand", "found"]) D iD λhr nd hu=>⟨Fi,(by ac_rfl),Su⟩
meta abbrev G7:χ:=top 46
abbrev G8(Z:Ev)(Cs:-ξ):Prop:=Fy Z Cs 8 "stand_of" ["web", "steps"] 2 tK
theorem TV{Cs:-ξ}(D:Dx Z "stand_of" G7)(B:BT Z.mg)(qO:EI Z Cs 2 "NoStep")(WV:FG Z)(WW:Gk Z):G8 Z Cs:=tH (N:=["web", "steps", "put_in", "left_out", "place", "step", "number"]) D fK RM λR hr nd hu=>⟨yO bV.ok,(by ac_rfl),RN bV.ok⟩
meta abbrev G9:χ:=top 48
abbrev G_(Z:Ev)(Cs:-ξ):Prop:=Fy Z Cs 9 "step_of" ["web", "steps"] 2 tL
theorem TX{Cs:-ξ}(D:Dx Z "step_of" G9)(B:BT Z.mg)(WX:Gn Z)(WY:G8 Z Cs):G_ Z Cs:=tH (N:=["web", "steps", "stand", "settled", "unsettled"]) D fK RO λR hr nd hu=>⟨yP bV.ok,(by ac_rfl),RP bV.ok⟩
meta abbrev qP:χ:=inClass (top 4) 0
theorem TY{f C:ξ}{fd:FuncData}(F:fM Z.K "__init__" "NoStep.__init__" qP f fd)(c:bu Z.K C)(n:oV Z.K C "place"):bP Z.P Z.w Z.K Z.mg Z.base eS 1 f fd ["self", "place"] (qK C):=by
 refine F.o_ (N:=["self", "place"]) (fJ (by decide +kernel)) (λvs H Q E h=>?_) (λd9 A outer s H vs Q E hr h=>?_)
 .let⟨a,n,rfl,_⟩:21:=h
  rfl
 .let⟨a,m,rfl,ha,fin⟩:22:=h
  calc⟨_,lj (Lq (jv 0) (jv 1) Y),⟨_,Y,_,Y,a,C,Y,ha,c,n,fin⟩⟩
meta abbrev dX:χ:=top 64
meta abbrev Ha:χ:=dX
meta abbrev xR(Z:Ev)(f:ξ)(d9:ν)(A:Β)(outer:-Ζ)(s:ο)(H:Hp)(E:XK):Cx:=(bC eS Z.P Z.w Z.K Z.mg Z.base ["caught", "some", "words", "at"] "_law_refusal" (cn dX) f d9 A outer s H E).jy
theorem lS:jW ["caught", "some", "words", "at"] ["caught"] (cn dX):=fJ (by decide +kernel)
theorem TZ{f L:ξ}{Cs:-ξ}{fd:FuncData}{sp:Sp}(F:fM Z.K "_law_refusal" "_law_refusal" dX f fd)(T:yC Z.mg L Cs)(len:∀vs H Q E,sp vs H Q E->↑vs=1)
  (xj:∀vs H Q E,sp vs H Q E->∃(a C:ξ)(dx:Option ξ)(b:Nat->Bool),vs=[.ref a]/\ExcAt H a C dx/\bu Z.K C/\(∀(i:Nat)(C':ξ),Cs[i]?=ζ C'->Xk Z.K (.ref C) (.ref C')=ζ (b i))/\Xk Z.K (.ref C) (.ref L)=ζ θ/\Xk Z.K (.ref C) (.type "ValueError")=ζ θ ∧
   (cnt (dW b)≠1->∀(l:ξ)(H':Hp),ay H H'->H' l=ζ (.lst [.str "odd"])->Q (.ref l) H') ∧
   (cnt (dW b)=1->∃j:Nat,j<13/\(∀z,((dW b).map V.bl)[j]?=ζ z->eZ z (.bl θ)=θ)/\(∀m z,m<j->((dW b).map V.bl)[m]?=ζ z->eZ z (.bl θ)=ι) ∧
    (j<4->oV Z.K C "place" /\ ∃(d:ξ)(n:Int),dx=ζ d/\H d=ζ (.xd [("place",.int n)])/\∀(l:ξ)(H':Hp),ay H H'->H l=η->H' l=ζ (.lst [.str (cU.getD j ""),.int n])->Q (.ref l) H') ∧
    (4<=j->∀(l:ξ)(H':Hp),ay H H'->H l=η->H' l=ζ (.lst [.str (cU.getD j "")])->Q (.ref l) H'))):bP Z.P Z.w Z.K Z.mg Z.base eS 1 f fd ["caught"] sp:=by
 calc F.o_ lS (λvs H Q E h=>len vs H Q E h) (λd9 A outer s H vs Q E hr h=>?_);let⟨a,C,dx,b,rfl,E0,cl,kt,kL,kV,odd,good⟩:47:=xj vs H Q E h;let nd:=lS.nd;let gI:Gl (xR Z f d9 A outer s H E) "isinstance" := by rfl
 let v0:∀q,JE (xR Z f d9 A outer s H E) (.Name "caught" q) (fu 0):=λq=>jv 0;let v1:∀q,JE (xR Z f d9 A outer s H E) (.Name "some" q) (fu 1):=λq=>jv 1
 let nI:∀(i:Nat)(x:π),names13[i]?=ζ x->Gl (xR Z f d9 A outer s H E) x->bB x->∀p q r t,JE (xR Z f d9 A outer s H E) (.Call (.Name "isinstance" p) [.Name "caught" q,.Name x r] [] t) (qG a C dx (b i)):=λi x hx g d p q r t=>by
  let⟨c,e,m⟩:11:=T.cls i x hx;exact yE (v0 q) (uG (v:=.ref c) g m Y d) Y cl (kt i c e) gI T.yD
 let nL:∀p q r t,JE (xR Z f d9 A outer s H E) (.Call (.Name "isinstance" p) [.Name "caught" q,.Name "LotError" r] [] t) (qG a C dx θ):=λp q r t=>yE (v0 q) (uG (v:=.ref L) (by rfl) T.Rv Y) Y cl kL gI T.yD;let nV:∀p q r t,JE (xR Z f d9 A outer s H E) (.Call (.Name "isinstance" p) [.Name "caught" q,.Name "ValueError" r] [] t) (qG a C dx θ):=λp q r t=>yE (v0 q) (An (by rfl) T.VE Rw (v:=.ty "ValueError") Y) Y cl kV gI T.yD;let h0:JS (xR Z f d9 A outer s H E) ((dA dX).getD 0 (.Pass ⟨0,0,0,0⟩)) (dm (m8 a C dx [b 0,b 1,b 2]) (ik 1)):=BF nd Y (q0f Y) (qJ (i9 (nI 0 _ Y Y Y _ _ _ _) (i9 (nI 1 _ Y Y Y _ _ _ _) (i9 (nI 2 _ Y Y Y _ _ _ _) qH))) (by show 3<=20;decide)) (.inr Y)
 let h1:JS (xR Z f d9 A outer s H E) ((dA dX).getD 1 (.Pass ⟨0,0,0,0⟩)) (dm (jR a C dx ([b 0,b 1,b 2]) [b 3,b 4,b 5]) (ik 1)):=rJ nd Y (q0f Y) (tI (v1 _) (qJ (i9 (nI 3 _ Y Y Y _ _ _ _) (i9 (nI 4 _ Y Y Y _ _ _ _) (i9 (nI 5 _ Y Y Y _ _ _ _) qH))) (by show 3<=20;decide)) (by show 3+3<=20;decide)) (.inr Y);let h2:JS (xR Z f d9 A outer s H E) ((dA dX).getD 2 (.Pass ⟨0,0,0,0⟩)) (dm (jR a C dx ([b 0,b 1,b 2]++[b 3,b 4,b 5]) [b 6,b 7,b 8]) (ik 1)):=rJ nd Y (q0f Y) (tI (v1 _) (qJ (i9 (nI 6 _ Y Y Y _ _ _ _) (i9 (nI 7 _ Y Y Y _ _ _ _) (i9 (nI 8 _ Y Y Y _ _ _ _) qH))) (by show 3<=20;decide)) (by show 6+3<=20;decide)) (.inr Y)
 let h3:JS (xR Z f d9 A outer s H E) ((dA dX).getD 3 (.Pass ⟨0,0,0,0⟩)) (dm (jR a C dx ([b 0,b 1,b 2]++[b 3,b 4,b 5]++[b 6,b 7,b 8]) [b 9,b 10,b 11]) (ik 1)):=rJ nd Y (q0f Y) (tI (v1 _) (qJ (i9 (nI 9 _ Y Y Y _ _ _ _) (i9 (nI 10 _ Y Y Y _ _ _ _) (i9 (nI 11 _ Y Y Y _ _ _ _) qH))) (by show 3<=20;decide)) (by show 9+3<=20;decide)) (.inr Y);let h4:JS (xR Z f d9 A outer s H E) ((dA dX).getD 4 (.Pass ⟨0,0,0,0⟩)) (dm (jR a C dx ([b 0,b 1,b 2]++[b 3,b 4,b 5]++[b 6,b 7,b 8]++[b 9,b 10,b 11]) [b 12]) (ik 1)):=rJ nd Y (q0f Y) (tI (v1 _) (qJ (i9 (nI 12 _ Y Y Y _ _ _ _) qH) (by show 1<=20;decide)) (by show 12+1<=20;decide)) (.inr Y)
 let h5:JS (xR Z f d9 A outer s H E) ((dA dX).getD 5 (.Pass ⟨0,0,0,0⟩)) (λD σ H1=>∃l:ξ,σ[0]?=ζ (ζ (.ref a))/\σ[1]?=ζ (ζ (.ref l))/\H1 l=ζ (.lst ((dW b).map V.bl))/\ExcAt H1 a C dx/\(cnt (dW b)≠1->∀(l':ξ)(H':Hp),ay H1 H'->H' l'=ζ (.lst [.str "odd"])->D.rt (.ref l') H')/\(cnt (dW b)=1->D.nx σ H1)):=by
  calc(As (JW.jt (uJ (uZ JK (nE YO q1S q1T BC (v1 _) (iN uF a_)) jw (AD _)) (uJ (uK (uH (nL _ _ _ _))) (Aq (uK (uH (nV _ _ _ _))))))) (lj (oN (kC (iN rg a_)))) ig).weak ?_;ext D σ H1 nr;let⟨l,e0,e1,hl,e,od,gd⟩:15:=nr;refine⟨_,e1,.inl ⟨Y,_,bf.of hl⟩,l,_,_,Y,Y,bf.of hl,Y,yF _,Y,_,Y,?_⟩
  by_cases hc:cnt (dW b)=1
  .refine KP (congrArg (λn:Nat=>V.int n) hc) ?_
   exact⟨e0,e,_,Y,ml ⟨e0,e,_,Y,ml (gd hc)⟩⟩
  .refine LG (λz=>hc (q1A (V.int.inj z))) ?_
   exact vv ⟨gE (by show 1<=20;decide),λp hp=>od hc p _ (jQ hp) bj⟩
 let h6:JS (xR Z f d9 A outer s H E) ((dA dX).getD 6 (.Pass ⟨0,0,0,0⟩)) (dm (λ_ H Q=>∀p,H p=η->Q (.ref p) (upd H p (.lst (dU.map V.str)))) (ik 2)):=BF (i:=2) nd Y (q0f Y) (Rx dU Y (by decide)) (.inr Y)
 let h7:JS (xR Z f d9 A outer s H E) ((dA dX).getD 7 (.Pass ⟨0,0,0,0⟩)) (λD σ H1=>∃(l:ξ)(j:Nat),σ[1]?=ζ (ζ (.ref l))/\H1 l=ζ (.lst ((dW b).map V.bl))/\j<13/\(∀z,((dW b).map V.bl)[j]?=ζ z->eZ z (.bl θ)=θ)/\(∀m z,m<j->((dW b).map V.bl)[m]?=ζ z->eZ z (.bl θ)=ι)/\D.nx (σ.set 3 (ζ (.int (j:Nat)))) H1):=by
  calc(LF (i:=3) nd Y (q0f Y) (nE YO PySem.F.slot_list_index PySem.F.type_list_index Lw (v1 _) (iN uF a_)) (.inr Y)).weak ?_;ext D σ H1 nr;let⟨l,j,e1,hl,hj,i1,i2,gd⟩:25:=nr;exact⟨_,e1,.inl ⟨Y,_,bf.of hl⟩,l,_,_,j,Y,Y,bf.of hl,Y,yF _,hj,i1,i2,gd⟩
 let h8:JS (xR Z f d9 A outer s H E) ((dA dX).getD 8 (.Pass ⟨0,0,0,0⟩)) _:=oN (uL (uZ AB (jv 3) jw (AD _)) (kC (mq (o7 rz (jv 2) (jv 3) (λ_ _=>Y)) (vG (Ry (v0 _) Y) a_))) (kC (mq (o7 rz (lq rB (jv 2) (kC (iN rg a_))) (jv 3) (λ_ _=>Y)) a_)));calc⟨_,LI (lB (by decide) h0 (lB (by decide) h1 (lB (by decide) h2 (lB (by decide) h3 (lB (by decide) h4 (lB (by decide) h5 (lB (by decide) h6 (lB (by decide) h7 (LH (by rfl) h8))))))))),?_⟩;calc⟨Y,E0,λl1 H1 s1 q1=>?_⟩;calc⟨l1,Y,Y,q1,E0.same s1,λl2 H2 s2 q2=>?_⟩;let Hb:=s1.trans s2;refine⟨l2,Y,Y,q2,E0.same Hb,λl3 H3 s3 q3=>?_⟩
 let Hc:=Hb.trans s3;calc⟨l3,Y,Y,q3,E0.same Hc,λl4 H4 s4 q4=>?_⟩;let Hd:=Hc.trans s4;calc⟨l4,Y,Y,q4,E0.same Hd,λl5 H5 s5 q5=>?_⟩;let zr:=Hd.trans s5;calc⟨l5,Y,Y,q5,E0.same zr,λnc l H' sH hH=>odd nc l H' (zr.trans sH) hH,λhc=>?_⟩;let⟨j,hj,i1,i2,fW,many⟩:14:=good hc;ext p hp;let oy:ay H (upd H5 p (.lst (dU.map V.str))):=zr.trans (jQ hp);calc(zI2 l5 j ⟨Y,(jQ hp) _ _ q5,hj,i1,i2,?_⟩);refine⟨_,Y,_,_,Y,Y,_,Y,vw (λti=>?_) (λT1=>?_)⟩
 .let qQ:j<4:=by let:=Xq ti;symm
  let⟨na,d,n,ed,hd,fin⟩:0122:=fW qQ;subst ed;let E6:=E0.same oy;calc⟨_,Y,_,Y,p,_,_,_,Y,Y,bf.of bj,iG (Rz qQ),_,Y,a,C,d,_,_,Y,E6.ob,cl,na,oy _ _ hd,Y,gE (by show 2<=20;decide),λl hl=>?_⟩;exact fin l _ (oy.trans (jQ hl)) (oy.free hl) bj
 .let zt:4<=j:=by
   by_cases z:j<4
   .exact absurd (Bj (show(j:Int)<4 by symm)) T1
   .omega
  calc⟨_,Y,gE (by show 1<=20;decide),λm hm=>(zI4 p m _ _ ⟨Y,Y,(by rw[aG (bU bj hm)];calc bj),bj,gE (by show 13<=20;decide),λr hr=>⟨_,Y,r,_,_,_,Y,Y,bf.of bj,iG (RA hj),gE (by show 1<=20;decide),λl hl=>?_⟩⟩)⟩;calc many zt l _ (((oy.trans (jQ hm)).trans (jQ hr)).trans (jQ hl)) (((oy.trans (jQ hm)).trans (jQ hr)).free hl) bj
theorem T2{f L:ξ}{Cs:-ξ}{fd:FuncData}(F:fM Z.K "_law_refusal" "_law_refusal" dX f fd)(T:yC Z.mg L Cs)(W:yB Z.K L Cs):bP Z.P Z.w Z.K Z.mg Z.base eS 1 f fd ["caught"] (jS Cs):=by
 refine TZ F T (λvs H Q E h=>?_) (λvs H Q E h=>?_)
 .let⟨_,_,_,_,_,rfl,_⟩:51:=h;rfl
 .let⟨j,n,a,C,dx,rfl,hj,hC,E0,hd,fin⟩:55:=h
  let⟨cl,kL,kV,kt⟩:03:=W.each j C hC;refine(zI4 a C dx (λi=>μ (i=j)) ⟨Y,E0,cl,kt,kL,kV,λnc=>absurd (RB j hj) nc,λ_=>⟨j,hj,λz hz=>?_,λm z hm hz=>?_,λh4=>?_,λh4 l H' s hl hH=>fin l H' s hl ?_⟩⟩)
  .rw[EJ hz];show eZ (.bl (μ (j=j))) (.bl θ)=θ;rw[Bj Y];rfl
  .rw[EJ hz];show eZ (.bl (μ (m=j))) (.bl θ)=ι;rw[Bh ⋯];rfl
  .let⟨d,ed,hd⟩:11:=hd h4
   calc⟨W.iE j C hC,d,n,ed,hd,λl H' s hl hH=>fin l H' s hl ?_⟩;rw[hH,k8,W_ h4]
  .rw[hH,k8,Vq ⋯]
meta abbrev He:χ:=top 73
abbrev Hf(Z:Ev):Prop:=Fx Z 10 "_law_told" ["web", "steps"] 2 tN
theorem T3{Cs:-ξ}{L fR:ξ}{zv:FuncData}(D:Dx Z "_law_told" He)(B:BT Z.mg)(GR:Fn Z.P Z.w Z.K Z.mg Z.base 1 "_law_refusal" ["caught"] (jS Cs) fR zv)(hL:Z.mg "LotError" = ζ (.ref L))(hX:∀(c:Nat) (C:ξ),Cs[c]?=ζ C->c<13/\q0A Z.K (.ref C) (.ref L)=ζ θ)(T5:G_ Z Cs):Hf Z:=bW (N:=["web", "steps", "found", "caught", "e"]) D fK λhr nd hu=>⟨EZ,(vZ (v3 (i:=2) nd Y (by trivial) vU) (vZ (v3 (i:=3) nd Y (by trivial) vU) (RJ (tup:=false) Y Y nd Y Y (by rfl) hL hX (by decide) (λhp R=>(rT (RG (i:=2) T5 R hp hr nd Y (by trivial) (jD (dv 0) (jD (dv 1) nP))))) (λA xe=>lj (ko (i:=3) nd Y (by trivial) (jv 4))) (oN (uL (Ao (IU (jv 3))) (dv 2) (l6 GR.ok (hr.mono (by decide)) (by rfl) GR.pw GR.kp GR.bd .nil nG (iO (jv 3) a_))))))),R6⟩
meta abbrev tX:χ:=top 51
theorem jT:jW ["script", "cells", "k", "cell"] ["script"] (cn tX):=fJ (by decide +kernel)
theorem T6{f:ξ}{fd:FuncData}(F:fM Z.K "_law_open" "_law_open" tX f fd)(h1:Z.mg "list" = η)(h2:Z.mg "enumerate" = η):bP Z.P Z.w Z.K Z.mg Z.base eS 1 f fd ["script"] (DC Z.K):=by
 refine F.o_ jT (λvs H Q E h=>?_) (λd9 A outer s H vs Q E hr h=>?_)
 .let⟨a,ns,rfl,_⟩:21:=h
  rfl
 .let⟨a,ns,rfl,hS,hlen,fin⟩:23:=h
  let nd:=jT.nd
  refine⟨_,nA (ko (i:=1) nd Y (q0f Y) (kE vn (by rfl) h1 PyProof.Rows.boot_list (iq (vc f6 (jv 0) AR (rq jw)) a_)))
   (nA (Az q19 Y (K8 (by rfl) h2 (iq (vc f6 (jv 0) (rq jw) (rq jw)) a_)) (Au Y (uQ (uO (i:=2) nd Y (q0f Y)) (uQ (uO (i:=3) nd Y (q0f Y)) ip)))
    (lj (uS (lq AA (o7 rz (jv 1) (lq uX (jv 2) jw) (λ_ _=>Y)) (jv 3)) (Av (jv 1) (lq uX (jv 2) jw) set_list))))
   (lj (oN (kC (iq (jv 1) (iq jw (iq jw a_))))))),?_⟩
  calc⟨_,Y,_,Y,a,_,Y,hS,λl1 n1=>(zI2 l1 _ ⟨Y,.inl (bf.of bj),λc nc=>?_⟩)⟩;let s1:ay H (upd (upd H l1 (.lst (dq (ns.map V.int) η (ζ 12)))) c (.lst (dq (ns.map V.int) η (ζ 12)))):=(oa n1).trans (oa nc);calc⟨_,Y,_,Y,_,Y,a,_,Y,s1.seq hS,λl2 n2=>⟨l2,Y,⟨_,bf.of bj⟩,?_⟩⟩;let T7:H c=η:=(oa n1).free nc;let T8:=n2
  let T9:∃ms:-Int,↑ms=min 12 ns.length/\dq (ns.map V.int) η (ζ 12)=ms.map V.int:=by
   calc⟨_,?_,xf ns η (ζ 12)⟩;rw[XN,YM];let e1:HT.bo ns.length 0 η=0:=HT.va _ _;let e2:HT.bo ns.length ns.length (ζ 12)=min 12 ns.length:=HT.oZ ns.length ns.length 12;rw[e1,e2];symm
  let xS:↑(dq (ns.map V.int) (ζ 12) (ζ 63))=ns.length-12:=by
   rw[xf,kF,XN,YM];let e1:HT.bo ns.length 0 (ζ 12)=min 12 ns.length:=HT.oZ ns.length 0 12;let e2:HT.bo ns.length ns.length (ζ 63)=min 63 ns.length:=HT.oZ ns.length ns.length 63;rw[e1,e2,Nat.min_eq_right hlen,q3v];symm
  let Hg:∀i x,(dq (ns.map V.int) (ζ 12) (ζ 63))[i]?=ζ x->∃n:Int,x=V.int n:=λi x e=>by
   rw[xf,KI] at e
   cases q:((ns.drop (HT.bo ns.length 0 (ζ 12))).take (HT.bo ns.length ns.length (ζ 63)-HT.bo ns.length 0 (ζ 12)))[i]? with
   |none=>rw[q] at e;cases e
   |some n=>rw[q] at e;exact⟨n,(XA e).symm⟩
  generalize dq (ns.map V.int) (ζ 12) (ζ 63)=rest at xS Hg n2 ⊢;let⟨ms,T_,Ua⟩:11:=T9
  refine Lx (K:=Z.K) (a:=l2) (xs:=rest) (λi σ H2=>∃(ks:-Int)(v1 v2:Option V),σ=[ζ (.ref a),ζ (.ref c),v1,v2]/\H2 c=ζ (.lst (ks.map V.int))/\↑ks=min 12 ns.length/\H2 l2=ζ (.lst rest)/\ay H H2)
   (zI3 ms η η ⟨Y,?_,T_,bj,?_⟩) (λi σ H2 _ zw=>by let⟨_,_,_,_,_,_,q,_⟩:34:=zw;calc bf.of q) ?_ ?_
  .rw[aG (bU bj n2),bj,Ua]
  .exact s1.trans (oa n2)
  .ext i x T σ H2 hi zy hT;let⟨ks,v1,v2,rfl,hc,hk,zz,sm⟩:34:=zy
   let⟨n,rfl⟩:=Hg i x hi;let Cy:i<↑rest:=(mj.mp hi).1;let Ub:↑ks=12:=by symm
   let cT:c≠T:=bU hc hT;let Hh:upd H2 T (.tup [.int i,.int n]) c=ζ (.lst (ks.map V.int)):=by rw[aG cT];exact hc
   let j0:0<=((i:Int))%12:=Zq _ (by decide);let j1:((i:Int))%12<12:=Y4 _ (by decide);let⟨m,em⟩:=OX (ns:=ks) j0 ⋯
   let ix:gY ↑(ks.map V.int) ((i:Int)%12)=ζ ((i:Int)%12).toNat:=by
    unfold gY;rw[W_ j0,W_ (by rw[kF];symm)]
   calc(zI2 T _ ⟨Y,bE.of bj,Y,_,_,Y,_,_,Y,Y,?_⟩);calc⟨_,Y,_,Y,_,_,Y,Y,(show(0:Int)<12 by decide),_,_,_,_,Y,Y,bf.of Hh,em,_,Y,_,_,Y,Y,_,Y,_,Y,_,_,Y,Y,(show(0:Int)<12 by decide),_,_,_,_,Y,Y,Hh,ix,?_⟩;refine(zI3 (ks.set ((i:Int)%12).toNat (m+n)) _ _ ⟨Y,?_,by rw[Yr];calc hk,?_,?_⟩)
   .rw[bj,List.map_set]
   .let Uc:l2≠c:=by
     ext z;subst z;exact absurd T8 (by rw[bj];ext y;cases y)
    rw[aG Uc,aG (bU zz hT)];exact zz
   .ext b o e
    rw[aG (bU e T7)];exact oa hT b o (sm b o e)
  .ext σ H2 jG;let⟨ks,v1,v2,rfl,hc,hk,zz,sm⟩:34:=jG
   calc⟨_,Y,(by show 3<=sizeLine;decide),λp np=>?_⟩;let Ud:H p=η:=sm.free np;calc fin p c _ (sm.trans (oa np)) Ud ⟨bj,⟨ks,by rw[aG (bU hc np)];calc hc,⋯⟩,Int.le_refl 0⟩
meta abbrev oz:χ:=top 75
theorem Ue{f nv:ξ}{fd k9:FuncData}(F:fM Z.K "law" "law" oz f fd)(B:BT Z.mg)(GO:Fn Z.P Z.w Z.K Z.mg Z.base 1 "_law_open" ["script"] (DC Z.K) nv k9)(WZ:Gz Z)(W0:Gs Z)(tV:ou Z)(W3:G4 Z)(TU:zo Z)(W4:Hf Z)(W5:G6 Z):bP Z.P Z.w Z.K Z.mg Z.base eS 25 f fd ["script"] (sI Z.K):=by
 let sc:jW ["script", "pen", "turn", "web", "most", "steps", "stand", "k", "step", "handed", "again", "found", "at", "odd"] ["script"] (cn oz):=fJ (by decide +kernel);refine F.o_ (k:=24) sc (λvs H Q E h=>?_) (λd9 A outer s H vs Q E hr h=>?_)
 .let⟨a,ns,rfl,_⟩:=h
  rfl
 let⟨a,ns,rfl,hS,hlen,hT,fin⟩:=h;let nd:=sc.nd;let hu:=hr.units;let rest:b3 (bC eS Z.P Z.w Z.K Z.mg Z.base ["script", "pen", "turn", "web", "most", "steps", "stand", "k", "step", "handed", "again", "found", "at", "odd"] "law" (cn oz) f d9 A outer s H E).jy ((dA oz).drop 1) (cB zb):=(by ac_rfl);calc⟨_,nA (ko (i:=1) nd Y (by trivial) (l6 GO.ok (hr.mono (by decide)) (by rfl) GO.pw GO.kp GO.bd .nil nG (iO (jv 0) a_))) rest,?_⟩;calc⟨_,Y,a,ns,Y,hS,hlen,λp c H1 sm hp N1=>?_⟩;let⟨F',ms,hm,S⟩:=OY (a:=a) (n:=12) (aB.same hT sm) N1;calc OZ S (Sv ms hm) fin
end
meta def dw:-lN:=[⟨300,⟨93,25,93,63⟩,(("greatest_of" : π)++".<locals>.")++"<lambda>"⟩,⟨293,⟨91,25,91,63⟩,(("least_of" : π)++".<locals>.")++"<lambda>"⟩]
meta def zA:-(π×χ×Z):=[("greatest_of",FP,300),("least_of",FN,293)]
meta def tY(K:KH)(C:Z):Bool :=
 (match PySem.W.clsIn K C with|some cd=>gD cd.mro&&cd.hasDict|none=>ι) &&
 (Y6 K (.ref C) "__getattribute__" == ζ (ζ (.builtin "BaseException.__getattribute__"))) &&
 (Y6 K (.ref C) "__getattr__" == ζ η) &&
 (Y6 K (.ref C) "__setattr__" == ζ (ζ (.builtin "object.__setattr__"))) &&
 (Y6 K (.ref C) "__class__" == ζ (ζ (.builtin "object.__class__"))) &&
 (q3i K (.builtin "object.__class__") "__get__" == ζ (ζ (.builtin "getset_descriptor.__get__"))) &&
 (q3Y K (.builtin "object.__class__")==ζ θ)
theorem Hi{K:KH}{C:Z}(h:tY K C=θ):bu K C:=by
 unfold tY at h;erw[Xs] at h;let⟨⟨⟨⟨⟨⟨h1,h2⟩,h3⟩,h4⟩,h5⟩,h6⟩,h7⟩:=h;calc⟨?_,Xg h2,Xg h3,Xg h4,Xg h5,Xg h6,Xg h7⟩;split at h1
 .rename_i cd e
  erw[Xs] at h1;exact⟨cd,e,h1.1,h1.2⟩
 .cases h1
meta def zB(K:KH)(L:Z)(Cs:-Z):Bool :=
 tY K L&&(Xk K (.ref L) (.ref L)==ζ θ)&&(Xk K (.ref L) (.type "ValueError")==ζ θ) &&
 (Cs.zipIdx.all λz=>Xk K (.ref L) (.ref z.1)==ζ ι) &&
 (Cs.zipIdx.all λy=>tY K y.1&&(Y6 K (.ref y.1) "place" == ζ η)&&(Xk K (.ref y.1) (.ref L)==ζ θ)&&(Xk K (.ref y.1) (.type "ValueError")==ζ θ) &&
  Cs.zipIdx.all λz=>Xk K (.ref y.1) (.ref z.1)==ζ (μ (z.2=y.2)))
theorem Ug{K:KH}{L:Z}{Cs:-Z}(hl:Cs.length=13)(h:zB K L Cs=θ):yB K L Cs:=by
 unfold zB at h;erw[Xs] at h;let⟨⟨⟨⟨h1,h2⟩,h3⟩,h4⟩,h5⟩:=h;let at_:∀{i:Nat}{C:Z},Cs[i]?=ζ C->(C,i)∈Cs.zipIdx:=λ{i C} e=>List.mk_mem_zipIdx_iff_getElem?.mpr e;let each:∀(j:Nat)(C:Z),Cs[j]?=ζ C->_:=λj C e=>XS.mp h5 (C,j) (at_ e);refine⟨hl,λj C e=>?_,⟨Hi h1,Xg h2,Xg h3,λi C' e=>Xg (XS.mp h4 (C',i) (at_ e))⟩,λj C e=>?_⟩
 .let:=each j C e
  erw[Xs] at this;let⟨⟨⟨⟨a,_⟩,c⟩,d⟩,f⟩:=this;exact⟨Hi a,Xg c,Xg d,λi C' e'=>Xg (XS.mp f (C',i) (at_ e'))⟩
 .let:=each j C e
  erw[Xs] at this;calc Xg this.1.1.1.2
meta def nsOk(K:KH)(N:Z)(name:π)(r:Option ν):Bool:=match q3R N K with
 |some ⟨_,_,.dict es _,_⟩=>(es.all λe=>match e.key with|.str _ _=>θ|_=>ι)&&(nsFind es name==r)
 |_=>ι
theorem Hj{K:KH}{N:Z}{name:π}{r:Option ν}(h:nsOk K N name r=θ):pe K N name r:=by
 unfold nsOk at h;split at h
 .rename_i oc od es ep sl e
  erw[Xs] at h;exact⟨oc,od,es,ep,sl,e,h.1,Xg h.2⟩
 .cases h
theorem Uh{K:KH}{L C N:Z}{nm q:π}{bs:-ν}{iM:Bool}{sn:-π}{sub:-ν}{ab:Bool}{col:Option Bool}{dd:Option Z}{k0 k1 k2 k3 k5:Option ν}{rH:Option ν}(T:b9 K (.ref L::mn))
  (l:K.lookup C=ζ (excClassObj nm q C N bs (.ref L::mn) iM sn sub ab col dd k0 k1 k2 k3 k5 "ValueError.__new__")) (n:nsOk K N "__init__" rH=θ) (kp:Ym K (.ref C)=θ):pf K C rH :=
 ⟨⟨_,_,N,_,_,_,_,_,_,_,_,_,_,_,_,_,l,T,Hj n⟩,kp⟩
meta abbrev dp(x:π)(s:χ):π×χ:=(x,s)
meta def Hk:-(π×χ):=[dp "is_whole" Fl,dp "is_within" Fp,dp "is_tuple_of" Fq,dp "are_ends" Fs,dp "is_way" Fu,dp "are_ways" FA,dp "is_web" FD,dp "need_web" FF,dp "rank_of" FH,dp "joined" FI,dp "firsts_of" FK,dp "is_rising" FL,dp "leads_out" FT,dp "ways_out" FW,dp "lot_at" FY,dp "ends_of" F7,dp "is_ring" F9,dp "parts" Ga,dp "road_of" Gd,dp "way_by_cut" Gf,dp "way_by_ring" Gh,dp "way_by_step" Gj,dp "stand_of" G7,dp "step_for" Gm,dp "step_of" G9,dp "_law_spread" Gp,dp "_law_open" tX,dp "_law_anew" Gr,dp "_law_take" Gu,dp "_law_is_whole" Gv,dp "_law_pairs_of" Gw,dp "_law_web" Gy,dp "_law_key" GA,dp "_law_marks_by" GB,dp "_law_lots" GC,dp "_law_lot_at" GG,dp "_law_leads_out" GH,dp "_law_outs" GJ,dp "_law_is_in" GL,dp "_law_refusal" Ha,dp "_law_road" GP,dp "_law_rises" GQ,dp "_law_one_ring" GU,dp "_law_all" GW,dp "_law_numbers" GX,dp "_law_step_done" GZ,dp "_law_some_step" G3,dp "_law_any_road" G1,dp "_law_told" He,dp "_law_right" G5,dp "law" oz]
theorem Ui{l:q37}{w:ω}{K:KH}{h:Α}{mg:π->Option ν}{fa:ξ}{L N0 c0 c1 c2 c3 c4 c5 c6 c7 c8 c9 j_ ka kf:ξ}{Uj Uk:π}{Ul:-ν}{Um:Bool}{Uo:-π}{zC:-ν}{Uq:Bool}{zD:Option Bool}{Ur:Option ξ}{Us Ut Uu Uv Uw:Option ν}{M2:ξ}{zE zF:π}{zG:-ν}{zH:Bool}{zI:-π}{qR:-ν}{zJ:Bool}{qT:Option Bool}{zK:Option ξ}{zL zM zN zO zP:Option ν}{oA:ξ}{Ux Uy:Option ξ}{Uz:Array (Option ν)}{UA UB UC UD Hl UE:ν}(X:K.In h)(G:h.Ns mainGlobals mg)(UG:mg "law" = ζ (.ref fa))(DS:gn K Hk)(LS:eB K zA)(N:∀x∈yx,XF K mainGlobals x=ζ η)(gq:Ck K "MOST_HOUSES" 12)(hW:Ck K "MOST_WAYS" 30)(gO:Ck K "MOST_PRICE" 1000000000)(aL:XF K mainGlobals "LotError" = ζ (ζ (.ref L)))(lL:K.lookup L=ζ (excClassObj Uj Uk L N0 Ul (mn) Um Uo zC Uq zD Ur Us Ut Uu Uv Uw "ValueError.__new__"))(nL:nsOk K N0 "__init__" η=θ)(aC0:XF K mainGlobals "NoWay" = ζ (ζ (.ref c0)))(aC1:XF K mainGlobals "NoJoin" = ζ (ζ (.ref c1)))(aC2:XF K mainGlobals "NoStep" = ζ (ζ (.ref c2)))(aC3:XF K mainGlobals "NoHouse" = ζ (ζ (.ref c3)))(aC4:XF K mainGlobals "NoWeb" = ζ (ζ (.ref c4)))(aC5:XF K mainGlobals "NoPrice" = ζ (ζ (.ref c5)))(aC6:XF K mainGlobals "TooMany" = ζ (ζ (.ref c6)))(aC7:XF K mainGlobals "Closed" = ζ (ζ (.ref c7)))(aC8:XF K mainGlobals "Free" = ζ (ζ (.ref c8)))(aC9:XF K mainGlobals "Nothing" = ζ (ζ (.ref c9)))(aC10:XF K mainGlobals "NoNumber" = ζ (ζ (.ref j_)))(aC11:XF K mainGlobals "NoText" = ζ (ζ (.ref ka)))(aC12:XF K mainGlobals "NoLine" = ζ (ζ (.ref kf)))(kit:zB K L [c0,c1,c2,c3,c4,c5,c6,c7,c8,c9,j_,ka,kf]=θ)(exm:([c0,c1,c2,c3,c4,c5,c6,c7,c8,c9,j_,ka,kf].all λc=>q0A K (.ref c) (.ref L)==ζ θ)=θ)(zVE:XF K mainGlobals "ValueError" = ζ η)(aI2:Y6 K (.ref c2) "__init__" = ζ (ζ (.ref oA)))(lI2:K.lookup oA=ζ ⟨UA,Ux,.func (Yv "__init__" "NoStep.__init__" (iJ qP) (dA qP) (cn qP) .none UB UC UD Uy Hl UE),Uz⟩)(qI2:Z1 K Hl "NoStep.__init__" = θ)(kI2:Ym K (.ref oA)=θ)(iI2:q3t K (.ref oA)=θ)(lC2:K.lookup c2=ζ (excClassObj zE zF c2 M2 zG (.ref L::mn) zH zI qR zJ qT zK zL zM zN zO zP "ValueError.__new__"))(nC2:nsOk K M2 "__init__" (ζ (.ref oA))=θ)(kC2:Ym K (.ref c2)=θ)
  : ∃fd:FuncData,(∀(s:ο)(v:ν),BindsTo s fd ⟨[v],[]⟩ [("script",v)])/\∀base:Α,K.In base->base.Ns mainGlobals mg->(∀t∈dw,base.BuiltinsAt mg t.T)->bP l.prog w K mg base eS 25 fa fd ["script"] (@sI (xl dw) K):=by
 let⟨f,fd,a,F⟩:=DS.at (x:="law") (st:=oz) 50 Y;cases UG.symm.trans (XR X G a)
 letI:aB:=xl dw;let B:=Q7 X G N;calc⟨fd,λs v=>by let⟨_,_,_,_,_,_,_,_,_,rfl,_⟩:=F.ex;calc .of_eq Y,λbase KB _ hB=>?_⟩;let D:∀(i:Nat){x:π}{st:χ},Hk[i]?=ζ (x,st)->Dx ⟨l.prog,w,K,mg,base⟩ x st:=λi _ _ e=>(DS.at i e).v X G;let M:∀(i:Nat){x:π}{st:χ}{T:ξ}{lp:Ε}{q:π},zA[i]?=ζ (x,st,T)->dw[i]?=ζ ⟨T,lp,q⟩->qB ⟨l.prog,w,K,mg,base⟩ x st T lp q:=λi _ _ _ _ _ e e2=>(LS.at i e).v X G KB hB (by decide) (by decide) (Xw e2);let W:yB K L [c0,c1,c2,c3,c4,c5,c6,c7,c8,c9,j_,ka,kf]:=Ug Y kit
 let T:yC mg L [c0,c1,c2,c3,c4,c5,c6,c7,c8,c9,j_,ka,kf]:=by
  calc⟨B.isinstance,q25 X G zVE,XR X G aL,λj x hx=>?_⟩;unfold names13 at hx;rcases j with _|_|_|_|_|_|_|_|_|_|_|_|_|j<;>simp at hx<;>subst hx
  .exact⟨_,Y,XR X G aC0⟩
  .exact⟨_,Y,XR X G aC1⟩
  .exact⟨_,Y,XR X G aC2⟩
  .exact⟨_,Y,XR X G aC3⟩
  .exact⟨_,Y,XR X G aC4⟩
  .exact⟨_,Y,XR X G aC5⟩
  .exact⟨_,Y,XR X G aC6⟩
  .exact⟨_,Y,XR X G aC7⟩
  .exact⟨_,Y,XR X G aC8⟩
  .exact⟨_,Y,XR X G aC9⟩
  .exact⟨_,Y,XR X G aC10⟩
  .exact⟨_,Y,XR X G aC11⟩
  .exact⟨_,Y,XR X G aC12⟩
 let TL:b9 K (.ref L::mn):=.own lL (Hj nL) .base;let hX:∀(c:Nat)(C:ξ),([c0,c1,c2,c3,c4,c5,c6,c7,c8,c9,j_,ka,kf]:-ξ)[c]?=ζ C->c<13/\q0A K (.ref C) (.ref L)=ζ θ:=λc C e=>⟨(mj.mp e).1,Xg (XS.mp exm C (Xw e))⟩;let Hm:=vu (st:=qP) lI2 qI2 kI2;let k_:EI ⟨l.prog,w,K,mg,base⟩ [c0,c1,c2,c3,c4,c5,c6,c7,c8,c9,j_,ka,kf] 2 "NoStep" := ⟨by decide,c2,Y,XR X G aC2,oA,_,Uh TL lC2 nC2 kC2,iI2,TY Hm (W.each 2 c2 Y).1 (W.iE 2 c2 Y),Hm.binds (ps:=["self", "place"]) λ_ _ _ _ _ _ us hl=>by let⟨_,_,rfl⟩:=yu hl;rfl⟩;let UH:=SE (D 0 Y) B;let tZ:=SF (D 1 Y) B UH;let zQ:=SG (D 2 Y) B
 let UI:=SH (D 3 Y) B tZ;let UJ:=SI (D 4 Y) B (gO.v X G) zQ UI tZ;let UK:=SJ (D 5 Y) B (hW.v X G) UJ;let UL:=SK (D 6 Y) B (gq.v X G) zQ tZ UK;let UM:=SM (D 7 Y) B UL;let Hn:=SN (D 8 Y) B;let UN:=SO (D 9 Y) B;let zR:=SQ (D 10 Y) B UN;let Ho:=SS (D 11 Y) B tZ;let UO:=SU (M 1 Y Y) B Hn;let UP:=SV (M 0 Y Y) B Hn;let UQ:=SW (D 12 Y) B;let UR:=SX (D 13 Y) B UQ;let US:=SY (D 14 Y) B zR;let UT:=S7 (D 15 Y) B;let UU:=S8 (D 16 Y) B UT zR;let UW:=S9 (D 17 Y) B zR;let UX:=S_ (D 18 Y) B UW;let UY:=Ta (D 19 Y) B Ho UR UO;let UZ:=Tc (D 20 Y) B Ho UU UP
 let U0:=Td (D 21 Y) B zQ UY UZ;let U1:=TV (Cs:=[c0,c1,c2,c3,c4,c5,c6,c7,c8,c9,j_,ka,kf]) (D 22 Y) B k_ UM U0;let U2:=Te (D 23 Y) B US UX;let U3:=TX (Cs:=[c0,c1,c2,c3,c4,c5,c6,c7,c8,c9,j_,ka,kf]) (D 24 Y) B U2 U1;let U4:=Tf (D 25 Y) B;let U5:=Tg (D 27 Y) B;let qU:=Th (D 28 Y) B U4;let Hq:=Ti (D 29 Y) B;let U6:=Tj (D 30 Y) B qU;let U7:=Tn (D 31 Y) B qU U6;let Hr:=To (D 32 Y) B;let Hs:=Tp (D 33 Y) B;let U8:=Tq (D 34 Y) B Hs;let Ht:=Ts (D 35 Y) B Hs;let U9:=Tt (D 36 Y) B;let U_:=Tu (D 37 Y) B U9 Hr;let Va:=Tw (D 38 Y) B Hq;let⟨fR,zv,aR,FR⟩:=D 39 (x:="_law_refusal") (st:=Ha) Y
 let GR:Fn l.prog w K mg base 1 "_law_refusal" ["caught"] (jS [c0,c1,c2,c3,c4,c5,c6,c7,c8,c9,j_,ka,kf]) fR zv:=⟨T2 (Z:=⟨l.prog,w,K,mg,base⟩) FR T W,aR,FR.kp,FR.binds j8⟩;let Hu:=Tz (D 40 Y) B;let Vb:=TB (D 41 Y) B Va;let Vc:=TC (D 42 Y) B Ht;let zS:=TH (D 43 Y) B;let Vd:=TJ (D 44 Y) B Hq;let Hv:=TK (D 45 Y) B Vb U_ zS Vc Hr;let Ve:=TM (D 47 Y) B zS qU Ht Hu;let Vf:=TQ (D 46 Y) B qU zS Hu Ve U8;let Vg:=T3 (D 48 Y) B GR (XR X G aL) hX U3;let Vh:=TR (D 49 Y) B Vd Hv;let⟨fo,W6,ao,Fo⟩:=D 26 (x:="_law_open") (st:=tX) Y;calc Ue (Z:=⟨l.prog,w,K,mg,base⟩) F B ⟨T6 Fo B.list B.enumerate,ao,Fo.kp,Fo.binds j8⟩ U7 U5 qU Vf Hv Vg Vh
theorem Vi{K:KH}{h:Α}(X:K.In h)(LS:eB K zA):∀t∈dw,∃cc,q4z h cc t.T:=λt ht=>LS.code X t.T (show t.T∈dw.map (·.T) from X0 ht)
end LJ
open PySem PySem.W PyProof.Rows
end
open LJ L2
inductive PySem.W.Fast:Prop|tw1156378542544873338|tw8147530755245696307|tw7564300103324771401|tw8706241305264134263|tw12481936392638278478|tw917860927210249576|tw2690686654778635801|tw1302198548300954090|tw7320924672240854374|tw1952305850876795236|tw13158200073377193621|tw1681702765259022139|tw4317975063896550537|tw6099710751133660484|tw9723725849035793756|tw8008946448546865134|tw232945232923173228|tw2259382106779526796|tw3150136745431889923|tw13630908324495701302|tw15474290566314932553|tw3662117593251780325|tw8710272828214597051|tw121071676627885664|tw4712111768180938700|tw11022071409414315260|tw14076808583737585357|tw9003388006758892851|tw2611594193862845307|tw10468438204584266708|tw11851005097273789993|tw15508883281622426288|tw9002271706340923328|tw8332278951146613023|tw8273307748526805179|tw12538352140068291|tw18291814968560052423|tw6604681426267801903|tw12999709415398161146|tw15796141375147956019|tw17414967221371341534|tw18210595642669938917|tw1491693075118627401|tw8345526691858424396|tw7439317284482530265|tw7660517567472199745|tw15038264860337664346|tw12096115981239373270|tw2840235235554174221|tw480557508083252533|tw599942406681053098|tw14958276262534543851|tw13011306713660042984|tw11094702656648334285|tw14399644913626324214|tw2290564568302753952|tw9688364469292018988|tw15623826746782520273|tw5897426124265825630|tw11899571225251548252|tw5544821111471288277|tw1211145567019568079|tw8931091686385914798|tw4232717136764322929|tw3782290959355013508|tw4081266542354448384|tw659662623682969669|tw11468162696098485642|tw11778879389391171857|tw14509636454336717601|tw9466900674539842754|tw523098531294711467|tw2635399659036212773|tw7060503367061829231|tw5235192271621893630|tw2031007119749348267|tw14476040307400455007|tw17911285355288106821|tw3772204354308651914|tw13807243884158622770|tw11400045125782895644|tw5172453471970108590|tw9615865774153603905|tw4075094582956896606|tw6654790052004303439|tw1589162481535497288|tw14737439291205814536|tw17111602886727363389|tw17589160474478229918|tw6952021283552352918|tw9828403147850637936|tw5634997401085546219|tw12978650863118768284|tw3101791787619463966|tw13015237444803281561|tw16533632210104872986|tw11046433351758512062|tw18285492527637776085|tw15448678497104836337|tw283380048455100159|tw6205753967900916583|tw7737106237107783806|tw6873162982370184834|tw5228029485893710947|tw14755396859002162271|tw1460414960821156845|tw11193176314645171438|tw17357931269538589394|tw12672807804636235296|tw822041899202527135|tw17117987755015343382|tw11002696952509079896|tw1951260497841772377|tw12679369565230414128|tw14545663773182358922|tw17104169961699518230|tw16474386630363266386|tw3740761447649462583|tw14324374946313031427|tw16702340925981061834|tw13945727465075335654|tw17898050241005971746|tw4566616205145652399|tw6089057040570610355|tw2775308430977101713|tw3223919170160132158|tw9670085682205102079|tw17145760495099808183|tw14325558832146085350|tw282821992368401050|tw2641079260274361091|tw15716854849981272697|tw17617363524986933639|tw9146336639797292065|tw17975454450140948312|tw2869568273761434949|tw416779113453376807|tw715135213309522629|tw8809154616785663372|tw10725241754022567321|tw17924915094726869812|tw3288511770308832585|tw15088097291815221327|tw10894474060689713205|tw4763319175224318466|tw5655934858112691694|tw9112286749835929910|tw3233235831090927328|tw10887382819478829895|tw5677322211675855675|tw12054883680831360615|tw4477654773842223766|tw8800451761176503519|tw15780612571565196781|tw15191280392154708039|tw3151212197881726691|tw12904912653966972787|tw5187193322411797923|tw11182354646524965711|tw17432386430057135558|tw9323780125250769926|tw324122850875845295|tw16133565274682832778|tw1250113076683298143|tw1067271600179676493|tw14595102894245469312|tw14957481153749560047|tw16699399915348475741|tw7639390918189608112|tw9380643839722417761|tw5067641084063647230|tw5567446249222453281|tw10074433723175530199|tw8915662597635876082|tw16617985464961321834|tw12907922402962157768|tw1818262402398348066|tw16943002190996001830|tw3269331309793961164|tw15647525155904555564|tw17631404350386607569|tw5796078431632738751|tw785294192065096131|tw4427815035079950448|tw13566111486456269529|tw17544423915309454453|tw3333690224192634142|tw2025906994603653465|tw14512315704777149416|tw8785749482216034824|tw2014010370128294136|tw13769050268629654725|tw1381892600962409152|tw4129883635698275707|tw15467769218175749322|tw4692900641319842995|tw4380237461115519756|tw6930801037097615542|tw14299953689444095594|tw8838522307057115628|tw14549105886919785713|tw3233662022354004867|tw16019319720088257303|tw3185787486738708795|tw18050297540054066750|tw12343333648671857066|tw5229088209376536030|tw4115196579920670611|tw10202125406998806763|tw14034178366853485679|tw16226318909500041879|tw16271811518132807599|tw8821153685948736646|tw5683597326140523758|tw2376433233983689200|tw12718126576872452645|tw11410200865468138162|tw13634349318604640352|tw12832022983863232767|tw17356439744558748882|tw4750857217025189219|tw1701201692463758410|tw6335735685704862801|tw18263971257624458688|tw14736745529825552773|tw4903190781290755997|tw7574014464693408432|tw6906364166490384327|tw5337727158408447743|tw6253656883436344586|tw4920983975310937571|tw16421460696591287282|tw12803872464079033811|tw14864147993229937076|tw13133670936997078445|tw7345410517153039278|tw13365525845549272971|tw7564346185952890570|tw11183224797222018714|tw4393408235174842539|tw6807931361496020028|tw13079483858552247938|tw5000190884359529357|tw11711606302816246583|tw16689608612048612760|tw17270126539145869208|tw14673766127804002863|tw11060289945529058435|tw10106503167288493344|tw3474442052905372078|tw8469183954388267311|tw6476096909932193196|tw15816426523340390419|tw12893588718916920810|tw15009575472089438303|tw13130063096298696306|tw14821951256842822888|tw911024881142746654|tw8588100448192544691|tw14371773726146024404|tw6498568558021524817|tw7016166035355864984|tw14254793924409262005|tw75147671132658529|tw5014989698992088335|tw12951306871291694274|tw10834287069829127560|tw14494733587856537164|tw1283238920814913484|tw2279652310235147515|tw10774588075485595470|tw9862178036984337501|tw7346582355699944945|tw285264344384041569|tw2208895268143136489|tw16463203670651593875|tw2065724447938742975|tw1808849440315248500|tw13362792852153702043|tw926885665076352985|tw11476325150425358817|tw4549553009341967225|tw14481148497852486720|tw1796121375791930850|tw17124391422975527973|tw15435606323796839588|tw1238067672962363090|tw7323298605207285944|tw536587397615603020|tw5197117594907316749|tw3588462737189560036|tw14033913137369833616|tw8798385495598778337|tw4963997628525506290|tw12987377823235559756|tw5518898158165338631|tw7804467568070076702|tw13785895061530056533|tw5524146107177013939|tw13042892634669073320|tw3675843386195354299|tw7303114293880513734|tw15050019049574162548|tw10389101253989853068|tw2419128242377091900|tw355460700101292716|tw12155428503884379640|tw13667798334687914399|tw2916046316670681502|tw5973364409557523274|tw1640742663277516395|tw2779873049882194757|tw7930319194384797949|tw3245418481788554288|tw12630863816355863852|tw13058980486127785693|tw5648972820971596771|tw1911809377396491835|tw16633948860976064221|tw857989942771685454|tw928513956732239859|tw9684438394795170442|tw10683543272029981552|tw11469526576773986033|tw2281210290571383894|tw12717108448253667331|tw9814086229410656413|tw13637129097631355831|tw13666999649280908725|tw17511068199770265401|tw15310684112636812317|tw16684065576591656949|tw15869667567001219290|tw9677530453839712593|tw5935799114823627645|tw11175208612529646919|tw9128542547814861439|tw11200291829507994|tw15427953422229718747|tw18429612993187994183|tw18329472658934410995|tw13435965437328877369|tw14391797920595024375|tw3857903820563092766|tw12286709120350776115|tw17483497825779031593
set_option maxRecDepth 100000 in
set_option maxHeartbeats 0 in
theorem PySem.Challenge.cw_lotjoin_k31_step_told_holds : PySem.Challenge.rw_lotjoin_k31_step_told.Holds := by
 w_on;o_law;k_head;(case hw=>w_witness2)
 k_fill
 refine LJ.Pw (l:=PySem.Challenge.rw_lotjoin_k31_step_told) (kk:=25) LJ.dw rfl rfl rfl ⟨rfl,by decide,by decide,rfl⟩ ?C (λP=>by kernel_rfl) ?F
 case C =>
  intro w h KX;refine LJ.Vi KX ?_
  repeat' first|exact LJ.eB.nil|refine LJ.qD (by k_is) (by k_is) (by k_is) (by k_is) (by kernel_rfl) ?_
 case F =>
  intro w mg fa h KX G vt;refine' LJ.Ui KX G vt ?dD ?dL ?dN ⟨_,by k_is,_,rfl⟩ ⟨_,by k_is,_,rfl⟩ ⟨_,by k_is,_,rfl⟩ ?aL ?lL ?nL ?aC0 ?aC1 ?aC2 ?aC3 ?aC4 ?aC5 ?aC6 ?aC7 ?aC8 ?aC9 ?aC10 ?aC11 ?aC12 ?kit ?exm ?zVE ?aI2 ?lI2 ?qI2 ?kI2 ?iI2 ?lC2 ?nC2 ?kC2
  (case dD=>repeat' first|exact LJ.gn.nil|refine LJ.yw (by k_is) (by k_is) (by k_is) (by k_is) ?_)
  (case dL=>repeat' first|exact LJ.eB.nil|refine LJ.qD (by k_is) (by k_is) (by k_is) (by k_is) (by kernel_rfl) ?_)
  (case dN=>repeat' first|exact List.forall_mem_nil _|refine LJ.Q5 (by k_is) ?_)
  (case aL=>k_is)
  (case aC0=>k_is)
  (case aC1=>k_is)
  (case aC2=>k_is)
  (case aC3=>k_is)
  (case aC4=>k_is)
  (case aC5=>k_is)
  (case aC6=>k_is)
  (case aC7=>k_is)
  (case aC8=>k_is)
  (case aC9=>k_is)
  (case aC10=>k_is)
  (case aC11=>k_is)
  (case aC12=>k_is)
  (case lL=>k_is)
  (case nL=>kernel_rfl)
  (case kit=>kernel_rfl)
  (case exm=>kernel_rfl)
  (case zVE=>k_is)
  (case aI2=>k_is)
  (case lI2=>k_is)
  (case qI2=>k_is)
  (case kI2=>k_is)
  (case iI2=>k_is)
  (case lC2=>k_is)
  (case nC2=>kernel_rfl)
  (case kC2=>k_is)
